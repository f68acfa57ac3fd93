import PyProof.Rows.All
import Wide.All
import OpenK.AllK
import Wide.FinOn
import KE.KStateDown
import HandS.Base
import HandS.Call
import HandS.Ends
import HandS.More
import HandS.Words
import HandS.WordsExc
import HandS.Defaults
import HandS.Head0
import HandS.Head1
import HandS.Head2
import HandS.HeadEnd
import HandS.HeadHook1
import HandS.HeadHook2
import HandS.ExcInit
import HandS.ExcField
import HandS.ExcIs
import PySem.Challenge.RW_skiphall_k43_editions_made_and_refused
import HandS.ForMost
import HandS.ForExc
import HandS.Walk
import HandS.IsInst
import HandS.TupAny
import HandS.MakeKwOnly
import HandS.DictComp
import HandS.SetKeys
import HandS.Flow
import PyProof.StrBlock2
import HandS.Wide
import PyProof.NeKinds
import PyProof.Rows.InDataRows
import HandS.TupSets
import HandS.Evl
import HandS.Style
import KE.KTupSum
import HandS.SetBool
import KE.KDictPairs
import KE.KEqDict
import HandS.ListItems
import PyProof.ZipIter
import KE.KItemsList
import HandS.DictSub
import HandS.OwnEq
import HandS.TryMany
import KE.KExcIs
import HandS.ExcOwn
import HandS.Conv
import HandS.Text
import HandS.DeepEq
section H0_part
set_option Elab.async false
set_option linter.all false
set_option maxRecDepth 100000
set_option maxHeartbeats 0
namespace K3
open PySem PySem.Spec PyProof.Rows L2
def top (i : Nat) : Stmt := PySem.Challenge.pw_skiphall_k43_editions_made_and_refused.main.body.getD i (.Pass ⟨0, 0, 0, 0⟩)
abbrev s__wall : Stmt := top 0
abbrev s_Is_init : Stmt := inClass (top 3) 0
abbrev s_Is_eq : Stmt := inClass (top 3) 1
abbrev s_Has_init : Stmt := inClass (top 4) 0
abbrev s_Has_eq : Stmt := inClass (top 4) 1
abbrev s_Above_init : Stmt := inClass (top 5) 0
abbrev s_Above_eq : Stmt := inClass (top 5) 1
abbrev s_Below_init : Stmt := inClass (top 6) 0
abbrev s_Below_eq : Stmt := inClass (top 6) 1
abbrev s_Not_init : Stmt := inClass (top 7) 0
abbrev s_Not_eq : Stmt := inClass (top 7) 1
abbrev s_Both_init : Stmt := inClass (top 8) 0
abbrev s_Both_eq : Stmt := inClass (top 8) 1
abbrev s_Either_init : Stmt := inClass (top 9) 0
abbrev s_Either_eq : Stmt := inClass (top 9) 1
abbrev s_simple_ones : Stmt := top 10
abbrev s_HallError_told : Stmt := inClass (top 12) 0
abbrev s_BadCount_init : Stmt := inClass (top 13) 0
abbrev s_BadCount_told : Stmt := inClass (top 13) 1
abbrev s_NoName_init : Stmt := inClass (top 14) 0
abbrev s_NoName_told : Stmt := inClass (top 14) 1
abbrev s_Twice_init : Stmt := inClass (top 15) 0
abbrev s_Twice_told : Stmt := inClass (top 15) 1
abbrev s_NoQuestion_init : Stmt := inClass (top 16) 0
abbrev s_NoQuestion_told : Stmt := inClass (top 16) 1
abbrev s_NoFit_init : Stmt := inClass (top 17) 0
abbrev s_NoFit_told : Stmt := inClass (top 17) 1
abbrev s_is_name : Stmt := top 22
abbrev s_refuse_no_name : Stmt := top 23
abbrev s_refuse_twice : Stmt := top 24
abbrev s_One_init : Stmt := inClass (top 31) 0
abbrev s_One_eq : Stmt := inClass (top 31) 1
abbrev s_Some_init : Stmt := inClass (top 32) 0
abbrev s_Some_eq : Stmt := inClass (top 32) 1
abbrev s_Number_init : Stmt := inClass (top 33) 0
abbrev s_Number_eq : Stmt := inClass (top 33) 1
abbrev s_Check_init : Stmt := inClass (top 34) 0
abbrev s_Check_eq : Stmt := inClass (top 34) 1
abbrev s_Section_init : Stmt := inClass (top 35) 0
abbrev s_Section_eq : Stmt := inClass (top 35) 1
abbrev s_Rounds_init : Stmt := inClass (top 36) 0
abbrev s_Rounds_eq : Stmt := inClass (top 36) 1
abbrev s_Form_init : Stmt := inClass (top 37) 0
abbrev s_Form_eq : Stmt := inClass (top 37) 1
abbrev s_Form_outline : Stmt := inClass (top 37) 2
abbrev s_Form_names : Stmt := inClass (top 37) 3
abbrev s_Form_question : Stmt := inClass (top 37) 4
abbrev s_Form_in_rounds : Stmt := inClass (top 37) 5
abbrev s_is_question : Stmt := top 38
abbrev s_is_named : Stmt := top 39
abbrev s_lay_out : Stmt := top 40
abbrev s_check_rows : Stmt := top 41
abbrev s_check_row : Stmt := top 42
abbrev s_check_name : Stmt := top 43
abbrev s_check_options : Stmt := top 44
abbrev s_refuse_options : Stmt := top 45
abbrev s_check_bounds : Stmt := top 46
abbrev s_check_inner_rows : Stmt := top 47
abbrev s_check_count : Stmt := top 48
abbrev s_check_conditions : Stmt := top 49
abbrev s_conditions_of : Stmt := top 50
abbrev s_question_ahead : Stmt := top 51
abbrev s_suits : Stmt := top 52
abbrev s_Edition_init : Stmt := inClass (top 54) 0
abbrev s_Edition_eq : Stmt := inClass (top 54) 1
abbrev s_refuse_counts : Stmt := top 55
abbrev s_refuse_calls : Stmt := top 56
abbrev s_has_question : Stmt := top 57
abbrev s__law_cell_at : Stmt := top 59
abbrev s__law_well : Stmt := top 60
abbrev s__law_draw : Stmt := top 61
abbrev s__law_pick : Stmt := top 62
abbrev s__law_name : Stmt := top 63
abbrev s__law_names : Stmt := top 64
abbrev s__law_fields : Stmt := top 65
abbrev s__law_pool : Stmt := top 66
abbrev s__law_condition : Stmt := top 67
abbrev s__law_question : Stmt := top 68
abbrev s__law_within : Stmt := top 69
abbrev s__law_form : Stmt := top 70
abbrev s__law_is_name : Stmt := top 71
abbrev s__law_pairs : Stmt := top 72
abbrev s__law_repeated : Stmt := top 73
abbrev s__law_due : Stmt := top 74
abbrev s__law_made : Stmt := top 75
abbrev s_law : Stmt := top 76
/-- the object that a keyword's default is -/
def kwdAt (f : Str × Option Str) (x : Str) (K : PySem.W.Frag) : Addr := match K.lookup (He.fAd K f) with
  | some ⟨_, _, .func fd, _⟩ => (match fd.kwdefaults with
    | .ref D => (match PySem.W.nsIn K D x with
      | some (some (.ref a)) => a
      | _ => 0)
    | _ => 0)
  | _ => 0

namespace D
def d__wall : He.DefD := ⟨("_wall", none), "_wall", "_wall", defArgs s__wall, defBody s__wall, defScope s__wall, [], []⟩
def d_Is_init : He.DefD := ⟨("Is", some "__init__"), "__init__", "Is.__init__", defArgs s_Is_init, defBody s_Is_init, defScope s_Is_init, [], []⟩
def d_Is_eq : He.DefD := ⟨("Is", some "__eq__"), "__eq__", "Is.__eq__", defArgs s_Is_eq, defBody s_Is_eq, defScope s_Is_eq, [], []⟩
def d_Has_init : He.DefD := ⟨("Has", some "__init__"), "__init__", "Has.__init__", defArgs s_Has_init, defBody s_Has_init, defScope s_Has_init, [], []⟩
def d_Has_eq : He.DefD := ⟨("Has", some "__eq__"), "__eq__", "Has.__eq__", defArgs s_Has_eq, defBody s_Has_eq, defScope s_Has_eq, [], []⟩
def d_Above_init : He.DefD := ⟨("Above", some "__init__"), "__init__", "Above.__init__", defArgs s_Above_init, defBody s_Above_init, defScope s_Above_init, [], []⟩
def d_Above_eq : He.DefD := ⟨("Above", some "__eq__"), "__eq__", "Above.__eq__", defArgs s_Above_eq, defBody s_Above_eq, defScope s_Above_eq, [], []⟩
def d_Below_init : He.DefD := ⟨("Below", some "__init__"), "__init__", "Below.__init__", defArgs s_Below_init, defBody s_Below_init, defScope s_Below_init, [], []⟩
def d_Below_eq : He.DefD := ⟨("Below", some "__eq__"), "__eq__", "Below.__eq__", defArgs s_Below_eq, defBody s_Below_eq, defScope s_Below_eq, [], []⟩
def d_Not_init : He.DefD := ⟨("Not", some "__init__"), "__init__", "Not.__init__", defArgs s_Not_init, defBody s_Not_init, defScope s_Not_init, [], []⟩
def d_Not_eq : He.DefD := ⟨("Not", some "__eq__"), "__eq__", "Not.__eq__", defArgs s_Not_eq, defBody s_Not_eq, defScope s_Not_eq, [], []⟩
def d_Both_init : He.DefD := ⟨("Both", some "__init__"), "__init__", "Both.__init__", defArgs s_Both_init, defBody s_Both_init, defScope s_Both_init, [], []⟩
def d_Both_eq : He.DefD := ⟨("Both", some "__eq__"), "__eq__", "Both.__eq__", defArgs s_Both_eq, defBody s_Both_eq, defScope s_Both_eq, [], []⟩
def d_Either_init : He.DefD := ⟨("Either", some "__init__"), "__init__", "Either.__init__", defArgs s_Either_init, defBody s_Either_init, defScope s_Either_init, [], []⟩
def d_Either_eq : He.DefD := ⟨("Either", some "__eq__"), "__eq__", "Either.__eq__", defArgs s_Either_eq, defBody s_Either_eq, defScope s_Either_eq, [], []⟩
def d_simple_ones : He.DefD := ⟨("simple_ones", none), "simple_ones", "simple_ones", defArgs s_simple_ones, defBody s_simple_ones, defScope s_simple_ones, [], []⟩
def d_HallError_told : He.DefD := ⟨("HallError", some "told"), "told", "HallError.told", defArgs s_HallError_told, defBody s_HallError_told, defScope s_HallError_told, [], []⟩
def d_BadCount_init : He.DefD := ⟨("BadCount", some "__init__"), "__init__", "BadCount.__init__", defArgs s_BadCount_init, defBody s_BadCount_init, defScope s_BadCount_init, [], []⟩
def d_BadCount_told : He.DefD := ⟨("BadCount", some "told"), "told", "BadCount.told", defArgs s_BadCount_told, defBody s_BadCount_told, defScope s_BadCount_told, [], []⟩
def d_NoName_init : He.DefD := ⟨("NoName", some "__init__"), "__init__", "NoName.__init__", defArgs s_NoName_init, defBody s_NoName_init, defScope s_NoName_init, [], []⟩
def d_NoName_told : He.DefD := ⟨("NoName", some "told"), "told", "NoName.told", defArgs s_NoName_told, defBody s_NoName_told, defScope s_NoName_told, [], []⟩
def d_Twice_init : He.DefD := ⟨("Twice", some "__init__"), "__init__", "Twice.__init__", defArgs s_Twice_init, defBody s_Twice_init, defScope s_Twice_init, [], []⟩
def d_Twice_told : He.DefD := ⟨("Twice", some "told"), "told", "Twice.told", defArgs s_Twice_told, defBody s_Twice_told, defScope s_Twice_told, [], []⟩
def d_NoQuestion_init : He.DefD := ⟨("NoQuestion", some "__init__"), "__init__", "NoQuestion.__init__", defArgs s_NoQuestion_init, defBody s_NoQuestion_init, defScope s_NoQuestion_init, [], []⟩
def d_NoQuestion_told : He.DefD := ⟨("NoQuestion", some "told"), "told", "NoQuestion.told", defArgs s_NoQuestion_told, defBody s_NoQuestion_told, defScope s_NoQuestion_told, [], []⟩
def d_NoFit_init : He.DefD := ⟨("NoFit", some "__init__"), "__init__", "NoFit.__init__", defArgs s_NoFit_init, defBody s_NoFit_init, defScope s_NoFit_init, [], []⟩
def d_NoFit_told : He.DefD := ⟨("NoFit", some "told"), "told", "NoFit.told", defArgs s_NoFit_told, defBody s_NoFit_told, defScope s_NoFit_told, [], []⟩
def d_is_name : He.DefD := ⟨("is_name", none), "is_name", "is_name", defArgs s_is_name, defBody s_is_name, defScope s_is_name, [], []⟩
def d_refuse_no_name : He.DefD := ⟨("refuse_no_name", none), "refuse_no_name", "refuse_no_name", defArgs s_refuse_no_name, defBody s_refuse_no_name, defScope s_refuse_no_name, [], []⟩
def d_refuse_twice : He.DefD := ⟨("refuse_twice", none), "refuse_twice", "refuse_twice", defArgs s_refuse_twice, defBody s_refuse_twice, defScope s_refuse_twice, [], []⟩
def d_One_init : He.DefD := ⟨("One", some "__init__"), "__init__", "One.__init__", defArgs s_One_init, defBody s_One_init, defScope s_One_init, [], [("where", .non)]⟩
def d_One_eq : He.DefD := ⟨("One", some "__eq__"), "__eq__", "One.__eq__", defArgs s_One_eq, defBody s_One_eq, defScope s_One_eq, [], []⟩
def d_Some_init : He.DefD := ⟨("Some", some "__init__"), "__init__", "Some.__init__", defArgs s_Some_init, defBody s_Some_init, defScope s_Some_init, [], [("where", .non)]⟩
def d_Some_eq : He.DefD := ⟨("Some", some "__eq__"), "__eq__", "Some.__eq__", defArgs s_Some_eq, defBody s_Some_eq, defScope s_Some_eq, [], []⟩
def d_Number_init : He.DefD := ⟨("Number", some "__init__"), "__init__", "Number.__init__", defArgs s_Number_init, defBody s_Number_init, defScope s_Number_init, [], [("where", .non)]⟩
def d_Number_eq : He.DefD := ⟨("Number", some "__eq__"), "__eq__", "Number.__eq__", defArgs s_Number_eq, defBody s_Number_eq, defScope s_Number_eq, [], []⟩
def d_Check_init : He.DefD := ⟨("Check", some "__init__"), "__init__", "Check.__init__", defArgs s_Check_init, defBody s_Check_init, defScope s_Check_init, [], [("where", .non)]⟩
def d_Check_eq : He.DefD := ⟨("Check", some "__eq__"), "__eq__", "Check.__eq__", defArgs s_Check_eq, defBody s_Check_eq, defScope s_Check_eq, [], []⟩
def d_Section_init : He.DefD := ⟨("Section", some "__init__"), "__init__", "Section.__init__", defArgs s_Section_init, defBody s_Section_init, defScope s_Section_init, [], [("where", .non)]⟩
def d_Section_eq : He.DefD := ⟨("Section", some "__eq__"), "__eq__", "Section.__eq__", defArgs s_Section_eq, defBody s_Section_eq, defScope s_Section_eq, [], []⟩
def d_Rounds_init : He.DefD := ⟨("Rounds", some "__init__"), "__init__", "Rounds.__init__", defArgs s_Rounds_init, defBody s_Rounds_init, defScope s_Rounds_init, [], [("where", .non)]⟩
def d_Rounds_eq : He.DefD := ⟨("Rounds", some "__eq__"), "__eq__", "Rounds.__eq__", defArgs s_Rounds_eq, defBody s_Rounds_eq, defScope s_Rounds_eq, [], []⟩
def d_Form_init : He.DefD := ⟨("Form", some "__init__"), "__init__", "Form.__init__", defArgs s_Form_init, defBody s_Form_init, defScope s_Form_init, [], []⟩
def d_Form_eq : He.DefD := ⟨("Form", some "__eq__"), "__eq__", "Form.__eq__", defArgs s_Form_eq, defBody s_Form_eq, defScope s_Form_eq, [], []⟩
def d_Form_outline : He.DefD := ⟨("Form", some "outline"), "outline", "Form.outline", defArgs s_Form_outline, defBody s_Form_outline, defScope s_Form_outline, [], []⟩
def d_Form_names : He.DefD := ⟨("Form", some "names"), "names", "Form.names", defArgs s_Form_names, defBody s_Form_names, defScope s_Form_names, [], []⟩
def d_Form_question : He.DefD := ⟨("Form", some "question"), "question", "Form.question", defArgs s_Form_question, defBody s_Form_question, defScope s_Form_question, [], []⟩
def d_Form_in_rounds : He.DefD := ⟨("Form", some "in_rounds"), "in_rounds", "Form.in_rounds", defArgs s_Form_in_rounds, defBody s_Form_in_rounds, defScope s_Form_in_rounds, [], []⟩
def d_is_question : He.DefD := ⟨("is_question", none), "is_question", "is_question", defArgs s_is_question, defBody s_is_question, defScope s_is_question, [], []⟩
def d_is_named : He.DefD := ⟨("is_named", none), "is_named", "is_named", defArgs s_is_named, defBody s_is_named, defScope s_is_named, [], []⟩
def d_lay_out : He.DefD := ⟨("lay_out", none), "lay_out", "lay_out", defArgs s_lay_out, defBody s_lay_out, defScope s_lay_out, [], []⟩
def d_check_rows : He.DefD := ⟨("check_rows", none), "check_rows", "check_rows", defArgs s_check_rows, defBody s_check_rows, defScope s_check_rows, [], []⟩
def d_check_row : He.DefD := ⟨("check_row", none), "check_row", "check_row", defArgs s_check_row, defBody s_check_row, defScope s_check_row, [], []⟩
def d_check_name : He.DefD := ⟨("check_name", none), "check_name", "check_name", defArgs s_check_name, defBody s_check_name, defScope s_check_name, [], []⟩
def d_check_options : He.DefD := ⟨("check_options", none), "check_options", "check_options", defArgs s_check_options, defBody s_check_options, defScope s_check_options, [], []⟩
def d_refuse_options : He.DefD := ⟨("refuse_options", none), "refuse_options", "refuse_options", defArgs s_refuse_options, defBody s_refuse_options, defScope s_refuse_options, [], []⟩
def d_check_bounds : He.DefD := ⟨("check_bounds", none), "check_bounds", "check_bounds", defArgs s_check_bounds, defBody s_check_bounds, defScope s_check_bounds, [], []⟩
def d_check_inner_rows : He.DefD := ⟨("check_inner_rows", none), "check_inner_rows", "check_inner_rows", defArgs s_check_inner_rows, defBody s_check_inner_rows, defScope s_check_inner_rows, [], []⟩
def d_check_count : He.DefD := ⟨("check_count", none), "check_count", "check_count", defArgs s_check_count, defBody s_check_count, defScope s_check_count, [], []⟩
def d_check_conditions : He.DefD := ⟨("check_conditions", none), "check_conditions", "check_conditions", defArgs s_check_conditions, defBody s_check_conditions, defScope s_check_conditions, [], []⟩
def d_conditions_of : He.DefD := ⟨("conditions_of", none), "conditions_of", "conditions_of", defArgs s_conditions_of, defBody s_conditions_of, defScope s_conditions_of, [], []⟩
def d_question_ahead : He.DefD := ⟨("question_ahead", none), "question_ahead", "question_ahead", defArgs s_question_ahead, defBody s_question_ahead, defScope s_question_ahead, [], []⟩
def d_suits : He.DefD := ⟨("suits", none), "suits", "suits", defArgs s_suits, defBody s_suits, defScope s_suits, [], []⟩
def d_Edition_init : He.DefD := ⟨("Edition", some "__init__"), "__init__", "Edition.__init__", defArgs s_Edition_init, defBody s_Edition_init, defScope s_Edition_init, [], [("calls", .adr (kwdAt ("Edition", some "__init__") "calls"))]⟩
def d_Edition_eq : He.DefD := ⟨("Edition", some "__eq__"), "__eq__", "Edition.__eq__", defArgs s_Edition_eq, defBody s_Edition_eq, defScope s_Edition_eq, [], []⟩
def d_refuse_counts : He.DefD := ⟨("refuse_counts", none), "refuse_counts", "refuse_counts", defArgs s_refuse_counts, defBody s_refuse_counts, defScope s_refuse_counts, [], []⟩
def d_refuse_calls : He.DefD := ⟨("refuse_calls", none), "refuse_calls", "refuse_calls", defArgs s_refuse_calls, defBody s_refuse_calls, defScope s_refuse_calls, [], []⟩
def d_has_question : He.DefD := ⟨("has_question", none), "has_question", "has_question", defArgs s_has_question, defBody s_has_question, defScope s_has_question, [], []⟩
def d__law_cell_at : He.DefD := ⟨("_law_cell_at", none), "_law_cell_at", "_law_cell_at", defArgs s__law_cell_at, defBody s__law_cell_at, defScope s__law_cell_at, [], []⟩
def d__law_well : He.DefD := ⟨("_law_well", none), "_law_well", "_law_well", defArgs s__law_well, defBody s__law_well, defScope s__law_well, [], []⟩
def d__law_draw : He.DefD := ⟨("_law_draw", none), "_law_draw", "_law_draw", defArgs s__law_draw, defBody s__law_draw, defScope s__law_draw, [], []⟩
def d__law_pick : He.DefD := ⟨("_law_pick", none), "_law_pick", "_law_pick", defArgs s__law_pick, defBody s__law_pick, defScope s__law_pick, [], []⟩
def d__law_name : He.DefD := ⟨("_law_name", none), "_law_name", "_law_name", defArgs s__law_name, defBody s__law_name, defScope s__law_name, [], []⟩
def d__law_names : He.DefD := ⟨("_law_names", none), "_law_names", "_law_names", defArgs s__law_names, defBody s__law_names, defScope s__law_names, [], []⟩
def d__law_fields : He.DefD := ⟨("_law_fields", none), "_law_fields", "_law_fields", defArgs s__law_fields, defBody s__law_fields, defScope s__law_fields, [], []⟩
def d__law_pool : He.DefD := ⟨("_law_pool", none), "_law_pool", "_law_pool", defArgs s__law_pool, defBody s__law_pool, defScope s__law_pool, [], []⟩
def d__law_condition : He.DefD := ⟨("_law_condition", none), "_law_condition", "_law_condition", defArgs s__law_condition, defBody s__law_condition, defScope s__law_condition, [], []⟩
def d__law_question : He.DefD := ⟨("_law_question", none), "_law_question", "_law_question", defArgs s__law_question, defBody s__law_question, defScope s__law_question, [], []⟩
def d__law_within : He.DefD := ⟨("_law_within", none), "_law_within", "_law_within", defArgs s__law_within, defBody s__law_within, defScope s__law_within, [], []⟩
def d__law_form : He.DefD := ⟨("_law_form", none), "_law_form", "_law_form", defArgs s__law_form, defBody s__law_form, defScope s__law_form, [], []⟩
def d__law_is_name : He.DefD := ⟨("_law_is_name", none), "_law_is_name", "_law_is_name", defArgs s__law_is_name, defBody s__law_is_name, defScope s__law_is_name, [], []⟩
def d__law_pairs : He.DefD := ⟨("_law_pairs", none), "_law_pairs", "_law_pairs", defArgs s__law_pairs, defBody s__law_pairs, defScope s__law_pairs, [], []⟩
def d__law_repeated : He.DefD := ⟨("_law_repeated", none), "_law_repeated", "_law_repeated", defArgs s__law_repeated, defBody s__law_repeated, defScope s__law_repeated, [], []⟩
def d__law_due : He.DefD := ⟨("_law_due", none), "_law_due", "_law_due", defArgs s__law_due, defBody s__law_due, defScope s__law_due, [], []⟩
def d__law_made : He.DefD := ⟨("_law_made", none), "_law_made", "_law_made", defArgs s__law_made, defBody s__law_made, defScope s__law_made, [], []⟩
def d_law : He.DefD := ⟨("law", none), "law", "law", defArgs s_law, defBody s_law, defScope s_law, [], []⟩
def fn : List He.DefD := [d__wall, d_Is_init, d_Is_eq, d_Has_init, d_Has_eq, d_Above_init, d_Above_eq, d_Below_init, d_Below_eq, d_Not_init, d_Not_eq, d_Both_init, d_Both_eq, d_Either_init, d_Either_eq, d_simple_ones, d_HallError_told, d_BadCount_init, d_BadCount_told, d_NoName_init, d_NoName_told, d_Twice_init, d_Twice_told, d_NoQuestion_init, d_NoQuestion_told, d_NoFit_init, d_NoFit_told, d_is_name, d_refuse_no_name, d_refuse_twice, d_One_init, d_One_eq, d_Some_init, d_Some_eq, d_Number_init, d_Number_eq, d_Check_init, d_Check_eq, d_Section_init, d_Section_eq, d_Rounds_init, d_Rounds_eq, d_Form_init, d_Form_eq, d_Form_outline, d_Form_names, d_Form_question, d_Form_in_rounds, d_is_question, d_is_named, d_lay_out, d_check_rows, d_check_row, d_check_name, d_check_options, d_refuse_options, d_check_bounds, d_check_inner_rows, d_check_count, d_check_conditions, d_conditions_of, d_question_ahead, d_suits, d_Edition_init, d_Edition_eq, d_refuse_counts, d_refuse_calls, d_has_question, d__law_cell_at, d__law_well, d__law_draw, d__law_pick, d__law_name, d__law_names, d__law_fields, d__law_pool, d__law_condition, d__law_question, d__law_within, d__law_form, d__law_is_name, d__law_pairs, d__law_repeated, d__law_due, d__law_made, d_law]
def fa : List He.Fa := [.glo "_wall",
  .glo "Condition",
  .keep "Condition",
  .glo "Is",
  .keep "Is",
  .glo "Has",
  .keep "Has",
  .glo "Above",
  .keep "Above",
  .glo "Below",
  .keep "Below",
  .glo "Not",
  .keep "Not",
  .glo "Both",
  .keep "Both",
  .glo "Either",
  .keep "Either",
  .glo "simple_ones",
  .glo "HallError",
  .keep "HallError",
  .glo "BadCount",
  .keep "BadCount",
  .glo "NoName",
  .keep "NoName",
  .glo "Twice",
  .keep "Twice",
  .glo "NoQuestion",
  .keep "NoQuestion",
  .glo "NoFit",
  .keep "NoFit",
  .str "FIGURES" "0123456789",
  .str "LETTERS" "abcdefghijklmnopqrstuvwxyz",
  .int "LONGEST_NAME" 8,
  .glo "is_name",
  .glo "refuse_no_name",
  .glo "refuse_twice",
  .int "MOST_ROWS" 40,
  .int "MOST_OPTIONS_OF_ONE" 6,
  .int "MOST_OPTIONS_OF_SOME" 4,
  .int "MOST_ROUNDS" 4,
  .glo "Row",
  .keep "Row",
  .glo "One",
  .keep "One",
  .glo "Some",
  .keep "Some",
  .glo "Number",
  .keep "Number",
  .glo "Check",
  .keep "Check",
  .glo "Section",
  .keep "Section",
  .glo "Rounds",
  .keep "Rounds",
  .glo "Form",
  .keep "Form",
  .glo "is_question",
  .glo "is_named",
  .glo "lay_out",
  .glo "check_rows",
  .glo "check_row",
  .glo "check_name",
  .glo "check_options",
  .glo "refuse_options",
  .glo "check_bounds",
  .glo "check_inner_rows",
  .glo "check_count",
  .glo "check_conditions",
  .glo "conditions_of",
  .glo "question_ahead",
  .glo "suits",
  .glo "Edition",
  .keep "Edition",
  .glo "refuse_counts",
  .glo "refuse_calls",
  .glo "has_question",
  .glo "_law_cell_at",
  .glo "_law_well",
  .glo "_law_draw",
  .glo "_law_pick",
  .glo "_law_name",
  .glo "_law_names",
  .glo "_law_fields",
  .glo "_law_pool",
  .glo "_law_condition",
  .glo "_law_question",
  .glo "_law_within",
  .glo "_law_form",
  .glo "_law_is_name",
  .glo "_law_pairs",
  .glo "_law_repeated",
  .glo "_law_due",
  .glo "_law_made",
  .glo "law",
  .free "all",
  .free "enumerate",
  .free "int",
  .free "isinstance",
  .free "len",
  .free "list",
  .free "range",
  .free "set",
  .free "str",
  .free "tuple",
  .cls "Is",
  .mkr "Is",
  .noat "Is" "name",
  .noat "Is" "option",
  .meth "Is" "__init__",
  .meth "Is" "__eq__",
  .cls "Has",
  .mkr "Has",
  .noat "Has" "name",
  .noat "Has" "option",
  .meth "Has" "__init__",
  .meth "Has" "__eq__",
  .cls "Above",
  .mkr "Above",
  .noat "Above" "name",
  .noat "Above" "number",
  .meth "Above" "__init__",
  .meth "Above" "__eq__",
  .cls "Below",
  .mkr "Below",
  .noat "Below" "name",
  .noat "Below" "number",
  .meth "Below" "__init__",
  .meth "Below" "__eq__",
  .cls "Not",
  .mkr "Not",
  .noat "Not" "inner",
  .meth "Not" "__init__",
  .meth "Not" "__eq__",
  .cls "Both",
  .mkr "Both",
  .noat "Both" "left",
  .noat "Both" "right",
  .meth "Both" "__init__",
  .meth "Both" "__eq__",
  .cls "Either",
  .mkr "Either",
  .noat "Either" "left",
  .noat "Either" "right",
  .meth "Either" "__init__",
  .meth "Either" "__eq__",
  .noat "BadCount" "what",
  .noat "BadCount" "count",
  .meth "BadCount" "__init__",
  .noat "NoName" "name",
  .meth "NoName" "__init__",
  .noat "Twice" "name",
  .meth "Twice" "__init__",
  .noat "NoQuestion" "name",
  .meth "NoQuestion" "__init__",
  .noat "NoFit" "name",
  .meth "NoFit" "__init__",
  .cls "One",
  .mkr "One",
  .noat "One" "name",
  .noat "One" "options",
  .noat "One" "where",
  .meth "One" "__init__",
  .meth "One" "__eq__",
  .cls "Some",
  .mkr "Some",
  .noat "Some" "name",
  .noat "Some" "options",
  .noat "Some" "where",
  .meth "Some" "__init__",
  .meth "Some" "__eq__",
  .cls "Number",
  .mkr "Number",
  .noat "Number" "name",
  .noat "Number" "low",
  .noat "Number" "high",
  .noat "Number" "where",
  .meth "Number" "__init__",
  .meth "Number" "__eq__",
  .cls "Check",
  .mkr "Check",
  .noat "Check" "name",
  .noat "Check" "must",
  .noat "Check" "where",
  .meth "Check" "__init__",
  .meth "Check" "__eq__",
  .cls "Section",
  .mkr "Section",
  .noat "Section" "rows",
  .noat "Section" "where",
  .meth "Section" "__init__",
  .meth "Section" "__eq__",
  .cls "Rounds",
  .mkr "Rounds",
  .noat "Rounds" "count",
  .noat "Rounds" "rows",
  .noat "Rounds" "where",
  .meth "Rounds" "__init__",
  .meth "Rounds" "__eq__",
  .cls "Form",
  .mkr "Form",
  .noat "Form" "rows",
  .noat "Form" "questions",
  .noat "Form" "repeated",
  .meth "Form" "__init__",
  .meth "Form" "__eq__",
  .meth "Form" "outline",
  .meth "Form" "names",
  .meth "Form" "question",
  .meth "Form" "in_rounds",
  .cls "Edition",
  .mkr "Edition",
  .noat "Edition" "number",
  .noat "Edition" "form",
  .noat "Edition" "calls",
  .meth "Edition" "__init__",
  .meth "Edition" "__eq__"]
end D
/-! ### what an own exception class with its __init__ says -/
def oexB (K : PySem.W.Frag) (C : Addr) : Bool := (match K.lookup C with
  | some ⟨.type "type", _, .cls cd, sl⟩ => (match cd.mro, sl.toList with
    | .ref C' :: bm, [_, _, _, _, some (.builtin n), _] => C' == C && (n == "ValueError.__new__" && (!cd.hasDel && (cd.hasDict && PySem.HandSPX.refsVE bm)))
    | _, _ => false)
  | _ => false) && (eqB (PySem.W.findIn K (.ref C) "__setattr__") (some (some (.builtin "object.__setattr__"))) && (eqB (PySem.W.subIn K (.ref C) (.type "BaseException")) (some true) && (eqB (PySem.W.typeIn K (.ref C)) (some (.type "type")) && PySem.W.keepIn K (.ref C))))
where eqB {α : Type} [DecidableEq α] (a b : α) : Bool := decide (a = b)
/-! done -/
end K3
end H0_part
section HX_part
set_option Elab.async false
set_option linter.all false
set_option maxRecDepth 100000
set_option maxHeartbeats 0
namespace K3
open PySem PySem.Spec PyProof.Rows L2
/-! ### further facts of the written part, as Bools -/
def eqB {α : Type} [DecidableEq α] (a b : α) : Bool := decide (a = b)
theorem eqB_ok {α : Type} [DecidableEq α] {a b : α} (h : eqB a b = true) : a = b := of_decide_eq_true h
def kclsB (K : PySem.W.Frag) (C : Addr) : Bool := eqB (PySem.W.findIn K (.ref C) "__class__") (some (some (.builtin "object.__class__"))) && eqB (PySem.W.mroIn K C (.type "object")) (some true)
def getsetB (K : PySem.W.Frag) : Bool := eqB (PySem.W.specialIn K (.builtin "object.__class__") "__get__") (some (some (.builtin "getset_descriptor.__get__"))) && eqB (PySem.W.takesIn K (.builtin "object.__class__")) (some true)
def oexcB (K : PySem.W.Frag) (C : Addr) : Bool := match K.lookup C with
  | some ⟨.type "type", _, .cls cd, sl⟩ => (match cd.mro, sl.toList with
    | .ref C' :: bm, [_, _, _, _, some (.builtin n), _] => C' == C && (n == "ValueError.__new__" && (!cd.hasDel && (cd.hasDict && PySem.HandSPX.refsVE bm)))
    | _, _ => false)
  | _ => false
def excB (K : PySem.W.Frag) (C : Addr) : Bool := oexcB K C && (eqB (PySem.W.findIn K (.ref C) "__setattr__") (some (some (.builtin "object.__setattr__"))) && (eqB (PySem.W.typeIn K (.ref C)) (some (.type "type")) && (PySem.W.keepIn K (.ref C) && xfB K C)))
def kitB2 (K : PySem.W.Frag) (x y : Str) : Bool := eqB (PySem.W.kitOne K (.ref (He.ga K x)) (.ref (He.ga K y))) (some (x == y))
def errN : List Str := [("BadCount" : Str), ("NoName" : Str), ("Twice" : Str), ("NoQuestion" : Str), ("NoFit" : Str)]
def cndN : List Str := [("Is" : Str), ("Has" : Str), ("Above" : Str), ("Below" : Str), ("Not" : Str), ("Both" : Str), ("Either" : Str)]
def cndT : List Str := [("Is" : Str), ("Has" : Str), ("Below" : Str), ("Not" : Str), ("Both" : Str), ("Either" : Str)]
def rowN : List Str := [("One" : Str), ("Some" : Str), ("Number" : Str), ("Check" : Str), ("Section" : Str), ("Rounds" : Str)]
def truB (K : PySem.W.Frag) (C : Addr) : Bool := eqB (PySem.W.findIn K (.ref C) "__bool__") (some none) && eqB (PySem.W.findIn K (.ref C) "__len__") (some none)
def exO (K : PySem.W.Frag) : Bool :=
  getsetB K && ((errN.all fun x => excB K (He.ga K x) && (kclsB K (He.ga K x) && (eqB (PySem.W.exmOne K (.ref (He.ga K x)) (.ref (He.ga K "HallError"))) (some true) && (eqB (PySem.W.kitOne K (.ref (He.ga K x)) (.type "ValueError")) (some true) && errN.all fun y => kitB2 K x y)))) &&
  ((cndN.all fun x => kclsB K (He.ga K x) && cndT.all fun y => kitB2 K x y) && (rowN.all fun x => kclsB K (He.ga K x) && rowN.all fun y => kitB2 K x y)))
/-! ### classes with an own == -/
def eqG : List (List Str) := [[("Is" : Str), ("Has" : Str), ("Above" : Str), ("Below" : Str), ("Not" : Str), ("Both" : Str), ("Either" : Str)], [("One" : Str), ("Some" : Str), ("Number" : Str), ("Check" : Str), ("Section" : Str), ("Rounds" : Str)], [("Form" : Str)], [("Edition" : Str)]]
def oneB (K : PySem.W.Frag) (x : Str) : Bool := kclsB K (He.ga K x) && (eqB (PySem.W.findIn K (.ref (He.ga K x)) "__ne__") (some (some (.builtin "object.__ne__"))) && (eqB (PySem.W.mroIn K (He.ga K x) (.type "NoneType")) (some false) && (eqB (PySem.W.kitOne K (.type "NoneType") (.ref (He.ga K x))) (some false) && eqB (PySem.W.kitOne K (.type "int") (.ref (He.ga K x))) (some false))))
def oeqB (K : PySem.W.Frag) : Bool := eqG.all fun g => g.all fun x => oneB K x && g.all fun y => eqB (PySem.W.mroIn K (He.ga K y) (.ref (He.ga K x))) (some (x == y)) && kitB2 K y x
def exmB (K : PySem.W.Frag) : Bool := errN.all fun x => errN.all fun y => eqB (PySem.W.exmOne K (.ref (He.ga K x)) (.ref (He.ga K y))) (some (x == y))
def empB (K : PySem.W.Frag) (a : Addr) : Bool := match K.lookup a with
  | some ⟨.type "tuple", _, .seq its _, _⟩ => its.isEmpty
  | _ => false
def ex (K : PySem.W.Frag) : Bool := exO K && ((cndN.all fun x => truB K (He.ga K x)) && (oeqB K && (exmB K && empB K (kwdAt ("Edition", some "__init__") "calls" K))))
/-! ### the Hook -/
def hookE (n : Nat) : PySem.W.Hook where
  α := He.AlD × Bool
  obs := fun s => (He.obsDG n D.fa D.fn s.heap.get?, ex (He.frG s.heap.get? (He.asD s.heap.get? n)))
  val := fun _ => (He.valD D.fn, true)
  says := fun _ h => ∃ K : PySem.W.Frag, K.In h ∧ He.SaysD D.fa D.fn K ∧ ex K = true
  of := fun _ h e => ⟨_, He.frG_in, congrArg Prod.fst e, congrArg Prod.snd e⟩
  keeps := fun _ _ _ ⟨K, hK, c⟩ k => ⟨K, PySem.W.Frag.In.keeps hK k, c⟩
def ob (n : Nat) (s : PySem.W.SharedT) : He.AlD × Bool := (He.obsDG n D.fa D.fn (HandSHeadRun.getT s), ex (He.frG (HandSHeadRun.getT s) (He.asD (HandSHeadRun.getT s) n)))
theorem ob_eq (n : Nat) (s : PySem.W.SharedT) : ob n s = (hookE n).obs s.abs := by
  have e : HandSHeadRun.getT s = s.abs.heap.get? := funext (HandSHeadRun.getT_eq s)
  unfold ob
  rw [e] <;> rfl
end K3
end HX_part
section H1_part
set_option Elab.async false
set_option linter.all false
set_option maxRecDepth 100000
set_option maxHeartbeats 0
namespace K3
open PySem PySem.Spec PyProof.Rows L2 PySem.W PySem.Calls HandSHeadRun
abbrev R : PySem.W.OpenRow := PySem.W.OpenLaw.row PySem.Challenge.rw_skiphall_k43_editions_made_and_refused
def loose1 : List Str := [("_wall" : Str), ("Condition" : Str), ("Is" : Str), ("Has" : Str), ("Above" : Str), ("Below" : Str), ("Not" : Str), ("Both" : Str), ("Either" : Str), ("simple_ones" : Str), ("HallError" : Str), ("BadCount" : Str), ("NoName" : Str), ("Twice" : Str), ("NoQuestion" : Str), ("NoFit" : Str), ("FIGURES" : Str), ("LETTERS" : Str), ("LONGEST_NAME" : Str), ("is_name" : Str), ("refuse_no_name" : Str), ("refuse_twice" : Str), ("MOST_ROWS" : Str), ("MOST_OPTIONS_OF_ONE" : Str), ("MOST_OPTIONS_OF_SOME" : Str), ("MOST_ROUNDS" : Str), ("Row" : Str), ("One" : Str), ("Some" : Str), ("Number" : Str)]
def loose2 : List Str := [("Check" : Str), ("Section" : Str), ("Rounds" : Str), ("Form" : Str), ("is_question" : Str), ("is_named" : Str), ("lay_out" : Str), ("check_rows" : Str), ("check_row" : Str), ("check_name" : Str), ("check_options" : Str), ("refuse_options" : Str), ("check_bounds" : Str), ("check_inner_rows" : Str), ("check_count" : Str), ("check_conditions" : Str), ("conditions_of" : Str), ("question_ahead" : Str), ("suits" : Str), ("Edition" : Str), ("refuse_counts" : Str), ("refuse_calls" : Str), ("has_question" : Str), ("_law_cell_at" : Str), ("_law_well" : Str), ("_law_draw" : Str), ("_law_pick" : Str), ("_law_name" : Str), ("_law_names" : Str), ("_law_fields" : Str)]
def loose3 : List Str := [("_law_pool" : Str), ("_law_condition" : Str), ("_law_question" : Str), ("_law_within" : Str), ("_law_form" : Str), ("_law_is_name" : Str), ("_law_pairs" : Str), ("_law_repeated" : Str), ("_law_due" : Str), ("_law_made" : Str)]
def loose : List Str := loose1 ++ loose2 ++ loose3
abbrev qv : Program := PySem.W.view R.prog [76]
/-! the fragment, and what Edition's default is -/
def asE (g : Addr → Option Obj) (n : Nat) : List Addr := He.asD g n ++ [kwdAt ("Edition", some "__init__") "calls" (He.frG g (He.asD g n))]
def hookF (n : Nat) : PySem.W.Hook where
  α := He.AlD × Bool
  obs := fun s => (He.obsD D.fa D.fn (He.frG s.heap.get? (asE s.heap.get? n)), ex (He.frG s.heap.get? (asE s.heap.get? n)))
  val := fun _ => (He.valD D.fn, true)
  says := fun _ h => ∃ K : PySem.W.Frag, K.In h ∧ He.SaysD D.fa D.fn K ∧ ex K = true
  of := fun _ h e => ⟨_, He.frG_in, congrArg Prod.fst e, congrArg Prod.snd e⟩
  keeps := fun _ _ _ ⟨K, hK, c⟩ k => ⟨K, PySem.W.Frag.In.keeps hK k, c⟩
def obF (n : Nat) (s : PySem.W.SharedT) : He.AlD × Bool := (He.obsD D.fa D.fn (He.frG (HandSHeadRun.getT s) (asE (HandSHeadRun.getT s) n)), ex (He.frG (HandSHeadRun.getT s) (asE (HandSHeadRun.getT s) n)))
theorem obF_eq (n : Nat) (s : PySem.W.SharedT) : obF n s = (hookF n).obs s.abs := by
  have e : HandSHeadRun.getT s = s.abs.heap.get? := funext (HandSHeadRun.getT_eq s)
  unfold obF
  rw [e] <;> rfl
/-! the head's run, looked at three times: one run with all three looks wants more memory than there is -/
theorem run1 (w : World) (os : OsState) : (endF (stepQ (denQ tabQ) R.prog w) 12000 R.prog w os).map (fun s => looksF R.prog (boot_heap w.params) s.abs) = some true := by
  kernel_rfl
theorem run2 (w : World) (os : OsState) : (endF (stepQ (denQ tabQ) R.prog w) 12000 R.prog w os).map (fun s => seenQ qv loose (importedModules R.prog.main.body) (fun s => xlAt qv [] s && recOk R.toRowW.records s) s.abs) = some (openGood qv loose) := by
  kernel_rfl
theorem run3a (w : World) (os : OsState) : (endF (stepQ (denQ tabQ) R.prog w) 12000 R.prog w os).map (fun s => (obF 4 s).1) = some ((hookF 4).val w).1 := by
  kernel_rfl
theorem run3b (w : World) (os : OsState) : (endF (stepQ (denQ tabQ) R.prog w) 12000 R.prog w os).map (fun s => (obF 4 s).2) = some ((hookF 4).val w).2 := by
  kernel_rfl
theorem join2 {α A B : Type} {f : α → A × B} {a : A} {b : B} : ∀ {o : Option α}, o.map (fun s => (f s).1) = some a → o.map (fun s => (f s).2) = some b → o.map f = some (a, b)
  | none, h, _ => by cases h
  | some s, h1, h2 => by
    have e1 := Option.some.inj h1
    have e2 := Option.some.inj h2
    show some (f s) = some (a, b)
    rw [← e1, ← e2]
theorem run3 (w : World) (os : OsState) : (endF (stepQ (denQ tabQ) R.prog w) 12000 R.prog w os).map (fun s => obF 4 s) = some ((hookF 4).val w) :=
  join2 (run3a w os) (run3b w os)
theorem join3 {α A B C : Type} {f : α → A} {g : α → B} {h : α → C} {a : A} {b : B} {c : C} : ∀ {o : Option α}, o.map f = some a → o.map g = some b → o.map h = some c → o.map (fun s => (f s, g s, h s)) = some (a, b, c)
  | none, h1, _, _ => by cases h1
  | some s, h1, h2, h3 => by
    have e1 := Option.some.inj h1
    have e2 := Option.some.inj h2
    have e3 := Option.some.inj h3
    show some (f s, g s, h s) = _
    rw [e1, e2, e3]
theorem run (w : World) : HandSHeadRun.RunEq R qv (hookF 4) (obF 4) 12000 loose w := fun os => join3 (run1 w os) (run2 w os) (run3 w os)
end K3
end H1_part
section A0_part
set_option Elab.async false
set_option linter.all false
set_option maxRecDepth 100000
set_option maxHeartbeats 0
namespace K3
open PySem PySem.Spec PyProof.Rows L2
/-- what the top has written -/
structure Tx (K : PySem.W.Frag) (mg : Str → Option Value) : Prop where
  c : He.SaysD D.fa D.fn K
  e : ex K = true
  h : ∃ h : Heap, K.In h ∧ h.Ns mainGlobals mg
section
variable {K : PySem.W.Frag} {mg : Str → Option Value}
theorem Tx.glo (T : Tx K mg) {x : Str} (c : (He.Fa.glo x).ok K = true) : mg x = some (.ref (He.ga K x)) := by
  obtain ⟨h, X, G⟩ := T.h
  exact He.glo_ok X G c
theorem Tx.free (T : Tx K mg) {x : Str} (c : (He.Fa.free x).ok K = true) : mg x = none := by
  obtain ⟨h, X, G⟩ := T.h
  exact He.free_ok X G c
theorem Tx.int (T : Tx K mg) {x : Str} {i : Int} (c : (He.Fa.int x i).ok K = true) : ∃ t, mg x = some (.int i t) := by
  obtain ⟨h, X, G⟩ := T.h
  exact He.int_ok X G c
theorem Tx.str (T : Tx K mg) {x z : Str} (c : (He.Fa.str x z).ok K = true) : ∃ t, mg x = some (.str z t) := by
  obtain ⟨h, X, G⟩ := T.h
  exact He.str_ok X G c
theorem Tx.g__wall (T : Tx K mg) : mg "_wall" = some (.ref (He.ga K "_wall")) := T.glo (T.c.fact 0 rfl)
theorem Tx.g_Condition (T : Tx K mg) : mg "Condition" = some (.ref (He.ga K "Condition")) := T.glo (T.c.fact 1 rfl)
theorem Tx.k_Condition (T : Tx K mg) : PySem.W.keepIn K (.ref (He.ga K "Condition")) = true := He.keep_ok (x := "Condition") (T.c.fact 2 rfl)
theorem Tx.g_Is (T : Tx K mg) : mg "Is" = some (.ref (He.ga K "Is")) := T.glo (T.c.fact 3 rfl)
theorem Tx.k_Is (T : Tx K mg) : PySem.W.keepIn K (.ref (He.ga K "Is")) = true := He.keep_ok (x := "Is") (T.c.fact 4 rfl)
theorem Tx.g_Has (T : Tx K mg) : mg "Has" = some (.ref (He.ga K "Has")) := T.glo (T.c.fact 5 rfl)
theorem Tx.k_Has (T : Tx K mg) : PySem.W.keepIn K (.ref (He.ga K "Has")) = true := He.keep_ok (x := "Has") (T.c.fact 6 rfl)
theorem Tx.g_Above (T : Tx K mg) : mg "Above" = some (.ref (He.ga K "Above")) := T.glo (T.c.fact 7 rfl)
theorem Tx.k_Above (T : Tx K mg) : PySem.W.keepIn K (.ref (He.ga K "Above")) = true := He.keep_ok (x := "Above") (T.c.fact 8 rfl)
theorem Tx.g_Below (T : Tx K mg) : mg "Below" = some (.ref (He.ga K "Below")) := T.glo (T.c.fact 9 rfl)
theorem Tx.k_Below (T : Tx K mg) : PySem.W.keepIn K (.ref (He.ga K "Below")) = true := He.keep_ok (x := "Below") (T.c.fact 10 rfl)
theorem Tx.g_Not (T : Tx K mg) : mg "Not" = some (.ref (He.ga K "Not")) := T.glo (T.c.fact 11 rfl)
theorem Tx.k_Not (T : Tx K mg) : PySem.W.keepIn K (.ref (He.ga K "Not")) = true := He.keep_ok (x := "Not") (T.c.fact 12 rfl)
theorem Tx.g_Both (T : Tx K mg) : mg "Both" = some (.ref (He.ga K "Both")) := T.glo (T.c.fact 13 rfl)
theorem Tx.k_Both (T : Tx K mg) : PySem.W.keepIn K (.ref (He.ga K "Both")) = true := He.keep_ok (x := "Both") (T.c.fact 14 rfl)
theorem Tx.g_Either (T : Tx K mg) : mg "Either" = some (.ref (He.ga K "Either")) := T.glo (T.c.fact 15 rfl)
theorem Tx.k_Either (T : Tx K mg) : PySem.W.keepIn K (.ref (He.ga K "Either")) = true := He.keep_ok (x := "Either") (T.c.fact 16 rfl)
theorem Tx.g_simple_ones (T : Tx K mg) : mg "simple_ones" = some (.ref (He.ga K "simple_ones")) := T.glo (T.c.fact 17 rfl)
theorem Tx.g_HallError (T : Tx K mg) : mg "HallError" = some (.ref (He.ga K "HallError")) := T.glo (T.c.fact 18 rfl)
theorem Tx.k_HallError (T : Tx K mg) : PySem.W.keepIn K (.ref (He.ga K "HallError")) = true := He.keep_ok (x := "HallError") (T.c.fact 19 rfl)
theorem Tx.g_BadCount (T : Tx K mg) : mg "BadCount" = some (.ref (He.ga K "BadCount")) := T.glo (T.c.fact 20 rfl)
theorem Tx.k_BadCount (T : Tx K mg) : PySem.W.keepIn K (.ref (He.ga K "BadCount")) = true := He.keep_ok (x := "BadCount") (T.c.fact 21 rfl)
theorem Tx.g_NoName (T : Tx K mg) : mg "NoName" = some (.ref (He.ga K "NoName")) := T.glo (T.c.fact 22 rfl)
theorem Tx.k_NoName (T : Tx K mg) : PySem.W.keepIn K (.ref (He.ga K "NoName")) = true := He.keep_ok (x := "NoName") (T.c.fact 23 rfl)
theorem Tx.g_Twice (T : Tx K mg) : mg "Twice" = some (.ref (He.ga K "Twice")) := T.glo (T.c.fact 24 rfl)
theorem Tx.k_Twice (T : Tx K mg) : PySem.W.keepIn K (.ref (He.ga K "Twice")) = true := He.keep_ok (x := "Twice") (T.c.fact 25 rfl)
theorem Tx.g_NoQuestion (T : Tx K mg) : mg "NoQuestion" = some (.ref (He.ga K "NoQuestion")) := T.glo (T.c.fact 26 rfl)
theorem Tx.k_NoQuestion (T : Tx K mg) : PySem.W.keepIn K (.ref (He.ga K "NoQuestion")) = true := He.keep_ok (x := "NoQuestion") (T.c.fact 27 rfl)
theorem Tx.g_NoFit (T : Tx K mg) : mg "NoFit" = some (.ref (He.ga K "NoFit")) := T.glo (T.c.fact 28 rfl)
theorem Tx.k_NoFit (T : Tx K mg) : PySem.W.keepIn K (.ref (He.ga K "NoFit")) = true := He.keep_ok (x := "NoFit") (T.c.fact 29 rfl)
theorem Tx.s_FIGURES (T : Tx K mg) : ∃ t, mg "FIGURES" = some (.str "0123456789" t) := T.str (T.c.fact 30 rfl)
theorem Tx.s_LETTERS (T : Tx K mg) : ∃ t, mg "LETTERS" = some (.str "abcdefghijklmnopqrstuvwxyz" t) := T.str (T.c.fact 31 rfl)
theorem Tx.i_LONGEST_NAME (T : Tx K mg) : ∃ t, mg "LONGEST_NAME" = some (.int 8 t) := T.int (T.c.fact 32 rfl)
theorem Tx.g_is_name (T : Tx K mg) : mg "is_name" = some (.ref (He.ga K "is_name")) := T.glo (T.c.fact 33 rfl)
theorem Tx.g_refuse_no_name (T : Tx K mg) : mg "refuse_no_name" = some (.ref (He.ga K "refuse_no_name")) := T.glo (T.c.fact 34 rfl)
theorem Tx.g_refuse_twice (T : Tx K mg) : mg "refuse_twice" = some (.ref (He.ga K "refuse_twice")) := T.glo (T.c.fact 35 rfl)
theorem Tx.i_MOST_ROWS (T : Tx K mg) : ∃ t, mg "MOST_ROWS" = some (.int 40 t) := T.int (T.c.fact 36 rfl)
theorem Tx.i_MOST_OPTIONS_OF_ONE (T : Tx K mg) : ∃ t, mg "MOST_OPTIONS_OF_ONE" = some (.int 6 t) := T.int (T.c.fact 37 rfl)
theorem Tx.i_MOST_OPTIONS_OF_SOME (T : Tx K mg) : ∃ t, mg "MOST_OPTIONS_OF_SOME" = some (.int 4 t) := T.int (T.c.fact 38 rfl)
theorem Tx.i_MOST_ROUNDS (T : Tx K mg) : ∃ t, mg "MOST_ROUNDS" = some (.int 4 t) := T.int (T.c.fact 39 rfl)
theorem Tx.g_Row (T : Tx K mg) : mg "Row" = some (.ref (He.ga K "Row")) := T.glo (T.c.fact 40 rfl)
theorem Tx.k_Row (T : Tx K mg) : PySem.W.keepIn K (.ref (He.ga K "Row")) = true := He.keep_ok (x := "Row") (T.c.fact 41 rfl)
theorem Tx.g_One (T : Tx K mg) : mg "One" = some (.ref (He.ga K "One")) := T.glo (T.c.fact 42 rfl)
theorem Tx.k_One (T : Tx K mg) : PySem.W.keepIn K (.ref (He.ga K "One")) = true := He.keep_ok (x := "One") (T.c.fact 43 rfl)
theorem Tx.g_Some (T : Tx K mg) : mg "Some" = some (.ref (He.ga K "Some")) := T.glo (T.c.fact 44 rfl)
theorem Tx.k_Some (T : Tx K mg) : PySem.W.keepIn K (.ref (He.ga K "Some")) = true := He.keep_ok (x := "Some") (T.c.fact 45 rfl)
theorem Tx.g_Number (T : Tx K mg) : mg "Number" = some (.ref (He.ga K "Number")) := T.glo (T.c.fact 46 rfl)
theorem Tx.k_Number (T : Tx K mg) : PySem.W.keepIn K (.ref (He.ga K "Number")) = true := He.keep_ok (x := "Number") (T.c.fact 47 rfl)
theorem Tx.g_Check (T : Tx K mg) : mg "Check" = some (.ref (He.ga K "Check")) := T.glo (T.c.fact 48 rfl)
theorem Tx.k_Check (T : Tx K mg) : PySem.W.keepIn K (.ref (He.ga K "Check")) = true := He.keep_ok (x := "Check") (T.c.fact 49 rfl)
theorem Tx.g_Section (T : Tx K mg) : mg "Section" = some (.ref (He.ga K "Section")) := T.glo (T.c.fact 50 rfl)
theorem Tx.k_Section (T : Tx K mg) : PySem.W.keepIn K (.ref (He.ga K "Section")) = true := He.keep_ok (x := "Section") (T.c.fact 51 rfl)
theorem Tx.g_Rounds (T : Tx K mg) : mg "Rounds" = some (.ref (He.ga K "Rounds")) := T.glo (T.c.fact 52 rfl)
theorem Tx.k_Rounds (T : Tx K mg) : PySem.W.keepIn K (.ref (He.ga K "Rounds")) = true := He.keep_ok (x := "Rounds") (T.c.fact 53 rfl)
theorem Tx.g_Form (T : Tx K mg) : mg "Form" = some (.ref (He.ga K "Form")) := T.glo (T.c.fact 54 rfl)
theorem Tx.k_Form (T : Tx K mg) : PySem.W.keepIn K (.ref (He.ga K "Form")) = true := He.keep_ok (x := "Form") (T.c.fact 55 rfl)
theorem Tx.g_is_question (T : Tx K mg) : mg "is_question" = some (.ref (He.ga K "is_question")) := T.glo (T.c.fact 56 rfl)
theorem Tx.g_is_named (T : Tx K mg) : mg "is_named" = some (.ref (He.ga K "is_named")) := T.glo (T.c.fact 57 rfl)
theorem Tx.g_lay_out (T : Tx K mg) : mg "lay_out" = some (.ref (He.ga K "lay_out")) := T.glo (T.c.fact 58 rfl)
theorem Tx.g_check_rows (T : Tx K mg) : mg "check_rows" = some (.ref (He.ga K "check_rows")) := T.glo (T.c.fact 59 rfl)
theorem Tx.g_check_row (T : Tx K mg) : mg "check_row" = some (.ref (He.ga K "check_row")) := T.glo (T.c.fact 60 rfl)
theorem Tx.g_check_name (T : Tx K mg) : mg "check_name" = some (.ref (He.ga K "check_name")) := T.glo (T.c.fact 61 rfl)
theorem Tx.g_check_options (T : Tx K mg) : mg "check_options" = some (.ref (He.ga K "check_options")) := T.glo (T.c.fact 62 rfl)
theorem Tx.g_refuse_options (T : Tx K mg) : mg "refuse_options" = some (.ref (He.ga K "refuse_options")) := T.glo (T.c.fact 63 rfl)
theorem Tx.g_check_bounds (T : Tx K mg) : mg "check_bounds" = some (.ref (He.ga K "check_bounds")) := T.glo (T.c.fact 64 rfl)
theorem Tx.g_check_inner_rows (T : Tx K mg) : mg "check_inner_rows" = some (.ref (He.ga K "check_inner_rows")) := T.glo (T.c.fact 65 rfl)
theorem Tx.g_check_count (T : Tx K mg) : mg "check_count" = some (.ref (He.ga K "check_count")) := T.glo (T.c.fact 66 rfl)
theorem Tx.g_check_conditions (T : Tx K mg) : mg "check_conditions" = some (.ref (He.ga K "check_conditions")) := T.glo (T.c.fact 67 rfl)
theorem Tx.g_conditions_of (T : Tx K mg) : mg "conditions_of" = some (.ref (He.ga K "conditions_of")) := T.glo (T.c.fact 68 rfl)
theorem Tx.g_question_ahead (T : Tx K mg) : mg "question_ahead" = some (.ref (He.ga K "question_ahead")) := T.glo (T.c.fact 69 rfl)
theorem Tx.g_suits (T : Tx K mg) : mg "suits" = some (.ref (He.ga K "suits")) := T.glo (T.c.fact 70 rfl)
theorem Tx.g_Edition (T : Tx K mg) : mg "Edition" = some (.ref (He.ga K "Edition")) := T.glo (T.c.fact 71 rfl)
theorem Tx.k_Edition (T : Tx K mg) : PySem.W.keepIn K (.ref (He.ga K "Edition")) = true := He.keep_ok (x := "Edition") (T.c.fact 72 rfl)
theorem Tx.g_refuse_counts (T : Tx K mg) : mg "refuse_counts" = some (.ref (He.ga K "refuse_counts")) := T.glo (T.c.fact 73 rfl)
theorem Tx.g_refuse_calls (T : Tx K mg) : mg "refuse_calls" = some (.ref (He.ga K "refuse_calls")) := T.glo (T.c.fact 74 rfl)
theorem Tx.g_has_question (T : Tx K mg) : mg "has_question" = some (.ref (He.ga K "has_question")) := T.glo (T.c.fact 75 rfl)
theorem Tx.g__law_cell_at (T : Tx K mg) : mg "_law_cell_at" = some (.ref (He.ga K "_law_cell_at")) := T.glo (T.c.fact 76 rfl)
theorem Tx.g__law_well (T : Tx K mg) : mg "_law_well" = some (.ref (He.ga K "_law_well")) := T.glo (T.c.fact 77 rfl)
theorem Tx.g__law_draw (T : Tx K mg) : mg "_law_draw" = some (.ref (He.ga K "_law_draw")) := T.glo (T.c.fact 78 rfl)
theorem Tx.g__law_pick (T : Tx K mg) : mg "_law_pick" = some (.ref (He.ga K "_law_pick")) := T.glo (T.c.fact 79 rfl)
theorem Tx.g__law_name (T : Tx K mg) : mg "_law_name" = some (.ref (He.ga K "_law_name")) := T.glo (T.c.fact 80 rfl)
theorem Tx.g__law_names (T : Tx K mg) : mg "_law_names" = some (.ref (He.ga K "_law_names")) := T.glo (T.c.fact 81 rfl)
theorem Tx.g__law_fields (T : Tx K mg) : mg "_law_fields" = some (.ref (He.ga K "_law_fields")) := T.glo (T.c.fact 82 rfl)
theorem Tx.g__law_pool (T : Tx K mg) : mg "_law_pool" = some (.ref (He.ga K "_law_pool")) := T.glo (T.c.fact 83 rfl)
theorem Tx.g__law_condition (T : Tx K mg) : mg "_law_condition" = some (.ref (He.ga K "_law_condition")) := T.glo (T.c.fact 84 rfl)
theorem Tx.g__law_question (T : Tx K mg) : mg "_law_question" = some (.ref (He.ga K "_law_question")) := T.glo (T.c.fact 85 rfl)
theorem Tx.g__law_within (T : Tx K mg) : mg "_law_within" = some (.ref (He.ga K "_law_within")) := T.glo (T.c.fact 86 rfl)
theorem Tx.g__law_form (T : Tx K mg) : mg "_law_form" = some (.ref (He.ga K "_law_form")) := T.glo (T.c.fact 87 rfl)
theorem Tx.g__law_is_name (T : Tx K mg) : mg "_law_is_name" = some (.ref (He.ga K "_law_is_name")) := T.glo (T.c.fact 88 rfl)
theorem Tx.g__law_pairs (T : Tx K mg) : mg "_law_pairs" = some (.ref (He.ga K "_law_pairs")) := T.glo (T.c.fact 89 rfl)
theorem Tx.g__law_repeated (T : Tx K mg) : mg "_law_repeated" = some (.ref (He.ga K "_law_repeated")) := T.glo (T.c.fact 90 rfl)
theorem Tx.g__law_due (T : Tx K mg) : mg "_law_due" = some (.ref (He.ga K "_law_due")) := T.glo (T.c.fact 91 rfl)
theorem Tx.g__law_made (T : Tx K mg) : mg "_law_made" = some (.ref (He.ga K "_law_made")) := T.glo (T.c.fact 92 rfl)
theorem Tx.g_law (T : Tx K mg) : mg "law" = some (.ref (He.ga K "law")) := T.glo (T.c.fact 93 rfl)
theorem Tx.z_all (T : Tx K mg) : mg "all" = none := T.free (T.c.fact 94 rfl)
theorem Tx.z_enumerate (T : Tx K mg) : mg "enumerate" = none := T.free (T.c.fact 95 rfl)
theorem Tx.z_int (T : Tx K mg) : mg "int" = none := T.free (T.c.fact 96 rfl)
theorem Tx.z_isinstance (T : Tx K mg) : mg "isinstance" = none := T.free (T.c.fact 97 rfl)
theorem Tx.z_len (T : Tx K mg) : mg "len" = none := T.free (T.c.fact 98 rfl)
theorem Tx.z_list (T : Tx K mg) : mg "list" = none := T.free (T.c.fact 99 rfl)
theorem Tx.z_range (T : Tx K mg) : mg "range" = none := T.free (T.c.fact 100 rfl)
theorem Tx.z_set (T : Tx K mg) : mg "set" = none := T.free (T.c.fact 101 rfl)
theorem Tx.z_str (T : Tx K mg) : mg "str" = none := T.free (T.c.fact 102 rfl)
theorem Tx.z_tuple (T : Tx K mg) : mg "tuple" = none := T.free (T.c.fact 103 rfl)
theorem Tx.cl_Is (T : Tx K mg) : Cls K (He.ga K "Is") := He.cls_ok (x := "Is") (T.c.fact 104 rfl)
theorem Tx.mk_Is (T : Tx K mg) : Mk K (He.ga K "Is") (He.ma K (He.ga K "Is") "__init__") := He.mkr_ok (x := "Is") (T.c.fact 105 rfl)
theorem Tx.n_Is_name (T : Tx K mg) : NoAttr K (He.ga K "Is") "name" := He.noat_ok (x := "Is") (f := "name") (T.c.fact 106 rfl)
theorem Tx.n_Is_option (T : Tx K mg) : NoAttr K (He.ga K "Is") "option" := He.noat_ok (x := "Is") (f := "option") (T.c.fact 107 rfl)
theorem Tx.m_Is_init (T : Tx K mg) : Meth K (He.ga K "Is") "__init__" (He.ma K (He.ga K "Is") "__init__") := He.meth_ok (x := "Is") (m := "__init__") (T.c.fact 108 rfl)
theorem Tx.m_Is_eq (T : Tx K mg) : Meth K (He.ga K "Is") "__eq__" (He.ma K (He.ga K "Is") "__eq__") := He.meth_ok (x := "Is") (m := "__eq__") (T.c.fact 109 rfl)
theorem Tx.cl_Has (T : Tx K mg) : Cls K (He.ga K "Has") := He.cls_ok (x := "Has") (T.c.fact 110 rfl)
theorem Tx.mk_Has (T : Tx K mg) : Mk K (He.ga K "Has") (He.ma K (He.ga K "Has") "__init__") := He.mkr_ok (x := "Has") (T.c.fact 111 rfl)
theorem Tx.n_Has_name (T : Tx K mg) : NoAttr K (He.ga K "Has") "name" := He.noat_ok (x := "Has") (f := "name") (T.c.fact 112 rfl)
theorem Tx.n_Has_option (T : Tx K mg) : NoAttr K (He.ga K "Has") "option" := He.noat_ok (x := "Has") (f := "option") (T.c.fact 113 rfl)
theorem Tx.m_Has_init (T : Tx K mg) : Meth K (He.ga K "Has") "__init__" (He.ma K (He.ga K "Has") "__init__") := He.meth_ok (x := "Has") (m := "__init__") (T.c.fact 114 rfl)
theorem Tx.m_Has_eq (T : Tx K mg) : Meth K (He.ga K "Has") "__eq__" (He.ma K (He.ga K "Has") "__eq__") := He.meth_ok (x := "Has") (m := "__eq__") (T.c.fact 115 rfl)
theorem Tx.cl_Above (T : Tx K mg) : Cls K (He.ga K "Above") := He.cls_ok (x := "Above") (T.c.fact 116 rfl)
theorem Tx.mk_Above (T : Tx K mg) : Mk K (He.ga K "Above") (He.ma K (He.ga K "Above") "__init__") := He.mkr_ok (x := "Above") (T.c.fact 117 rfl)
theorem Tx.n_Above_name (T : Tx K mg) : NoAttr K (He.ga K "Above") "name" := He.noat_ok (x := "Above") (f := "name") (T.c.fact 118 rfl)
theorem Tx.n_Above_number (T : Tx K mg) : NoAttr K (He.ga K "Above") "number" := He.noat_ok (x := "Above") (f := "number") (T.c.fact 119 rfl)
theorem Tx.m_Above_init (T : Tx K mg) : Meth K (He.ga K "Above") "__init__" (He.ma K (He.ga K "Above") "__init__") := He.meth_ok (x := "Above") (m := "__init__") (T.c.fact 120 rfl)
theorem Tx.m_Above_eq (T : Tx K mg) : Meth K (He.ga K "Above") "__eq__" (He.ma K (He.ga K "Above") "__eq__") := He.meth_ok (x := "Above") (m := "__eq__") (T.c.fact 121 rfl)
theorem Tx.cl_Below (T : Tx K mg) : Cls K (He.ga K "Below") := He.cls_ok (x := "Below") (T.c.fact 122 rfl)
theorem Tx.mk_Below (T : Tx K mg) : Mk K (He.ga K "Below") (He.ma K (He.ga K "Below") "__init__") := He.mkr_ok (x := "Below") (T.c.fact 123 rfl)
theorem Tx.n_Below_name (T : Tx K mg) : NoAttr K (He.ga K "Below") "name" := He.noat_ok (x := "Below") (f := "name") (T.c.fact 124 rfl)
theorem Tx.n_Below_number (T : Tx K mg) : NoAttr K (He.ga K "Below") "number" := He.noat_ok (x := "Below") (f := "number") (T.c.fact 125 rfl)
theorem Tx.m_Below_init (T : Tx K mg) : Meth K (He.ga K "Below") "__init__" (He.ma K (He.ga K "Below") "__init__") := He.meth_ok (x := "Below") (m := "__init__") (T.c.fact 126 rfl)
theorem Tx.m_Below_eq (T : Tx K mg) : Meth K (He.ga K "Below") "__eq__" (He.ma K (He.ga K "Below") "__eq__") := He.meth_ok (x := "Below") (m := "__eq__") (T.c.fact 127 rfl)
theorem Tx.cl_Not (T : Tx K mg) : Cls K (He.ga K "Not") := He.cls_ok (x := "Not") (T.c.fact 128 rfl)
theorem Tx.mk_Not (T : Tx K mg) : Mk K (He.ga K "Not") (He.ma K (He.ga K "Not") "__init__") := He.mkr_ok (x := "Not") (T.c.fact 129 rfl)
theorem Tx.n_Not_inner (T : Tx K mg) : NoAttr K (He.ga K "Not") "inner" := He.noat_ok (x := "Not") (f := "inner") (T.c.fact 130 rfl)
theorem Tx.m_Not_init (T : Tx K mg) : Meth K (He.ga K "Not") "__init__" (He.ma K (He.ga K "Not") "__init__") := He.meth_ok (x := "Not") (m := "__init__") (T.c.fact 131 rfl)
theorem Tx.m_Not_eq (T : Tx K mg) : Meth K (He.ga K "Not") "__eq__" (He.ma K (He.ga K "Not") "__eq__") := He.meth_ok (x := "Not") (m := "__eq__") (T.c.fact 132 rfl)
theorem Tx.cl_Both (T : Tx K mg) : Cls K (He.ga K "Both") := He.cls_ok (x := "Both") (T.c.fact 133 rfl)
theorem Tx.mk_Both (T : Tx K mg) : Mk K (He.ga K "Both") (He.ma K (He.ga K "Both") "__init__") := He.mkr_ok (x := "Both") (T.c.fact 134 rfl)
theorem Tx.n_Both_left (T : Tx K mg) : NoAttr K (He.ga K "Both") "left" := He.noat_ok (x := "Both") (f := "left") (T.c.fact 135 rfl)
theorem Tx.n_Both_right (T : Tx K mg) : NoAttr K (He.ga K "Both") "right" := He.noat_ok (x := "Both") (f := "right") (T.c.fact 136 rfl)
theorem Tx.m_Both_init (T : Tx K mg) : Meth K (He.ga K "Both") "__init__" (He.ma K (He.ga K "Both") "__init__") := He.meth_ok (x := "Both") (m := "__init__") (T.c.fact 137 rfl)
theorem Tx.m_Both_eq (T : Tx K mg) : Meth K (He.ga K "Both") "__eq__" (He.ma K (He.ga K "Both") "__eq__") := He.meth_ok (x := "Both") (m := "__eq__") (T.c.fact 138 rfl)
theorem Tx.cl_Either (T : Tx K mg) : Cls K (He.ga K "Either") := He.cls_ok (x := "Either") (T.c.fact 139 rfl)
theorem Tx.mk_Either (T : Tx K mg) : Mk K (He.ga K "Either") (He.ma K (He.ga K "Either") "__init__") := He.mkr_ok (x := "Either") (T.c.fact 140 rfl)
theorem Tx.n_Either_left (T : Tx K mg) : NoAttr K (He.ga K "Either") "left" := He.noat_ok (x := "Either") (f := "left") (T.c.fact 141 rfl)
theorem Tx.n_Either_right (T : Tx K mg) : NoAttr K (He.ga K "Either") "right" := He.noat_ok (x := "Either") (f := "right") (T.c.fact 142 rfl)
theorem Tx.m_Either_init (T : Tx K mg) : Meth K (He.ga K "Either") "__init__" (He.ma K (He.ga K "Either") "__init__") := He.meth_ok (x := "Either") (m := "__init__") (T.c.fact 143 rfl)
theorem Tx.m_Either_eq (T : Tx K mg) : Meth K (He.ga K "Either") "__eq__" (He.ma K (He.ga K "Either") "__eq__") := He.meth_ok (x := "Either") (m := "__eq__") (T.c.fact 144 rfl)
theorem Tx.n_BadCount_what (T : Tx K mg) : NoAttr K (He.ga K "BadCount") "what" := He.noat_ok (x := "BadCount") (f := "what") (T.c.fact 145 rfl)
theorem Tx.n_BadCount_count (T : Tx K mg) : NoAttr K (He.ga K "BadCount") "count" := He.noat_ok (x := "BadCount") (f := "count") (T.c.fact 146 rfl)
theorem Tx.m_BadCount_init (T : Tx K mg) : Meth K (He.ga K "BadCount") "__init__" (He.ma K (He.ga K "BadCount") "__init__") := He.meth_ok (x := "BadCount") (m := "__init__") (T.c.fact 147 rfl)
theorem Tx.n_NoName_name (T : Tx K mg) : NoAttr K (He.ga K "NoName") "name" := He.noat_ok (x := "NoName") (f := "name") (T.c.fact 148 rfl)
theorem Tx.m_NoName_init (T : Tx K mg) : Meth K (He.ga K "NoName") "__init__" (He.ma K (He.ga K "NoName") "__init__") := He.meth_ok (x := "NoName") (m := "__init__") (T.c.fact 149 rfl)
theorem Tx.n_Twice_name (T : Tx K mg) : NoAttr K (He.ga K "Twice") "name" := He.noat_ok (x := "Twice") (f := "name") (T.c.fact 150 rfl)
theorem Tx.m_Twice_init (T : Tx K mg) : Meth K (He.ga K "Twice") "__init__" (He.ma K (He.ga K "Twice") "__init__") := He.meth_ok (x := "Twice") (m := "__init__") (T.c.fact 151 rfl)
theorem Tx.n_NoQuestion_name (T : Tx K mg) : NoAttr K (He.ga K "NoQuestion") "name" := He.noat_ok (x := "NoQuestion") (f := "name") (T.c.fact 152 rfl)
theorem Tx.m_NoQuestion_init (T : Tx K mg) : Meth K (He.ga K "NoQuestion") "__init__" (He.ma K (He.ga K "NoQuestion") "__init__") := He.meth_ok (x := "NoQuestion") (m := "__init__") (T.c.fact 153 rfl)
theorem Tx.n_NoFit_name (T : Tx K mg) : NoAttr K (He.ga K "NoFit") "name" := He.noat_ok (x := "NoFit") (f := "name") (T.c.fact 154 rfl)
theorem Tx.m_NoFit_init (T : Tx K mg) : Meth K (He.ga K "NoFit") "__init__" (He.ma K (He.ga K "NoFit") "__init__") := He.meth_ok (x := "NoFit") (m := "__init__") (T.c.fact 155 rfl)
theorem Tx.cl_One (T : Tx K mg) : Cls K (He.ga K "One") := He.cls_ok (x := "One") (T.c.fact 156 rfl)
theorem Tx.mk_One (T : Tx K mg) : Mk K (He.ga K "One") (He.ma K (He.ga K "One") "__init__") := He.mkr_ok (x := "One") (T.c.fact 157 rfl)
theorem Tx.n_One_name (T : Tx K mg) : NoAttr K (He.ga K "One") "name" := He.noat_ok (x := "One") (f := "name") (T.c.fact 158 rfl)
theorem Tx.n_One_options (T : Tx K mg) : NoAttr K (He.ga K "One") "options" := He.noat_ok (x := "One") (f := "options") (T.c.fact 159 rfl)
theorem Tx.n_One_where (T : Tx K mg) : NoAttr K (He.ga K "One") "where" := He.noat_ok (x := "One") (f := "where") (T.c.fact 160 rfl)
theorem Tx.m_One_init (T : Tx K mg) : Meth K (He.ga K "One") "__init__" (He.ma K (He.ga K "One") "__init__") := He.meth_ok (x := "One") (m := "__init__") (T.c.fact 161 rfl)
theorem Tx.m_One_eq (T : Tx K mg) : Meth K (He.ga K "One") "__eq__" (He.ma K (He.ga K "One") "__eq__") := He.meth_ok (x := "One") (m := "__eq__") (T.c.fact 162 rfl)
theorem Tx.cl_Some (T : Tx K mg) : Cls K (He.ga K "Some") := He.cls_ok (x := "Some") (T.c.fact 163 rfl)
theorem Tx.mk_Some (T : Tx K mg) : Mk K (He.ga K "Some") (He.ma K (He.ga K "Some") "__init__") := He.mkr_ok (x := "Some") (T.c.fact 164 rfl)
theorem Tx.n_Some_name (T : Tx K mg) : NoAttr K (He.ga K "Some") "name" := He.noat_ok (x := "Some") (f := "name") (T.c.fact 165 rfl)
theorem Tx.n_Some_options (T : Tx K mg) : NoAttr K (He.ga K "Some") "options" := He.noat_ok (x := "Some") (f := "options") (T.c.fact 166 rfl)
theorem Tx.n_Some_where (T : Tx K mg) : NoAttr K (He.ga K "Some") "where" := He.noat_ok (x := "Some") (f := "where") (T.c.fact 167 rfl)
theorem Tx.m_Some_init (T : Tx K mg) : Meth K (He.ga K "Some") "__init__" (He.ma K (He.ga K "Some") "__init__") := He.meth_ok (x := "Some") (m := "__init__") (T.c.fact 168 rfl)
theorem Tx.m_Some_eq (T : Tx K mg) : Meth K (He.ga K "Some") "__eq__" (He.ma K (He.ga K "Some") "__eq__") := He.meth_ok (x := "Some") (m := "__eq__") (T.c.fact 169 rfl)
theorem Tx.cl_Number (T : Tx K mg) : Cls K (He.ga K "Number") := He.cls_ok (x := "Number") (T.c.fact 170 rfl)
theorem Tx.mk_Number (T : Tx K mg) : Mk K (He.ga K "Number") (He.ma K (He.ga K "Number") "__init__") := He.mkr_ok (x := "Number") (T.c.fact 171 rfl)
theorem Tx.n_Number_name (T : Tx K mg) : NoAttr K (He.ga K "Number") "name" := He.noat_ok (x := "Number") (f := "name") (T.c.fact 172 rfl)
theorem Tx.n_Number_low (T : Tx K mg) : NoAttr K (He.ga K "Number") "low" := He.noat_ok (x := "Number") (f := "low") (T.c.fact 173 rfl)
theorem Tx.n_Number_high (T : Tx K mg) : NoAttr K (He.ga K "Number") "high" := He.noat_ok (x := "Number") (f := "high") (T.c.fact 174 rfl)
theorem Tx.n_Number_where (T : Tx K mg) : NoAttr K (He.ga K "Number") "where" := He.noat_ok (x := "Number") (f := "where") (T.c.fact 175 rfl)
theorem Tx.m_Number_init (T : Tx K mg) : Meth K (He.ga K "Number") "__init__" (He.ma K (He.ga K "Number") "__init__") := He.meth_ok (x := "Number") (m := "__init__") (T.c.fact 176 rfl)
theorem Tx.m_Number_eq (T : Tx K mg) : Meth K (He.ga K "Number") "__eq__" (He.ma K (He.ga K "Number") "__eq__") := He.meth_ok (x := "Number") (m := "__eq__") (T.c.fact 177 rfl)
theorem Tx.cl_Check (T : Tx K mg) : Cls K (He.ga K "Check") := He.cls_ok (x := "Check") (T.c.fact 178 rfl)
theorem Tx.mk_Check (T : Tx K mg) : Mk K (He.ga K "Check") (He.ma K (He.ga K "Check") "__init__") := He.mkr_ok (x := "Check") (T.c.fact 179 rfl)
theorem Tx.n_Check_name (T : Tx K mg) : NoAttr K (He.ga K "Check") "name" := He.noat_ok (x := "Check") (f := "name") (T.c.fact 180 rfl)
theorem Tx.n_Check_must (T : Tx K mg) : NoAttr K (He.ga K "Check") "must" := He.noat_ok (x := "Check") (f := "must") (T.c.fact 181 rfl)
theorem Tx.n_Check_where (T : Tx K mg) : NoAttr K (He.ga K "Check") "where" := He.noat_ok (x := "Check") (f := "where") (T.c.fact 182 rfl)
theorem Tx.m_Check_init (T : Tx K mg) : Meth K (He.ga K "Check") "__init__" (He.ma K (He.ga K "Check") "__init__") := He.meth_ok (x := "Check") (m := "__init__") (T.c.fact 183 rfl)
theorem Tx.m_Check_eq (T : Tx K mg) : Meth K (He.ga K "Check") "__eq__" (He.ma K (He.ga K "Check") "__eq__") := He.meth_ok (x := "Check") (m := "__eq__") (T.c.fact 184 rfl)
theorem Tx.cl_Section (T : Tx K mg) : Cls K (He.ga K "Section") := He.cls_ok (x := "Section") (T.c.fact 185 rfl)
theorem Tx.mk_Section (T : Tx K mg) : Mk K (He.ga K "Section") (He.ma K (He.ga K "Section") "__init__") := He.mkr_ok (x := "Section") (T.c.fact 186 rfl)
theorem Tx.n_Section_rows (T : Tx K mg) : NoAttr K (He.ga K "Section") "rows" := He.noat_ok (x := "Section") (f := "rows") (T.c.fact 187 rfl)
theorem Tx.n_Section_where (T : Tx K mg) : NoAttr K (He.ga K "Section") "where" := He.noat_ok (x := "Section") (f := "where") (T.c.fact 188 rfl)
theorem Tx.m_Section_init (T : Tx K mg) : Meth K (He.ga K "Section") "__init__" (He.ma K (He.ga K "Section") "__init__") := He.meth_ok (x := "Section") (m := "__init__") (T.c.fact 189 rfl)
theorem Tx.m_Section_eq (T : Tx K mg) : Meth K (He.ga K "Section") "__eq__" (He.ma K (He.ga K "Section") "__eq__") := He.meth_ok (x := "Section") (m := "__eq__") (T.c.fact 190 rfl)
theorem Tx.cl_Rounds (T : Tx K mg) : Cls K (He.ga K "Rounds") := He.cls_ok (x := "Rounds") (T.c.fact 191 rfl)
theorem Tx.mk_Rounds (T : Tx K mg) : Mk K (He.ga K "Rounds") (He.ma K (He.ga K "Rounds") "__init__") := He.mkr_ok (x := "Rounds") (T.c.fact 192 rfl)
theorem Tx.n_Rounds_count (T : Tx K mg) : NoAttr K (He.ga K "Rounds") "count" := He.noat_ok (x := "Rounds") (f := "count") (T.c.fact 193 rfl)
theorem Tx.n_Rounds_rows (T : Tx K mg) : NoAttr K (He.ga K "Rounds") "rows" := He.noat_ok (x := "Rounds") (f := "rows") (T.c.fact 194 rfl)
theorem Tx.n_Rounds_where (T : Tx K mg) : NoAttr K (He.ga K "Rounds") "where" := He.noat_ok (x := "Rounds") (f := "where") (T.c.fact 195 rfl)
theorem Tx.m_Rounds_init (T : Tx K mg) : Meth K (He.ga K "Rounds") "__init__" (He.ma K (He.ga K "Rounds") "__init__") := He.meth_ok (x := "Rounds") (m := "__init__") (T.c.fact 196 rfl)
theorem Tx.m_Rounds_eq (T : Tx K mg) : Meth K (He.ga K "Rounds") "__eq__" (He.ma K (He.ga K "Rounds") "__eq__") := He.meth_ok (x := "Rounds") (m := "__eq__") (T.c.fact 197 rfl)
theorem Tx.cl_Form (T : Tx K mg) : Cls K (He.ga K "Form") := He.cls_ok (x := "Form") (T.c.fact 198 rfl)
theorem Tx.mk_Form (T : Tx K mg) : Mk K (He.ga K "Form") (He.ma K (He.ga K "Form") "__init__") := He.mkr_ok (x := "Form") (T.c.fact 199 rfl)
theorem Tx.n_Form_rows (T : Tx K mg) : NoAttr K (He.ga K "Form") "rows" := He.noat_ok (x := "Form") (f := "rows") (T.c.fact 200 rfl)
theorem Tx.n_Form_questions (T : Tx K mg) : NoAttr K (He.ga K "Form") "questions" := He.noat_ok (x := "Form") (f := "questions") (T.c.fact 201 rfl)
theorem Tx.n_Form_repeated (T : Tx K mg) : NoAttr K (He.ga K "Form") "repeated" := He.noat_ok (x := "Form") (f := "repeated") (T.c.fact 202 rfl)
theorem Tx.m_Form_init (T : Tx K mg) : Meth K (He.ga K "Form") "__init__" (He.ma K (He.ga K "Form") "__init__") := He.meth_ok (x := "Form") (m := "__init__") (T.c.fact 203 rfl)
theorem Tx.m_Form_eq (T : Tx K mg) : Meth K (He.ga K "Form") "__eq__" (He.ma K (He.ga K "Form") "__eq__") := He.meth_ok (x := "Form") (m := "__eq__") (T.c.fact 204 rfl)
theorem Tx.m_Form_outline (T : Tx K mg) : Meth K (He.ga K "Form") "outline" (He.ma K (He.ga K "Form") "outline") := He.meth_ok (x := "Form") (m := "outline") (T.c.fact 205 rfl)
theorem Tx.m_Form_names (T : Tx K mg) : Meth K (He.ga K "Form") "names" (He.ma K (He.ga K "Form") "names") := He.meth_ok (x := "Form") (m := "names") (T.c.fact 206 rfl)
theorem Tx.m_Form_question (T : Tx K mg) : Meth K (He.ga K "Form") "question" (He.ma K (He.ga K "Form") "question") := He.meth_ok (x := "Form") (m := "question") (T.c.fact 207 rfl)
theorem Tx.m_Form_in_rounds (T : Tx K mg) : Meth K (He.ga K "Form") "in_rounds" (He.ma K (He.ga K "Form") "in_rounds") := He.meth_ok (x := "Form") (m := "in_rounds") (T.c.fact 208 rfl)
theorem Tx.cl_Edition (T : Tx K mg) : Cls K (He.ga K "Edition") := He.cls_ok (x := "Edition") (T.c.fact 209 rfl)
theorem Tx.mk_Edition (T : Tx K mg) : Mk K (He.ga K "Edition") (He.ma K (He.ga K "Edition") "__init__") := He.mkr_ok (x := "Edition") (T.c.fact 210 rfl)
theorem Tx.n_Edition_number (T : Tx K mg) : NoAttr K (He.ga K "Edition") "number" := He.noat_ok (x := "Edition") (f := "number") (T.c.fact 211 rfl)
theorem Tx.n_Edition_form (T : Tx K mg) : NoAttr K (He.ga K "Edition") "form" := He.noat_ok (x := "Edition") (f := "form") (T.c.fact 212 rfl)
theorem Tx.n_Edition_calls (T : Tx K mg) : NoAttr K (He.ga K "Edition") "calls" := He.noat_ok (x := "Edition") (f := "calls") (T.c.fact 213 rfl)
theorem Tx.m_Edition_init (T : Tx K mg) : Meth K (He.ga K "Edition") "__init__" (He.ma K (He.ga K "Edition") "__init__") := He.meth_ok (x := "Edition") (m := "__init__") (T.c.fact 214 rfl)
theorem Tx.m_Edition_eq (T : Tx K mg) : Meth K (He.ga K "Edition") "__eq__" (He.ma K (He.ga K "Edition") "__eq__") := He.meth_ok (x := "Edition") (m := "__eq__") (T.c.fact 215 rfl)
theorem Tx.f__wall (T : Tx K mg) : ∃ fd, FunD K "_wall" "_wall" (defArgs s__wall) (defBody s__wall) (defScope s__wall) [] [] (He.ga K "_wall") fd := T.c.def_ 0 (d := D.d__wall) rfl
theorem Tx.f_Is_init (T : Tx K mg) : ∃ fd, FunD K "__init__" "Is.__init__" (defArgs s_Is_init) (defBody s_Is_init) (defScope s_Is_init) [] [] (He.ma K (He.ga K "Is") "__init__") fd := T.c.def_ 1 (d := D.d_Is_init) rfl
theorem Tx.f_Is_eq (T : Tx K mg) : ∃ fd, FunD K "__eq__" "Is.__eq__" (defArgs s_Is_eq) (defBody s_Is_eq) (defScope s_Is_eq) [] [] (He.ma K (He.ga K "Is") "__eq__") fd := T.c.def_ 2 (d := D.d_Is_eq) rfl
theorem Tx.f_Has_init (T : Tx K mg) : ∃ fd, FunD K "__init__" "Has.__init__" (defArgs s_Has_init) (defBody s_Has_init) (defScope s_Has_init) [] [] (He.ma K (He.ga K "Has") "__init__") fd := T.c.def_ 3 (d := D.d_Has_init) rfl
theorem Tx.f_Has_eq (T : Tx K mg) : ∃ fd, FunD K "__eq__" "Has.__eq__" (defArgs s_Has_eq) (defBody s_Has_eq) (defScope s_Has_eq) [] [] (He.ma K (He.ga K "Has") "__eq__") fd := T.c.def_ 4 (d := D.d_Has_eq) rfl
theorem Tx.f_Above_init (T : Tx K mg) : ∃ fd, FunD K "__init__" "Above.__init__" (defArgs s_Above_init) (defBody s_Above_init) (defScope s_Above_init) [] [] (He.ma K (He.ga K "Above") "__init__") fd := T.c.def_ 5 (d := D.d_Above_init) rfl
theorem Tx.f_Above_eq (T : Tx K mg) : ∃ fd, FunD K "__eq__" "Above.__eq__" (defArgs s_Above_eq) (defBody s_Above_eq) (defScope s_Above_eq) [] [] (He.ma K (He.ga K "Above") "__eq__") fd := T.c.def_ 6 (d := D.d_Above_eq) rfl
theorem Tx.f_Below_init (T : Tx K mg) : ∃ fd, FunD K "__init__" "Below.__init__" (defArgs s_Below_init) (defBody s_Below_init) (defScope s_Below_init) [] [] (He.ma K (He.ga K "Below") "__init__") fd := T.c.def_ 7 (d := D.d_Below_init) rfl
theorem Tx.f_Below_eq (T : Tx K mg) : ∃ fd, FunD K "__eq__" "Below.__eq__" (defArgs s_Below_eq) (defBody s_Below_eq) (defScope s_Below_eq) [] [] (He.ma K (He.ga K "Below") "__eq__") fd := T.c.def_ 8 (d := D.d_Below_eq) rfl
theorem Tx.f_Not_init (T : Tx K mg) : ∃ fd, FunD K "__init__" "Not.__init__" (defArgs s_Not_init) (defBody s_Not_init) (defScope s_Not_init) [] [] (He.ma K (He.ga K "Not") "__init__") fd := T.c.def_ 9 (d := D.d_Not_init) rfl
theorem Tx.f_Not_eq (T : Tx K mg) : ∃ fd, FunD K "__eq__" "Not.__eq__" (defArgs s_Not_eq) (defBody s_Not_eq) (defScope s_Not_eq) [] [] (He.ma K (He.ga K "Not") "__eq__") fd := T.c.def_ 10 (d := D.d_Not_eq) rfl
theorem Tx.f_Both_init (T : Tx K mg) : ∃ fd, FunD K "__init__" "Both.__init__" (defArgs s_Both_init) (defBody s_Both_init) (defScope s_Both_init) [] [] (He.ma K (He.ga K "Both") "__init__") fd := T.c.def_ 11 (d := D.d_Both_init) rfl
theorem Tx.f_Both_eq (T : Tx K mg) : ∃ fd, FunD K "__eq__" "Both.__eq__" (defArgs s_Both_eq) (defBody s_Both_eq) (defScope s_Both_eq) [] [] (He.ma K (He.ga K "Both") "__eq__") fd := T.c.def_ 12 (d := D.d_Both_eq) rfl
theorem Tx.f_Either_init (T : Tx K mg) : ∃ fd, FunD K "__init__" "Either.__init__" (defArgs s_Either_init) (defBody s_Either_init) (defScope s_Either_init) [] [] (He.ma K (He.ga K "Either") "__init__") fd := T.c.def_ 13 (d := D.d_Either_init) rfl
theorem Tx.f_Either_eq (T : Tx K mg) : ∃ fd, FunD K "__eq__" "Either.__eq__" (defArgs s_Either_eq) (defBody s_Either_eq) (defScope s_Either_eq) [] [] (He.ma K (He.ga K "Either") "__eq__") fd := T.c.def_ 14 (d := D.d_Either_eq) rfl
theorem Tx.f_simple_ones (T : Tx K mg) : ∃ fd, FunD K "simple_ones" "simple_ones" (defArgs s_simple_ones) (defBody s_simple_ones) (defScope s_simple_ones) [] [] (He.ga K "simple_ones") fd := T.c.def_ 15 (d := D.d_simple_ones) rfl
theorem Tx.f_HallError_told (T : Tx K mg) : ∃ fd, FunD K "told" "HallError.told" (defArgs s_HallError_told) (defBody s_HallError_told) (defScope s_HallError_told) [] [] (He.ma K (He.ga K "HallError") "told") fd := T.c.def_ 16 (d := D.d_HallError_told) rfl
theorem Tx.f_BadCount_init (T : Tx K mg) : ∃ fd, FunD K "__init__" "BadCount.__init__" (defArgs s_BadCount_init) (defBody s_BadCount_init) (defScope s_BadCount_init) [] [] (He.ma K (He.ga K "BadCount") "__init__") fd := T.c.def_ 17 (d := D.d_BadCount_init) rfl
theorem Tx.f_BadCount_told (T : Tx K mg) : ∃ fd, FunD K "told" "BadCount.told" (defArgs s_BadCount_told) (defBody s_BadCount_told) (defScope s_BadCount_told) [] [] (He.ma K (He.ga K "BadCount") "told") fd := T.c.def_ 18 (d := D.d_BadCount_told) rfl
theorem Tx.f_NoName_init (T : Tx K mg) : ∃ fd, FunD K "__init__" "NoName.__init__" (defArgs s_NoName_init) (defBody s_NoName_init) (defScope s_NoName_init) [] [] (He.ma K (He.ga K "NoName") "__init__") fd := T.c.def_ 19 (d := D.d_NoName_init) rfl
theorem Tx.f_NoName_told (T : Tx K mg) : ∃ fd, FunD K "told" "NoName.told" (defArgs s_NoName_told) (defBody s_NoName_told) (defScope s_NoName_told) [] [] (He.ma K (He.ga K "NoName") "told") fd := T.c.def_ 20 (d := D.d_NoName_told) rfl
theorem Tx.f_Twice_init (T : Tx K mg) : ∃ fd, FunD K "__init__" "Twice.__init__" (defArgs s_Twice_init) (defBody s_Twice_init) (defScope s_Twice_init) [] [] (He.ma K (He.ga K "Twice") "__init__") fd := T.c.def_ 21 (d := D.d_Twice_init) rfl
theorem Tx.f_Twice_told (T : Tx K mg) : ∃ fd, FunD K "told" "Twice.told" (defArgs s_Twice_told) (defBody s_Twice_told) (defScope s_Twice_told) [] [] (He.ma K (He.ga K "Twice") "told") fd := T.c.def_ 22 (d := D.d_Twice_told) rfl
theorem Tx.f_NoQuestion_init (T : Tx K mg) : ∃ fd, FunD K "__init__" "NoQuestion.__init__" (defArgs s_NoQuestion_init) (defBody s_NoQuestion_init) (defScope s_NoQuestion_init) [] [] (He.ma K (He.ga K "NoQuestion") "__init__") fd := T.c.def_ 23 (d := D.d_NoQuestion_init) rfl
theorem Tx.f_NoQuestion_told (T : Tx K mg) : ∃ fd, FunD K "told" "NoQuestion.told" (defArgs s_NoQuestion_told) (defBody s_NoQuestion_told) (defScope s_NoQuestion_told) [] [] (He.ma K (He.ga K "NoQuestion") "told") fd := T.c.def_ 24 (d := D.d_NoQuestion_told) rfl
theorem Tx.f_NoFit_init (T : Tx K mg) : ∃ fd, FunD K "__init__" "NoFit.__init__" (defArgs s_NoFit_init) (defBody s_NoFit_init) (defScope s_NoFit_init) [] [] (He.ma K (He.ga K "NoFit") "__init__") fd := T.c.def_ 25 (d := D.d_NoFit_init) rfl
theorem Tx.f_NoFit_told (T : Tx K mg) : ∃ fd, FunD K "told" "NoFit.told" (defArgs s_NoFit_told) (defBody s_NoFit_told) (defScope s_NoFit_told) [] [] (He.ma K (He.ga K "NoFit") "told") fd := T.c.def_ 26 (d := D.d_NoFit_told) rfl
theorem Tx.f_is_name (T : Tx K mg) : ∃ fd, FunD K "is_name" "is_name" (defArgs s_is_name) (defBody s_is_name) (defScope s_is_name) [] [] (He.ga K "is_name") fd := T.c.def_ 27 (d := D.d_is_name) rfl
theorem Tx.f_refuse_no_name (T : Tx K mg) : ∃ fd, FunD K "refuse_no_name" "refuse_no_name" (defArgs s_refuse_no_name) (defBody s_refuse_no_name) (defScope s_refuse_no_name) [] [] (He.ga K "refuse_no_name") fd := T.c.def_ 28 (d := D.d_refuse_no_name) rfl
theorem Tx.f_refuse_twice (T : Tx K mg) : ∃ fd, FunD K "refuse_twice" "refuse_twice" (defArgs s_refuse_twice) (defBody s_refuse_twice) (defScope s_refuse_twice) [] [] (He.ga K "refuse_twice") fd := T.c.def_ 29 (d := D.d_refuse_twice) rfl
theorem Tx.f_One_init (T : Tx K mg) : ∃ fd, FunD K "__init__" "One.__init__" (defArgs s_One_init) (defBody s_One_init) (defScope s_One_init) [] [("where", V.non)] (He.ma K (He.ga K "One") "__init__") fd := T.c.def_ 30 (d := D.d_One_init) rfl
theorem Tx.f_One_eq (T : Tx K mg) : ∃ fd, FunD K "__eq__" "One.__eq__" (defArgs s_One_eq) (defBody s_One_eq) (defScope s_One_eq) [] [] (He.ma K (He.ga K "One") "__eq__") fd := T.c.def_ 31 (d := D.d_One_eq) rfl
theorem Tx.f_Some_init (T : Tx K mg) : ∃ fd, FunD K "__init__" "Some.__init__" (defArgs s_Some_init) (defBody s_Some_init) (defScope s_Some_init) [] [("where", V.non)] (He.ma K (He.ga K "Some") "__init__") fd := T.c.def_ 32 (d := D.d_Some_init) rfl
theorem Tx.f_Some_eq (T : Tx K mg) : ∃ fd, FunD K "__eq__" "Some.__eq__" (defArgs s_Some_eq) (defBody s_Some_eq) (defScope s_Some_eq) [] [] (He.ma K (He.ga K "Some") "__eq__") fd := T.c.def_ 33 (d := D.d_Some_eq) rfl
theorem Tx.f_Number_init (T : Tx K mg) : ∃ fd, FunD K "__init__" "Number.__init__" (defArgs s_Number_init) (defBody s_Number_init) (defScope s_Number_init) [] [("where", V.non)] (He.ma K (He.ga K "Number") "__init__") fd := T.c.def_ 34 (d := D.d_Number_init) rfl
theorem Tx.f_Number_eq (T : Tx K mg) : ∃ fd, FunD K "__eq__" "Number.__eq__" (defArgs s_Number_eq) (defBody s_Number_eq) (defScope s_Number_eq) [] [] (He.ma K (He.ga K "Number") "__eq__") fd := T.c.def_ 35 (d := D.d_Number_eq) rfl
theorem Tx.f_Check_init (T : Tx K mg) : ∃ fd, FunD K "__init__" "Check.__init__" (defArgs s_Check_init) (defBody s_Check_init) (defScope s_Check_init) [] [("where", V.non)] (He.ma K (He.ga K "Check") "__init__") fd := T.c.def_ 36 (d := D.d_Check_init) rfl
theorem Tx.f_Check_eq (T : Tx K mg) : ∃ fd, FunD K "__eq__" "Check.__eq__" (defArgs s_Check_eq) (defBody s_Check_eq) (defScope s_Check_eq) [] [] (He.ma K (He.ga K "Check") "__eq__") fd := T.c.def_ 37 (d := D.d_Check_eq) rfl
theorem Tx.f_Section_init (T : Tx K mg) : ∃ fd, FunD K "__init__" "Section.__init__" (defArgs s_Section_init) (defBody s_Section_init) (defScope s_Section_init) [] [("where", V.non)] (He.ma K (He.ga K "Section") "__init__") fd := T.c.def_ 38 (d := D.d_Section_init) rfl
theorem Tx.f_Section_eq (T : Tx K mg) : ∃ fd, FunD K "__eq__" "Section.__eq__" (defArgs s_Section_eq) (defBody s_Section_eq) (defScope s_Section_eq) [] [] (He.ma K (He.ga K "Section") "__eq__") fd := T.c.def_ 39 (d := D.d_Section_eq) rfl
theorem Tx.f_Rounds_init (T : Tx K mg) : ∃ fd, FunD K "__init__" "Rounds.__init__" (defArgs s_Rounds_init) (defBody s_Rounds_init) (defScope s_Rounds_init) [] [("where", V.non)] (He.ma K (He.ga K "Rounds") "__init__") fd := T.c.def_ 40 (d := D.d_Rounds_init) rfl
theorem Tx.f_Rounds_eq (T : Tx K mg) : ∃ fd, FunD K "__eq__" "Rounds.__eq__" (defArgs s_Rounds_eq) (defBody s_Rounds_eq) (defScope s_Rounds_eq) [] [] (He.ma K (He.ga K "Rounds") "__eq__") fd := T.c.def_ 41 (d := D.d_Rounds_eq) rfl
theorem Tx.f_Form_init (T : Tx K mg) : ∃ fd, FunD K "__init__" "Form.__init__" (defArgs s_Form_init) (defBody s_Form_init) (defScope s_Form_init) [] [] (He.ma K (He.ga K "Form") "__init__") fd := T.c.def_ 42 (d := D.d_Form_init) rfl
theorem Tx.f_Form_eq (T : Tx K mg) : ∃ fd, FunD K "__eq__" "Form.__eq__" (defArgs s_Form_eq) (defBody s_Form_eq) (defScope s_Form_eq) [] [] (He.ma K (He.ga K "Form") "__eq__") fd := T.c.def_ 43 (d := D.d_Form_eq) rfl
theorem Tx.f_Form_outline (T : Tx K mg) : ∃ fd, FunD K "outline" "Form.outline" (defArgs s_Form_outline) (defBody s_Form_outline) (defScope s_Form_outline) [] [] (He.ma K (He.ga K "Form") "outline") fd := T.c.def_ 44 (d := D.d_Form_outline) rfl
theorem Tx.f_Form_names (T : Tx K mg) : ∃ fd, FunD K "names" "Form.names" (defArgs s_Form_names) (defBody s_Form_names) (defScope s_Form_names) [] [] (He.ma K (He.ga K "Form") "names") fd := T.c.def_ 45 (d := D.d_Form_names) rfl
theorem Tx.f_Form_question (T : Tx K mg) : ∃ fd, FunD K "question" "Form.question" (defArgs s_Form_question) (defBody s_Form_question) (defScope s_Form_question) [] [] (He.ma K (He.ga K "Form") "question") fd := T.c.def_ 46 (d := D.d_Form_question) rfl
theorem Tx.f_Form_in_rounds (T : Tx K mg) : ∃ fd, FunD K "in_rounds" "Form.in_rounds" (defArgs s_Form_in_rounds) (defBody s_Form_in_rounds) (defScope s_Form_in_rounds) [] [] (He.ma K (He.ga K "Form") "in_rounds") fd := T.c.def_ 47 (d := D.d_Form_in_rounds) rfl
theorem Tx.f_is_question (T : Tx K mg) : ∃ fd, FunD K "is_question" "is_question" (defArgs s_is_question) (defBody s_is_question) (defScope s_is_question) [] [] (He.ga K "is_question") fd := T.c.def_ 48 (d := D.d_is_question) rfl
theorem Tx.f_is_named (T : Tx K mg) : ∃ fd, FunD K "is_named" "is_named" (defArgs s_is_named) (defBody s_is_named) (defScope s_is_named) [] [] (He.ga K "is_named") fd := T.c.def_ 49 (d := D.d_is_named) rfl
theorem Tx.f_lay_out (T : Tx K mg) : ∃ fd, FunD K "lay_out" "lay_out" (defArgs s_lay_out) (defBody s_lay_out) (defScope s_lay_out) [] [] (He.ga K "lay_out") fd := T.c.def_ 50 (d := D.d_lay_out) rfl
theorem Tx.f_check_rows (T : Tx K mg) : ∃ fd, FunD K "check_rows" "check_rows" (defArgs s_check_rows) (defBody s_check_rows) (defScope s_check_rows) [] [] (He.ga K "check_rows") fd := T.c.def_ 51 (d := D.d_check_rows) rfl
theorem Tx.f_check_row (T : Tx K mg) : ∃ fd, FunD K "check_row" "check_row" (defArgs s_check_row) (defBody s_check_row) (defScope s_check_row) [] [] (He.ga K "check_row") fd := T.c.def_ 52 (d := D.d_check_row) rfl
theorem Tx.f_check_name (T : Tx K mg) : ∃ fd, FunD K "check_name" "check_name" (defArgs s_check_name) (defBody s_check_name) (defScope s_check_name) [] [] (He.ga K "check_name") fd := T.c.def_ 53 (d := D.d_check_name) rfl
theorem Tx.f_check_options (T : Tx K mg) : ∃ fd, FunD K "check_options" "check_options" (defArgs s_check_options) (defBody s_check_options) (defScope s_check_options) [] [] (He.ga K "check_options") fd := T.c.def_ 54 (d := D.d_check_options) rfl
theorem Tx.f_refuse_options (T : Tx K mg) : ∃ fd, FunD K "refuse_options" "refuse_options" (defArgs s_refuse_options) (defBody s_refuse_options) (defScope s_refuse_options) [] [] (He.ga K "refuse_options") fd := T.c.def_ 55 (d := D.d_refuse_options) rfl
theorem Tx.f_check_bounds (T : Tx K mg) : ∃ fd, FunD K "check_bounds" "check_bounds" (defArgs s_check_bounds) (defBody s_check_bounds) (defScope s_check_bounds) [] [] (He.ga K "check_bounds") fd := T.c.def_ 56 (d := D.d_check_bounds) rfl
theorem Tx.f_check_inner_rows (T : Tx K mg) : ∃ fd, FunD K "check_inner_rows" "check_inner_rows" (defArgs s_check_inner_rows) (defBody s_check_inner_rows) (defScope s_check_inner_rows) [] [] (He.ga K "check_inner_rows") fd := T.c.def_ 57 (d := D.d_check_inner_rows) rfl
theorem Tx.f_check_count (T : Tx K mg) : ∃ fd, FunD K "check_count" "check_count" (defArgs s_check_count) (defBody s_check_count) (defScope s_check_count) [] [] (He.ga K "check_count") fd := T.c.def_ 58 (d := D.d_check_count) rfl
theorem Tx.f_check_conditions (T : Tx K mg) : ∃ fd, FunD K "check_conditions" "check_conditions" (defArgs s_check_conditions) (defBody s_check_conditions) (defScope s_check_conditions) [] [] (He.ga K "check_conditions") fd := T.c.def_ 59 (d := D.d_check_conditions) rfl
theorem Tx.f_conditions_of (T : Tx K mg) : ∃ fd, FunD K "conditions_of" "conditions_of" (defArgs s_conditions_of) (defBody s_conditions_of) (defScope s_conditions_of) [] [] (He.ga K "conditions_of") fd := T.c.def_ 60 (d := D.d_conditions_of) rfl
theorem Tx.f_question_ahead (T : Tx K mg) : ∃ fd, FunD K "question_ahead" "question_ahead" (defArgs s_question_ahead) (defBody s_question_ahead) (defScope s_question_ahead) [] [] (He.ga K "question_ahead") fd := T.c.def_ 61 (d := D.d_question_ahead) rfl
theorem Tx.f_suits (T : Tx K mg) : ∃ fd, FunD K "suits" "suits" (defArgs s_suits) (defBody s_suits) (defScope s_suits) [] [] (He.ga K "suits") fd := T.c.def_ 62 (d := D.d_suits) rfl
theorem Tx.f_Edition_init (T : Tx K mg) : ∃ fd, FunD K "__init__" "Edition.__init__" (defArgs s_Edition_init) (defBody s_Edition_init) (defScope s_Edition_init) [] [("calls", V.ref (kwdAt ("Edition", some "__init__") "calls" K))] (He.ma K (He.ga K "Edition") "__init__") fd := T.c.def_ 63 (d := D.d_Edition_init) rfl
theorem Tx.f_Edition_eq (T : Tx K mg) : ∃ fd, FunD K "__eq__" "Edition.__eq__" (defArgs s_Edition_eq) (defBody s_Edition_eq) (defScope s_Edition_eq) [] [] (He.ma K (He.ga K "Edition") "__eq__") fd := T.c.def_ 64 (d := D.d_Edition_eq) rfl
theorem Tx.f_refuse_counts (T : Tx K mg) : ∃ fd, FunD K "refuse_counts" "refuse_counts" (defArgs s_refuse_counts) (defBody s_refuse_counts) (defScope s_refuse_counts) [] [] (He.ga K "refuse_counts") fd := T.c.def_ 65 (d := D.d_refuse_counts) rfl
theorem Tx.f_refuse_calls (T : Tx K mg) : ∃ fd, FunD K "refuse_calls" "refuse_calls" (defArgs s_refuse_calls) (defBody s_refuse_calls) (defScope s_refuse_calls) [] [] (He.ga K "refuse_calls") fd := T.c.def_ 66 (d := D.d_refuse_calls) rfl
theorem Tx.f_has_question (T : Tx K mg) : ∃ fd, FunD K "has_question" "has_question" (defArgs s_has_question) (defBody s_has_question) (defScope s_has_question) [] [] (He.ga K "has_question") fd := T.c.def_ 67 (d := D.d_has_question) rfl
theorem Tx.f__law_cell_at (T : Tx K mg) : ∃ fd, FunD K "_law_cell_at" "_law_cell_at" (defArgs s__law_cell_at) (defBody s__law_cell_at) (defScope s__law_cell_at) [] [] (He.ga K "_law_cell_at") fd := T.c.def_ 68 (d := D.d__law_cell_at) rfl
theorem Tx.f__law_well (T : Tx K mg) : ∃ fd, FunD K "_law_well" "_law_well" (defArgs s__law_well) (defBody s__law_well) (defScope s__law_well) [] [] (He.ga K "_law_well") fd := T.c.def_ 69 (d := D.d__law_well) rfl
theorem Tx.f__law_draw (T : Tx K mg) : ∃ fd, FunD K "_law_draw" "_law_draw" (defArgs s__law_draw) (defBody s__law_draw) (defScope s__law_draw) [] [] (He.ga K "_law_draw") fd := T.c.def_ 70 (d := D.d__law_draw) rfl
theorem Tx.f__law_pick (T : Tx K mg) : ∃ fd, FunD K "_law_pick" "_law_pick" (defArgs s__law_pick) (defBody s__law_pick) (defScope s__law_pick) [] [] (He.ga K "_law_pick") fd := T.c.def_ 71 (d := D.d__law_pick) rfl
theorem Tx.f__law_name (T : Tx K mg) : ∃ fd, FunD K "_law_name" "_law_name" (defArgs s__law_name) (defBody s__law_name) (defScope s__law_name) [] [] (He.ga K "_law_name") fd := T.c.def_ 72 (d := D.d__law_name) rfl
theorem Tx.f__law_names (T : Tx K mg) : ∃ fd, FunD K "_law_names" "_law_names" (defArgs s__law_names) (defBody s__law_names) (defScope s__law_names) [] [] (He.ga K "_law_names") fd := T.c.def_ 73 (d := D.d__law_names) rfl
theorem Tx.f__law_fields (T : Tx K mg) : ∃ fd, FunD K "_law_fields" "_law_fields" (defArgs s__law_fields) (defBody s__law_fields) (defScope s__law_fields) [] [] (He.ga K "_law_fields") fd := T.c.def_ 74 (d := D.d__law_fields) rfl
theorem Tx.f__law_pool (T : Tx K mg) : ∃ fd, FunD K "_law_pool" "_law_pool" (defArgs s__law_pool) (defBody s__law_pool) (defScope s__law_pool) [] [] (He.ga K "_law_pool") fd := T.c.def_ 75 (d := D.d__law_pool) rfl
theorem Tx.f__law_condition (T : Tx K mg) : ∃ fd, FunD K "_law_condition" "_law_condition" (defArgs s__law_condition) (defBody s__law_condition) (defScope s__law_condition) [] [] (He.ga K "_law_condition") fd := T.c.def_ 76 (d := D.d__law_condition) rfl
theorem Tx.f__law_question (T : Tx K mg) : ∃ fd, FunD K "_law_question" "_law_question" (defArgs s__law_question) (defBody s__law_question) (defScope s__law_question) [] [] (He.ga K "_law_question") fd := T.c.def_ 77 (d := D.d__law_question) rfl
theorem Tx.f__law_within (T : Tx K mg) : ∃ fd, FunD K "_law_within" "_law_within" (defArgs s__law_within) (defBody s__law_within) (defScope s__law_within) [] [] (He.ga K "_law_within") fd := T.c.def_ 78 (d := D.d__law_within) rfl
theorem Tx.f__law_form (T : Tx K mg) : ∃ fd, FunD K "_law_form" "_law_form" (defArgs s__law_form) (defBody s__law_form) (defScope s__law_form) [] [] (He.ga K "_law_form") fd := T.c.def_ 79 (d := D.d__law_form) rfl
theorem Tx.f__law_is_name (T : Tx K mg) : ∃ fd, FunD K "_law_is_name" "_law_is_name" (defArgs s__law_is_name) (defBody s__law_is_name) (defScope s__law_is_name) [] [] (He.ga K "_law_is_name") fd := T.c.def_ 80 (d := D.d__law_is_name) rfl
theorem Tx.f__law_pairs (T : Tx K mg) : ∃ fd, FunD K "_law_pairs" "_law_pairs" (defArgs s__law_pairs) (defBody s__law_pairs) (defScope s__law_pairs) [] [] (He.ga K "_law_pairs") fd := T.c.def_ 81 (d := D.d__law_pairs) rfl
theorem Tx.f__law_repeated (T : Tx K mg) : ∃ fd, FunD K "_law_repeated" "_law_repeated" (defArgs s__law_repeated) (defBody s__law_repeated) (defScope s__law_repeated) [] [] (He.ga K "_law_repeated") fd := T.c.def_ 82 (d := D.d__law_repeated) rfl
theorem Tx.f__law_due (T : Tx K mg) : ∃ fd, FunD K "_law_due" "_law_due" (defArgs s__law_due) (defBody s__law_due) (defScope s__law_due) [] [] (He.ga K "_law_due") fd := T.c.def_ 83 (d := D.d__law_due) rfl
theorem Tx.f__law_made (T : Tx K mg) : ∃ fd, FunD K "_law_made" "_law_made" (defArgs s__law_made) (defBody s__law_made) (defScope s__law_made) [] [] (He.ga K "_law_made") fd := T.c.def_ 84 (d := D.d__law_made) rfl
theorem Tx.f_law (T : Tx K mg) : ∃ fd, FunD K "law" "law" (defArgs s_law) (defBody s_law) (defScope s_law) [] [] (He.ga K "law") fd := T.c.def_ 85 (d := D.d_law) rfl
end
end K3
end A0_part
section V0_part
set_option Elab.async false
set_option linter.all false
set_option maxRecDepth 100000
set_option maxHeartbeats 0
namespace L2
open PySem PySem.Spec PyProof.Rows
/-! ### a def and its promise, for all callers -/
structure Ok (P : Program) (w : World) (K : PySem.W.Frag) (mg : Str → Option Value) (base : Heap) (k : Nat) (f : Addr) (ps : List Str) (sp : Sp) : Prop where
  run : ∃ fd, FnOk P w K mg base (L2.CX P w) k f fd ps sp ∧ Binds K fd ps [] ∧ PySem.W.keepIn K (.ref f) = true
section
variable {X : Cx} {k : Nat} {f : Addr} {ps : List Str} {sp : Sp} {x : Str} {e : Expr} {es : List Expr} {p pos : Pos} {t : TA}
/-- f(e, ..), nothing is raised -/
theorem pe_f (O : Ok X.prog X.w X.K X.mg X.base k f ps sp) (hr : Room k X.A) (hm : X.mg x = some (.ref f)) (ha : PA X (e :: es) t) (hg : Gl X x := by rfl) (hdb : (x == ("__debug__" : Str)) = false := by decide)
    (he : starEach (e :: es) X.env = (false, eval e X.env) :: starEach es X.env := by rfl) (hpl : (backTo pos (starEach es X.env)).any (·.1) = false := by rfl) :
    PE X (.Call (.Name x p) (e :: es) [] pos) (tCall sp [] E0 t) := by
  obtain ⟨fd, F, b, kp⟩ := O.run
  exact pe_call F hr hg hm kp b .nil passL ha hdb he hpl
/-- f(e, ..), what is raised is wished for by W at the slots -/
theorem pe_fE {W : WX} (tk : Takes X W) (O : Ok X.prog X.w X.K X.mg X.base k f ps sp) (hr : Room k X.A) (hm : X.mg x = some (.ref f)) (ha : PA X (e :: es) t) (hg : Gl X x := by rfl) (hdb : (x == ("__debug__" : Str)) = false := by decide)
    (he : starEach (e :: es) X.env = (false, eval e X.env) :: starEach es X.env := by rfl) (hpl : (backTo pos (starEach es X.env)).any (·.1) = false := by rfl) :
    PE X (.Call (.Name x p) (e :: es) [] pos) (tCallS sp (WE W) t) := by
  obtain ⟨fd, F, b, kp⟩ := O.run
  exact pe_callS F hr hg hm kp b (fun σ => passAt tk σ) ha hdb he hpl
theorem pe_gint {i : Int} (hm : ∃ t, X.mg x = some (.int i t)) (hg : Gl X x := by rfl) (hd : (x == ("__debug__" : Str)) = false := by decide) : PE X (.Name x pos) (tC (.int i)) := by
  obtain ⟨t, h⟩ := hm
  exact pe_glob hg h ⟨_, rfl⟩ hd
theorem pe_gstr {i : Str} (hm : ∃ t, X.mg x = some (.str i t)) (hg : Gl X x := by rfl) (hd : (x == ("__debug__" : Str)) = false := by decide) : PE X (.Name x pos) (tC (.str i)) := by
  obtain ⟨t, h⟩ := hm
  exact pe_glob hg h ⟨_, rfl⟩ hd
theorem pe_gref {a : Addr} (hm : X.mg x = some (.ref a)) (hg : Gl X x := by rfl) (hd : (x == ("__debug__" : Str)) = false := by decide) : PE X (.Name x pos) (tC (.ref a)) := pe_glob hg hm rfl hd
end
/-! ### readings, step by step -/
section
variable {σ : St} {H : Hp} {D : Ends} {t u : TS} {te ta tb tc : TE} {tt tt2 : TT} {tr : TA} {Q : VK} {QB : Bool → Hp → Prop} {QA : List V → Hp → Prop} {i : Nat} {v x y : V}
theorem w_seq (h : t { D with nx := u D } σ H) : tSeq t u D σ H := h
theorem w_next (h : D.nx σ H) : tNext D σ H := h
theorem w_set (h : te σ H fun x H1 => D.nx (σ.set i (some x)) H1) : tAsg te (gName i) D σ H := h
theorem w_drop (h : te σ H fun _ H1 => D.nx σ H1) : tDrop te D σ H := h
theorem w_ret (h : te σ H D.rt) : tRet te D σ H := h
theorem w_retN (h : D.rt .non H) : tRetN D σ H := h
theorem w_if (h : tt σ H fun b H1 => if b = true then t D σ H1 else u D σ H1) : tIfS tt t u D σ H := h
theorem w_var (h : σ[i]? = some (some v)) (q : Q v H) : tVar i σ H Q := ⟨v, h, q⟩
theorem w_c (q : Q v H) : tC v σ H Q := q
theorem w_nil (q : QA [] H) : tNil σ H QA := q
theorem w_cons (h : te σ H fun x H1 => tr σ H1 fun xs H2 => QA (x :: xs) H2) : tCons te tr σ H QA := h
theorem w_op {r : R2} (h : ta σ H fun x H1 => tb σ H1 fun y H2 => r x y H2 Q) : tOp r ta tb σ H Q := h
theorem w_un {r : V → Hp → VK → Prop} (h : ta σ H fun x H1 => r x H1 Q) : tUn r ta σ H Q := h
theorem w_test (h : te σ H fun x H' => ∃ k, x = .bl k ∧ QB k H') : tTest te σ H QB := h
theorem w_tB (h : te σ H fun x H' => ∃ k, x = .bl k ∧ QB k H') : tB te σ H QB := h
theorem w_not (h : tt σ H fun c H1 => QB (!c) H1) : tNot tt σ H QB := h
theorem w_and (h : tt σ H fun c H1 => if c = true then tt2 σ H1 QB else QB false H1) : tAnd tt tt2 σ H QB := h
theorem w_or (h : tt σ H fun c H1 => if c = true then QB true H1 else tt2 σ H1 QB) : tOr tt tt2 σ H QB := h
theorem w_bl {b : Bool} {P : Bool → Prop} (h : P b) : ∃ k, V.bl b = .bl k ∧ P k := ⟨b, rfl, h⟩
theorem w_nT {A B : Prop} (h : B) : if (!true) = true then A else B := iteF h
theorem w_nF {A B : Prop} (h : A) : if (!false) = true then A else B := iteT h
theorem w_nN {A B : Prop} {b : Bool} (h : if b = true then B else A) : if (!b) = true then A else B := by cases b <;> exact h
theorem w_andV (h : ta σ H fun x H1 => ∃ c, x = .bl c ∧ if c = true then tb σ H1 Q else Q (.bl false) H1) : tAndV ta tb σ H Q := h
theorem w_orV (h : ta σ H fun x H1 => ∃ c, x = .bl c ∧ if c = true then Q (.bl true) H1 else tb σ H1 Q) : tOrV ta tb σ H Q := h
theorem w_notV (h : ta σ H fun x H1 => ∃ c, x = .bl c ∧ Q (.bl (!c)) H1) : tNotV ta σ H Q := h
theorem w_ifE (h : tt σ H fun c H1 => if c = true then ta σ H1 Q else tb σ H1 Q) : tIf tt ta tb σ H Q := h
theorem w_chain {r r' : R2} (h : ta σ H fun x H1 => tb σ H1 fun y H2 => r x y H2 fun z H3 => ∃ k, z = .bl k ∧ (if k = true then tc σ H3 fun w' H4 => r' y w' H4 Q else Q (.bl false) H3)) : tChain r r' ta tb tc σ H Q := h
theorem w_i0 {g : Int → Int → V} {i j : Int} (h : Q (g i j) H) : rI0 g (.int i) (.int j) H Q := ⟨i, j, rfl, rfl, h⟩
theorem w_i {C : Int → Int → Prop} {g : Int → Int → V} {i j : Int} (c : C i j) (h : Q (g i j) H) : rI C g (.int i) (.int j) H Q := ⟨i, j, rfl, rfl, c, h⟩
theorem w_call {sp : Sp} {dvs : List V} {E : XK} (h : tr σ H fun vs H1 => sp (vs ++ dvs) H1 Q E) : tCall sp dvs E tr σ H Q := h
theorem w_callS {sp : Sp} {E : St → XK} (h : tr σ H fun vs H1 => sp vs H1 Q (E σ)) : tCallS sp E tr σ H Q := h
theorem w_cB {r : List V → Hp → VK → Prop} (h : tr σ H fun vs H1 => r vs H1 Q) : tCB r tr σ H Q := h
theorem w_tup (h : tr σ H fun xs H1 => xs.length ≤ sizeLine ∧ ∀ p, H1 p = none → Q (.ref p) (upd H1 p (.tup xs))) : tTup tr σ H Q := h
theorem w_lst (h : tr σ H fun xs H1 => xs.length ≤ sizeLine ∧ ∀ p, H1 p = none → Q (.ref p) (upd H1 p (.lst xs))) : tLst tr σ H Q := h
theorem w_fldV {K : PySem.W.Frag} {f : Str} (h : ta σ H fun x H1 => ∃ a C dx fs v, x = .ref a ∧ H1 a = some (.ins C dx fs) ∧ Cls K C ∧ NoAttr K C f ∧ fs.lookup f = some v ∧ Q v H1) : tFld K ta f σ H Q := h
theorem w_eqS {a b : Str} (h : Q (.bl (decide (V.str a = V.str b))) H) : rEq (.str a) (.str b) H Q := ⟨rfl, h⟩
theorem w_neF {A B : Prop} {a b : Bool} (h : if b = true then A else B) : if (if false = true then a else b) = true then A else B := by
  rw [if_neg Bool.false_ne_true]
  exact h
theorem w_neT {A B : Prop} {a b : Bool} (h : if a = true then A else B) : if (if true = true then a else b) = true then A else B := by
  rw [if_pos (rfl : true = true)]
  exact h
theorem w_yes (h : QB true H) : tYes σ H QB := h
theorem w_notN (h : ta σ H fun x H1 => Q (.bl (!decide (x = .non))) H1) : tNotN ta σ H Q := h
theorem w_isN (h : ta σ H fun x H1 => Q (.bl (decide (x = .non))) H1) : tIsN ta σ H Q := h
theorem w_gname {QS : L2.St → Hp → Prop} (h : QS (σ.set i (some v)) H) : gName i v σ H QS := h
theorem w_gsub {to ti : TE} {t : TSet} {QS : L2.St → Hp → Prop} (h : to σ H fun o H1 => ti σ H1 fun i H2 => t o i v H2 fun H3 => QS σ H3) : gSub to ti t v σ H QS := h
theorem w_asg {g : TG} (h : te σ H fun x H1 => g x σ H1 D.nx) : tAsg te g D σ H := h
theorem w_ixL {K : PySem.W.Frag} {p : Addr} {xs : List V} {i : Int} (hl : H p = some (.lst xs)) (ha : atI xs i = some v) (h : Q v H) : rIxL K (.ref p) (.int i) H Q := ⟨p, xs, i, v, rfl, rfl, SqL.of hl, ha, h⟩
theorem w_ixT {K : PySem.W.Frag} {p : Addr} {xs : List V} {i : Int} (hl : SqT K H p xs) (ha : atI xs i = some v) (h : Q v H) : rIxT K (.ref p) (.int i) H Q := ⟨p, xs, i, v, rfl, rfl, hl, ha, h⟩
theorem w_setL {p : Addr} {xs : List V} {i : Int} {j : Nat} {QH : Hp → Prop} (hl : H p = some (.lst xs)) (hj : ixN xs.length i = some j) (h : QH (upd H p (.lst (xs.set j v)))) : rSetL (.ref p) (.int i) v H QH := ⟨p, xs, i, j, rfl, rfl, hl, hj, h⟩
theorem w_iteT {A B : Prop} (h : A) : if true = true then A else B := iteT h
theorem w_iteF {A B : Prop} (h : B) : if false = true then A else B := iteF h
end
end L2
namespace L2
open PySem PySem.Spec PyProof.Rows
theorem Same.new {H : Hp} {p : Addr} (h : H p = none) (o : HO) : Same H (upd H p o) := fun b u q => by rw [upd_ne (ne_of_none q h)]; exact q
theorem Same.at {H H' : Hp} (s : Same H H') {a : Addr} {o : HO} (h : H a = some o) : H' a = some o := s _ _ h
/-- an object that H does not know may change -/
theorem Same.mut {H H' : Hp} {p : Addr} {o : HO} (e : Same H H') (h : H p = none) : Same H (upd H' p o) := fun a u ha => by
  rw [upd_ne (ne_of_none ha h)]
  exact e a u ha
theorem Same.sqt {K : PySem.W.Frag} {H H' : Hp} {a : Addr} {xs : List V} (e : Same H H') (h : SqT K H a xs) : SqT K H' a xs := by
  rcases h with (h | ⟨o, h⟩) | h
  · exact .inl (.inl (e _ _ h))
  · exact .inl (.inr ⟨o, e _ _ h⟩)
  · exact .inr h
/-- instances and tuples stand -/
def keepF : List (Str × V) → Bool
  | [] => false
  | [(f, _)] => decide (f = ("inner" : Str))
  | [_, (g, _)] => !decide (g = ("questions" : Str))
  | _ => true
def keepO : HO → Bool
  | .ins _ _ fs => keepF fs
  | .tup _ => true
  | .frz _ _ => true
  | _ => false
def SI (H H' : Hp) : Prop := ∀ b o, keepO o = true → H b = some o → H' b = some o
theorem Same.si {H H' : Hp} (e : Same H H') : SI H H' := fun b o _ h => e b o h
theorem SI.trans {H H1 H2 : Hp} (a : SI H H1) (b : SI H1 H2) : SI H H2 := fun c o k h => b c o k (a c o k h)
theorem SI.refl (H : Hp) : SI H H := fun _ _ _ h => h
theorem SI.upd {H : Hp} {p : Addr} {u : HO} (h : H p = some u) (hu : keepO u = false) (o : HO) : SI H (upd H p o) := fun b o' k q => by
  rw [upd_ne (fun z => by rw [z, h] at q; rw [← Option.some.inj q, hu] at k; cases k)]
  exact q
theorem SI.sqt {K : PySem.W.Frag} {H H' : Hp} {a : Addr} {xs : List V} (e : SI H H') (h : SqT K H a xs) : SqT K H' a xs := by
  rcases h with (h | ⟨o, h⟩) | h
  · exact .inl (.inl (e _ _ rfl h))
  · exact .inl (.inr ⟨o, e _ _ rfl h⟩)
  · exact .inr h
/-- [te for c in z]: each element is f c -/
theorem lc_strF {z : Str} {f : Nat → V} {σ : St} {i : Nat} {vs : List Nat} {ta te : TE} {H : Hp} {Q : VK} (ha : ∀ (Q : VK), Q (.str z) H → ta σ H Q) (hz : z.cps.size ≤ 1000) (hw : ∀ x, wipe ((wipe σ vs).set i (some x)) vs = wipe σ vs)
    (he : ∀ (c : Nat) (H' : Hp) (Q : VK), Same H H' → Q (f c) H' → te ((wipe σ vs).set i (some (.str ⟨#[c]⟩))) H' Q)
    (q : ∀ (p : Addr) (H' : Hp), H p = none → Same H H' → H' p = some (.lst (z.cps.toList.map f)) → Q (.ref p) H') : tLc (iStr ta) (gName i) tYes te vs σ H Q := by
  refine ha _ ⟨z, rfl, fun p hp => ?_⟩
  refine lc_it (n := z.cps.size) walk_str (fun n H' => Same H H' ∧ H' p = some (.lst ((z.cps.toList.take n).map f))) ⟨Same.new hp _, upd_same⟩ (fun _ _ _ _ => trivial) ?_ ?_
  · rintro n x H1 H2 hn ⟨s1, e1⟩ ⟨rfl, c, hc, rfl⟩
    refine ⟨hw _, ?_⟩
    refine w_yes ?_
    refine w_iteT ?_
    refine (he c _ _ s1 ⟨_, e1, ?_, s1.mut hp, ?_⟩)
    · rw [List.length_map, List.length_take, Array.length_toList]
      exact Nat.lt_of_lt_of_le (Nat.lt_of_le_of_lt (Nat.min_le_left _ _) (Nat.lt_of_lt_of_le hn hz)) (by decide)
    · rw [upd_same, List.take_add_one]
      have : z.cps.toList[n]? = some c := by rw [Array.getElem?_toList]; exact hc
      rw [this]
      simp
  · rintro H' ⟨s1, e1⟩
    refine q p H' hp s1 ?_
    rw [e1, List.take_of_length_le (by rw [Array.length_toList] <;> exact Nat.le_refl _)]
end L2
end V0_part
section G0_part
set_option Elab.async false
set_option linter.all false
set_option maxRecDepth 100000
set_option maxHeartbeats 1000000
set_option pp.deepTerms true
open PySem PySem.Spec PyProof.Rows L2
/-- go on as far as nothing is open -/
local macro_rules | `(tactic| walk_at "go") => `(tactic| repeat (first
  | with_reducible refine w_seq ?_ | with_reducible refine w_next ?_ | with_reducible refine w_set ?_ | with_reducible refine w_drop ?_ | with_reducible refine w_ret ?_ | with_reducible refine w_retN ?_
  | with_reducible refine w_if ?_ | ((with_reducible refine' w_var ?hv ?_); (case hv => exact rfl)) | with_reducible refine w_c ?_ | with_reducible refine w_nil ?_ | with_reducible refine w_cons ?_ | with_reducible refine w_op ?_ | with_reducible refine w_un ?_
  | with_reducible refine w_test ?_ | with_reducible refine w_tB ?_ | with_reducible refine w_not ?_ | with_reducible refine w_and ?_ | with_reducible refine w_or ?_ | with_reducible refine w_bl ?_
  | with_reducible refine w_andV ?_ | with_reducible refine w_orV ?_ | with_reducible refine w_notV ?_ | with_reducible refine w_ifE ?_ | with_reducible refine w_chain ?_ | with_reducible refine w_i0 ?_
  | with_reducible refine w_call ?_ | with_reducible refine w_callS ?_ | with_reducible refine w_cB ?_ | with_reducible refine w_tup ?_ | with_reducible refine w_lst ?_ | with_reducible refine w_fldV ?_
  | with_reducible refine w_neF ?_ | with_reducible refine w_neT ?_ | with_reducible refine w_notN ?_ | with_reducible refine w_isN ?_ | with_reducible refine w_gname ?_ | with_reducible refine w_gsub ?_ | with_reducible refine w_asg ?_ | with_reducible refine w_yes ?_ | with_reducible refine w_nT ?_ | with_reducible refine w_nF ?_ | with_reducible refine w_iteT ?_ | with_reducible refine w_iteF ?_))
namespace L2
open PySem PySem.Spec PyProof.Rows
section
variable {σ : St} {H : Hp} {te : TE} {tl th : TO} {Q : VK} {QO : Option Int → Hp → Prop} {r : V → Option Int → Option Int → Hp → VK → Prop}
theorem w_sl (h : te σ H fun x H1 => tl σ H1 fun l H2 => th σ H2 fun u H3 => r x l u H3 Q) : tSl r te tl th σ H Q := h
theorem w_noP (h : QO none H) : tNoPart σ H QO := h
theorem w_part (h : te σ H fun x H1 => ∃ i, x = .int i ∧ QO (some i) H1) : tPart te σ H QO := h
theorem w_int1 {i : Int} {P : Int → Prop} (h : P i) : ∃ j, V.int i = .int j ∧ P j := ⟨i, rfl, h⟩
end
end L2

namespace K3
/-! ### heaps less what may change -/
def less (H : Hp) (M : List Addr) : Hp := fun b => if b ∈ M then none else H b
/-- all stands, what is in M perhaps changed -/
def BM (M : List Addr) (H H' : Hp) : Prop := ∀ b o, H b = some o → ∃ o', H' b = some o' ∧ (b ∉ M → o' = o)
theorem BM.refl (M : List Addr) (H : Hp) : BM M H H := fun _ o h => ⟨o, h, fun _ => rfl⟩
theorem BM.trans {M : List Addr} {H H1 H2 : Hp} (a : BM M H H1) (b : BM M H1 H2) : BM M H H2 := fun c o h => by
  obtain ⟨o1, h1, k1⟩ := a c o h
  obtain ⟨o2, h2, k2⟩ := b c o1 h1
  exact ⟨o2, h2, fun k => (k2 k).trans (k1 k)⟩
theorem BM.at {M : List Addr} {H H1 : Hp} (a : BM M H H1) {b : Addr} {o : HO} (h : H b = some o) (k : b ∉ M) : H1 b = some o := by
  obtain ⟨o1, h1, k1⟩ := a b o h
  rw [h1, k1 k]
theorem BM.of {M : List Addr} {H H1 : Hp} (a : Same H H1) : BM M H H1 := fun c o h => ⟨o, a c o h, fun _ => rfl⟩
theorem BM.mono {M N : List Addr} {H H1 : Hp} (a : BM M H H1) (s : ∀ b ∈ M, b ∈ N) : BM N H H1 := fun c o h => by
  obtain ⟨o1, h1, k1⟩ := a c o h
  exact ⟨o1, h1, fun k => k1 fun z => k (s c z)⟩
theorem BM.upd {M : List Addr} {H : Hp} {p : Addr} (hp : p ∈ M) (o : HO) : BM M H (upd H p o) := fun b u h => by
  by_cases c : b = p
  · exact ⟨o, by rw [c]; exact upd_same, fun k => absurd (by rw [c]; exact hp) k⟩
  · exact ⟨u, by rw [upd_ne c]; exact h, fun _ => rfl⟩
theorem BM.less {M : List Addr} {H H1 : Hp} (a : BM M H H1) : Same (less H M) (less H1 M) := fun b o h => by
  unfold K3.less at h ⊢
  by_cases c : b ∈ M
  · rw [if_pos c] at h; cases h
  · rw [if_neg c] at h ⊢
    exact a.at h c
theorem BM.free {M : List Addr} {H H1 : Hp} (h : BM M H H1) {p : Addr} (hp : H1 p = none) : H p = none := by
  cases e : H p with
  | none => rfl
  | some o =>
    obtain ⟨o1, h1, _⟩ := h p o e
    rw [hp] at h1
    cases h1
theorem less_at {H : Hp} {M : List Addr} {b : Addr} {o : HO} (h : less H M b = some o) : H b = some o ∧ b ∉ M := by
  unfold less at h
  by_cases c : b ∈ M
  · rw [if_pos c] at h; cases h
  · rw [if_neg c] at h; exact ⟨h, c⟩
theorem less_of {H : Hp} {M : List Addr} {b : Addr} {o : HO} (h : H b = some o) (c : b ∉ M) : less H M b = some o := by
  unfold less
  rw [if_neg c]
  exact h
theorem less_same {H : Hp} {M : List Addr} : Same (less H M) H := fun b o h => (less_at h).1
/-- all of M is there -/
def In (M : List Addr) (H : Hp) : Prop := ∀ m ∈ M, ∃ o, H m = some o
theorem In.new {M : List Addr} {H : Hp} {p : Addr} (h : In M H) (hp : H p = none) : p ∉ M := fun z => by obtain ⟨o, e⟩ := h p z; rw [hp] at e; cases e
theorem In.bm {M N : List Addr} {H H' : Hp} (h : In M H) (e : BM N H H') : In M H' := fun m hm => by
  obtain ⟨o, q⟩ := h m hm
  obtain ⟨o', q', _⟩ := e m o q
  exact ⟨o', q'⟩
/-- the source of draws -/
def Src (H : Hp) (s : Addr) : Prop := ∃ a b c : Int, H s = some (.lst [.int a, .int b, .int c])
theorem Src.bm {M : List Addr} {H H' : Hp} {s : Addr} (h : Src H s) (e : BM M H H') (k : s ∉ M) : Src H' s := let ⟨a, b, c, q⟩ := h; ⟨a, b, c, e.at q k⟩
theorem Src.same {H H' : Hp} {s : Addr} (h : Src H s) (e : Same H H') : Src H' s := let ⟨a, b, c, q⟩ := h; ⟨a, b, c, e _ _ q⟩
theorem Paired.app {α β : Type} {F : α → β → Prop} : ∀ {l1 l3 : List α} {l2 l4 : List β}, Paired F l1 l2 → Paired F l3 l4 → Paired F (l1 ++ l3) (l2 ++ l4)
  | _, _, _, _, .nil, h => h
  | _, _, _, _, .cons a t, h => .cons a (Paired.app t h)
theorem Paired.get {α β : Type} {F : α → β → Prop} : ∀ {l1 : List α} {l2 : List β}, Paired F l1 l2 → ∀ {i : Nat} {x : α}, l1[i]? = some x → ∃ y, l2[i]? = some y ∧ F x y
  | _, _, .nil, i, x, h => by simp at h
  | _, _, .cons (a := a) (b := b) h t, 0, x, e => by
    have e' : a = x := by simpa using e
    subst e'
    exact ⟨b, rfl, h⟩
  | _, _, .cons h t, i + 1, x, e => Paired.get t (i := i) (by simpa using e)
def rEqE (K : PySem.W.Frag) : R2 := fun x y H Q => ∃ (a b : Addr) (xs ys : List V), x = .ref a ∧ y = .ref b ∧ SqL K H a xs ∧ SqL K H b ys ∧ (xs = [] ∨ ys = [] ∨ xs.length ≠ ys.length) ∧ Q (.bl (decide (xs = [] ∧ ys = []))) H
def rNeE (K : PySem.W.Frag) : R2 := fun x y H Q => ∃ (a b : Addr) (xs ys : List V), x = .ref a ∧ y = .ref b ∧ SqL K H a xs ∧ SqL K H b ys ∧ (xs = [] ∨ ys = [] ∨ xs.length ≠ ys.length) ∧ Q (.bl (!decide (xs = [] ∧ ys = []))) H
theorem sizes {xs ys : List V} {is js : List Value} (r1 : Vals xs is) (r2 : Vals ys js) (h : xs = [] ∨ ys = [] ∨ xs.length ≠ ys.length) (c : ¬ (xs = [] ∧ ys = [])) : (is.toArray.size != js.toArray.size) = true := by
  have e1 := r1.length
  have e2 := r2.length
  simp only [List.size_toArray, bne_iff_ne, ne_eq]
  rw [← e1, ← e2]
  intro z
  rcases h with h | h | h
  · rw [h] at z
    exact c ⟨h, List.length_eq_zero_iff.mp z.symm⟩
  · rw [h] at z
    exact c ⟨List.length_eq_zero_iff.mp z, h⟩
  · exact h z
theorem op_eqE {X : Cx} (hu : X.A.units < cLine) : OpR X (compareOp .Eq) (rEqE X.K) := by
  intro pins s σ H x y v u Q I rx ry h
  obtain ⟨a, b, xs, ys, rfl, rfl, ha, hb, hs, q⟩ := h
  cases rx
  cases ry
  obtain ⟨is, r1, p1, _⟩ := I.list ha
  obtain ⟨js, r2, p2, _⟩ := I.list hb
  by_cases c : xs = [] ∧ ys = []
  · rw [decide_eq_true c] at q
    obtain ⟨rfl, rfl⟩ := c
    cases r1
    cases r2
    exact SeqAt.eq_listAt (e := fun _ => true) p1.isList p2.isList rfl hu (fun j h1 => absurd h1 (Nat.not_lt_zero _)) ⟨.bl true, H, I, rfl, q⟩
  · rw [decide_eq_false c] at q
    exact SeqAt.eq_list_lengthsAt p1.isList p2.isList (sizes r1 r2 hs c) hu ⟨.bl false, H, I, rfl, q⟩
theorem op_neE {X : Cx} (hu : X.A.units < cLine) : OpR X (compareOp .NotEq) (rNeE X.K) := by
  intro pins s σ H x y v u Q I rx ry h
  obtain ⟨a, b, xs, ys, rfl, rfl, ha, hb, hs, q⟩ := h
  cases rx
  cases ry
  obtain ⟨is, r1, p1, _⟩ := I.list ha
  obtain ⟨js, r2, p2, _⟩ := I.list hb
  by_cases c : xs = [] ∧ ys = []
  · rw [decide_eq_true c] at q
    obtain ⟨rfl, rfl⟩ := c
    cases r1
    cases r2
    exact SeqAt.RcNeAt.lists (e := fun _ => true) p1.isList p2.isList rfl hu (fun j h1 => absurd h1 (Nat.not_lt_zero _)) X.prog X.w X.xe _ ⟨.bl false, H, I, rfl, q⟩
  · rw [decide_eq_false c] at q
    exact SeqAt.RcNeAt.lists_lengths p1.isList p2.isList (sizes r1 r2 hs c) hu X.prog X.w X.xe _ ⟨.bl true, H, I, rfl, q⟩

theorem cut_to (xs : List V) (i : Nat) : cutV xs none (some (i : Int)) = xs.take i := by
  unfold cutV
  rw [HT.sIx_none, HT.sIx_nat, List.drop_zero, Nat.sub_zero]
  by_cases h : i ≤ xs.length
  · rw [Nat.min_eq_left h]
  · rw [Nat.min_eq_right (by omega), List.take_length, List.take_of_length_le (by omega)]
theorem cut_from (xs : List V) (i : Nat) : cutV xs (some (i : Int)) none = xs.drop i := by
  unfold cutV
  rw [HT.sIx_none, HT.sIx_nat]
  by_cases h : i ≤ xs.length
  · rw [Nat.min_eq_left h, List.take_of_length_le (by rw [List.length_drop]; omega)]
  · rw [Nat.min_eq_right (by omega), List.drop_length, List.take_nil, List.drop_of_length_le (by omega)]
theorem w_ifR {tt : TT} {t u : TS} {D : L2.Ends} {σ : L2.St} {H : Hp} (R : Bool → Hp → Prop) (h : ∀ QB : Bool → Hp → Prop, (∀ b H', R b H' → QB b H') → tt σ H QB) (h1 : ∀ H', R true H' → t D σ H') (h2 : ∀ H', R false H' → u D σ H') : tIfS tt t u D σ H :=
  h _ fun b H' r => by
    cases b with
    | true => exact h1 H' r
    | false => exact h2 H' r
theorem less_upd {H : Hp} {M : List Addr} {p : Addr} (h : p ∈ M) (o : HO) : less (upd H p o) M = less H M := by
  funext b
  unfold K3.less
  by_cases c : b ∈ M
  · rw [if_pos c, if_pos c]
  · rw [if_neg c, if_neg c, upd_ne (fun z => c (by rw [z]; exact h))]
theorem less_sub {H : Hp} {M N : List Addr} (h : ∀ b ∈ M, b ∈ N) : Same (less H N) (less H M) := fun b o q => less_of (less_at q).1 fun z => (less_at q).2 (h b z)
end K3
end G0_part
section C1_part
set_option Elab.async false
set_option linter.all false
set_option maxRecDepth 100000
set_option maxHeartbeats 1000000
set_option pp.deepTerms true
open PySem PySem.Spec PyProof.Rows L2
/-- go on as far as nothing is open -/
local macro_rules | `(tactic| walk_at "go") => `(tactic| repeat (first
  | with_reducible refine w_seq ?_ | with_reducible refine w_next ?_ | with_reducible refine w_set ?_ | with_reducible refine w_drop ?_ | with_reducible refine w_ret ?_ | with_reducible refine w_retN ?_
  | with_reducible refine w_if ?_ | ((with_reducible refine' w_var ?hv ?_); (case hv => exact rfl)) | with_reducible refine w_c ?_ | with_reducible refine w_nil ?_ | with_reducible refine w_cons ?_ | with_reducible refine w_op ?_ | with_reducible refine w_un ?_
  | with_reducible refine w_test ?_ | with_reducible refine w_tB ?_ | with_reducible refine w_not ?_ | with_reducible refine w_and ?_ | with_reducible refine w_or ?_ | with_reducible refine w_bl ?_
  | with_reducible refine w_andV ?_ | with_reducible refine w_orV ?_ | with_reducible refine w_notV ?_ | with_reducible refine w_ifE ?_ | with_reducible refine w_chain ?_ | with_reducible refine w_i0 ?_
  | with_reducible refine w_call ?_ | with_reducible refine w_callS ?_ | with_reducible refine w_cB ?_ | with_reducible refine w_tup ?_ | with_reducible refine w_lst ?_ | with_reducible refine w_fldV ?_
  | with_reducible refine w_neF ?_ | with_reducible refine w_neT ?_ | with_reducible refine w_notN ?_ | with_reducible refine w_isN ?_ | with_reducible refine w_gname ?_ | with_reducible refine w_gsub ?_ | with_reducible refine w_asg ?_ | with_reducible refine w_sl ?_ | with_reducible refine w_noP ?_ | with_reducible refine w_int1 ?_ | with_reducible refine w_part ?_ | with_reducible refine w_yes ?_ | with_reducible refine w_nT ?_ | with_reducible refine w_nF ?_ | with_reducible refine w_iteT ?_ | with_reducible refine w_iteF ?_))
namespace K3
/-! ### tables -/
abbrev RowAt (H : Hp) (r : Addr) (row : List Int) : Prop := H r = some (.lst (row.map V.int))
structure Tab (H : Hp) (p : Addr) (rs : List Addr) (t : List (List Int)) : Prop where
  at_ : H p = some (.lst (rs.map V.ref))
  rows : Paired (RowAt H) rs t
theorem Tab.same {H H' : Hp} (e : Same H H') {p : Addr} {rs : List Addr} {t : List (List Int)} (h : Tab H p rs t) : Tab H' p rs t := ⟨e _ _ h.at_, L2.Paired.mapP h.rows fun _ _ z => e _ _ z⟩
/-- all of it is new -/
structure New (H : Hp) (p : Addr) (rs : List Addr) : Prop where
  p0 : H p = none
  rs0 : ∀ r ∈ rs, H r = none
  nd : rs.Nodup
  ne : p ∉ rs
def addSum (r : List Int) : List Int := r ++ [r.sum]
def colOf (u : List (List Int)) (c : Nat) : List Int := u.map fun r => r.getD c 0
def withSums (k : Nat) (t : List (List Int)) : List (List Int) := t.map addSum ++ [(List.range (k + 1)).map fun c => (colOf (t.map addSum) c).sum]
theorem lc_open {wi : TI} {g : TG} {tt : TT} {te : TE} {vs : List Nat} {σ : L2.St} {H : Hp} {Q : VK} (h : wi σ H fun J H1 => ∀ D, H1 D = none → ∃ W : Nat → Nat → Hp → Prop, (∃ m, W 0 m (upd H1 D (.lst []))) ∧ ∀ i m H, W i m H →
    (J.stop i H ∧ Q (.ref D) H) ∨ (J.go i H ∧ ∃ Nx : Hp → Prop, (∀ H', Nx H' → ∃ m', m' < m ∧ W (i + 1) m' H') ∧ ∀ x H', J.yld i H x H' → g x (wipe σ vs) H' fun σ2 H2 => wipe σ2 vs = wipe σ vs ∧ tt σ2 H2 fun b H3 =>
      if b = true then te σ2 H3 fun y H4 => ∃ acc, H4 D = some (.lst acc) ∧ acc.length < sizeLine ∧ Nx (upd H4 D (.lst (acc ++ [y]))) else Nx H3)) : tLc wi g tt te vs σ H Q := h
theorem rng_open {ta : TA} {σ : L2.St} {H : Hp} {R : It → Hp → Prop} (h : ta σ H fun vs H1 => ∃ j : Int, vs = [.int j] ∧ -(2 ^ 62) ≤ j ∧ j < 2 ^ 62 ∧ R (Itr 0 j.toNat) H1) : iRng1 ta σ H R := h
theorem list_open {K : PySem.W.Frag} {tl : TE} {σ : L2.St} {H : Hp} {R : It → Hp → Prop} (h : tl σ H fun x H1 => ∃ a, x = .ref a ∧ (∃ xs, SqL K H1 a xs) ∧ R (Itl K a) H1) : iList K tl σ H R := h
theorem nodup_snoc {α : Type} {l : List α} {z : α} (h : l.Nodup) (hz : z ∉ l) : (l ++ [z]).Nodup := by
  rw [List.nodup_append]
  exact ⟨h, by simp, fun a ha b hb => by rw [List.mem_singleton.mp hb]; exact fun q => hz (q ▸ ha)⟩
theorem map_ref {rs : List Addr} {i : Nat} {x : V} (h : (rs.map V.ref)[i]? = some x) : ∃ r, rs[i]? = some r ∧ x = .ref r := by
  rw [List.getElem?_map] at h
  cases e : rs[i]? with
  | none => rw [e] at h; cases h
  | some r => rw [e] at h; exact ⟨r, rfl, (Option.some.inj h).symm⟩
theorem paired_up {α β : Type} {F G : α → β → Prop} : ∀ {xs : List α} {ys : List β}, Paired F xs ys → (∀ x y, x ∈ xs → F x y → G x y) → Paired G xs ys
  | _, _, .nil, _ => .nil
  | _, _, .cons h t, k => .cons (k _ _ (List.mem_cons_self ..) h) (paired_up t fun x y hx => k x y (List.mem_cons_of_mem _ hx))
theorem paired_has {α β : Type} {F : α → β → Prop} : ∀ {xs : List α} {ys : List β}, Paired F xs ys → ∀ {x : α}, x ∈ xs → ∃ y, F x y
  | _, _, .cons (b := b) h t, x, hx => by
    rcases List.mem_cons.mp hx with rfl | hx
    · exact ⟨b, h⟩
    · exact paired_has t hx
theorem at_getD {r : List Int} {c : Nat} (h : c < r.length) : atI (r.map V.int) (c : Int) = some (.int (r.getD c 0)) := by
  refine atI_nat ?_
  rw [List.getElem?_map, List.getElem?_eq_getElem h, List.getD_eq_getElem?_getD, List.getElem?_eq_getElem h]
  rfl
end K3

namespace K3
def CellAt (H : Hp) (v : V) (c : Nat × Nat) : Prop := ∃ a, v = .ref a ∧ H a = some (.tup [.int (c.1 : Int), .int (c.2 : Int)])
theorem CellAt.same {H H' : Hp} (e : Same H H') {v : V} {c : Nat × Nat} (h : CellAt H v c) : CellAt H' v c := let ⟨a, h1, h2⟩ := h; ⟨a, h1, e _ _ h2⟩
def rowCells (n r : Nat) : List (Nat × Nat) := (List.range n).map fun c => (r, c)
def cellsOf (m n : Nat) : List (Nat × Nat) := (List.range m).flatMap (rowCells n)
theorem cells_len (m n : Nat) : (cellsOf m n).length = m * n := by
  unfold cellsOf
  induction m with
  | zero => simp
  | succ m ih => rw [List.range_succ, List.flatMap_append, List.length_append, ih]; simp [rowCells, Nat.succ_mul]
theorem cut_last {xs : List V} : cutV xs none (some (-1)) = xs.dropLast := by
  unfold cutV HT.sIx
  rw [List.dropLast_eq_take]
  show (xs.drop 0).take ((if (-1 : Int) < 0 then ((-1 : Int) + (xs.length : Int)).toNat else min (-1 : Int).toNat xs.length) - 0) = _
  rw [if_pos (by decide), List.drop_zero, Nat.sub_zero]
  congr 1
  omega
theorem paired_drop {α β : Type} {F : α → β → Prop} : ∀ {xs : List α} {ys : List β}, Paired F xs ys → Paired F xs.dropLast ys.dropLast
  | _, _, .nil => .nil
  | _, _, .cons h .nil => .nil
  | _, _, .cons h (.cons h2 t) => .cons h (paired_drop (.cons h2 t))
def spCells (K : PySem.W.Frag) : Sp := fun vs H Q _ => ∃ (p : Addr) (rs : List Addr) (t : List (List Int)) (n : Nat) (r0 : List Int), vs = [.ref p] ∧ Tab H p rs t ∧ t[0]? = some r0 ∧ r0.length = n ∧ t.length ≤ 100 ∧ n ≤ 100 ∧ ∀ p' H' vs, Same H H' → H p' = none → H' p' = some (.lst vs) → Paired (CellAt H') vs (cellsOf t.length n).dropLast → Q (.ref p') H'
end K3

namespace K3
theorem CellAt.bm {s : Addr} {H H' : Hp} (hs : Src H s) (e : BM [s] H H') {v : V} {c : Nat × Nat} (h : CellAt H v c) : CellAt H' v c := by
  obtain ⟨a, h1, h2⟩ := h
  refine ⟨a, h1, e.at h2 ?_⟩
  intro z
  obtain ⟨x, y, w, hs⟩ := hs
  rw [List.mem_singleton.mp z, hs] at h2
  cases h2
theorem ix_nat {n j : Nat} (h : j < n) : seqIndex? (j : Int) n = some j := by
  have e : ixN n (j : Int) = some j := by
    unfold ixN
    rw [if_pos (by omega), if_pos (by omega)]
    simp
  exact (ixN_seq e).1
theorem paired_erase {α β : Type} {F : α → β → Prop} : ∀ {xs : List α} {ys : List β}, Paired F xs ys → ∀ k, Paired F (xs.eraseIdx k) (ys.eraseIdx k)
  | _, _, .nil, _ => .nil
  | _, _, .cons h t, 0 => t
  | _, _, .cons h t, k + 1 => .cons h (paired_erase t k)
/-- the first list's elements that are drawn out of it -/
def spSample (K : PySem.W.Frag) : Sp := fun vs H Q _ => ∃ (s l : Addr) (xs : List V) (cs : List (Nat × Nat)) (n : Nat), vs = [.ref s, .ref l, .int (n : Int)] ∧ Src H s ∧ H l = some (.lst xs) ∧ Paired (CellAt H) xs cs ∧ n ≤ xs.length ∧ xs.length ≤ 100000 ∧
  ∀ p H' ws hs, H p = none → BM [s] H H' → Src H' s → H' p = some (.lst ws) → Paired (CellAt H') ws hs → (∀ h ∈ hs, h ∈ cs) → hs.length = n → Q (.ref p) H'
def spGrid (K : PySem.W.Frag) : Sp := fun vs H Q _ => ∃ (s : Addr), vs = [.ref s] ∧ Src H s ∧ ∀ p H' rs t k, BM [s] H H' → Src H' s → New H p rs → Tab H' p rs (withSums k t) → (∀ r ∈ t, r.length = k ∧ ∀ x ∈ r, 0 ≤ x) → 1 ≤ k → k ≤ 5 → 1 ≤ t.length → t.length ≤ 5 → Q (.ref p) H'
theorem BM.same {M : List Addr} {H H1 H2 : Hp} (a : BM M H H1) (b : Same H1 H2) : BM M H H2 := a.trans (BM.of b)
theorem BM.mut {M : List Addr} {H H' : Hp} {p : Addr} {o : HO} (e : BM M H H') (h : H p = none) : BM M H (L2.upd H' p o) := fun b u hb => by
  obtain ⟨o', h1, h2⟩ := e b u hb
  exact ⟨o', by rw [upd_ne (fun z => by rw [z, h] at hb; cases hb)]; exact h1, h2⟩
theorem src_ne {H : Hp} {s p : Addr} (hs : Src H s) (hp : H p = none) : p ≠ s := fun z => by
  obtain ⟨_, _, _, hs⟩ := hs
  rw [← z, hp] at hs
  cases hs
theorem Src.upd {H : Hp} {s p : Addr} (hs : Src H s) (ne : p ≠ s) (o : HO) : Src (L2.upd H p o) s := let ⟨a, b, c, h⟩ := hs; ⟨a, b, c, by rw [upd_ne ne.symm]; exact h⟩
def scGrow : Scope := { kind := .function, names := [(".0", .local), ("_law_row", .local), ("range", .globalImplicit), ("_law_count", .cell), ("_law_limit", .cell), ("_law_rng_here", .cell)], isGenerator := false, isCoroutine := false }
end K3

namespace K3
theorem w_eqI {i j : Int} {H : Hp} {Q : VK} (h : Q (.bl (decide (V.int i = V.int j))) H) : rEq (.int i) (.int j) H Q := ⟨rfl, h⟩
theorem decV {i j : Int} : decide (V.int i = V.int j) = decide (i = j) := by
  by_cases h : i = j
  · rw [h]; simp
  · rw [decide_eq_false h, decide_eq_false (fun z => h (V.int.inj z))]
theorem paired_take {α β : Type} {F : α → β → Prop} : ∀ {xs : List α} {ys : List β}, Paired F xs ys → ∀ k, Paired F (xs.take k) (ys.take k)
  | _, _, .nil, k => by rw [List.take_nil, List.take_nil]; exact .nil
  | _, _, .cons h t, 0 => .nil
  | _, _, .cons h t, k + 1 => .cons h (paired_take t k)
/-- what may be hidden cells of a grid of such a shape -/
structure Hid (H : Hp) (p : Addr) (ws : List V) (hs : List (Nat × Nat)) (m n : Nat) : Prop where
  at_ : H p = some (.lst ws)
  cells : Paired (CellAt H) ws hs
  mem : ∀ h ∈ hs, h ∈ (cellsOf m n).dropLast
  len : hs.length ≤ 60
def spHidden (K : PySem.W.Frag) : Sp := fun vs H Q _ => ∃ (s g : Addr) (rs : List Addr) (t : List (List Int)) (n : Nat) (r0 : List Int), vs = [.ref s, .ref g] ∧ Src H s ∧ Tab H g rs t ∧ t[0]? = some r0 ∧ r0.length = n ∧ t.length ≤ 6 ∧ n ≤ 6 ∧
  ∀ p H' ws hs, H p = none → BM [s] H H' → Src H' s → Hid H' p ws hs t.length n → Q (.ref p) H'
end K3

namespace K3
/-! ### a cell among cells -/
def cellD (c : Nat × Nat) : PyData := .tuple [.int (c.1 : Int), .int (c.2 : Int)]
theorem cell_dp {K : PySem.W.Frag} {H : Hp} {v : V} {c : Nat × Nat} (h : CellAt H v c) : Dp K H v (cellD c) := by
  obtain ⟨a, rfl, h⟩ := h
  exact Dp.tup (SqT.of h) (.cons (.int _) (.cons (.int _) .nil))
theorem cells_dp {K : PySem.W.Frag} {H : Hp} : ∀ {ws : List V} {hs : List (Nat × Nat)}, Paired (CellAt H) ws hs → DpAll K H ws (hs.map cellD)
  | _, _, .nil => .nil
  | _, _, .cons h t => .cons (cell_dp h) (cells_dp t)
theorem cell_same (a b : Nat × Nat) : PySem.Spec.same (cellD a) (cellD b) = decide (a = b) := by
  unfold cellD
  obtain ⟨a1, a2⟩ := a
  obtain ⟨b1, b2⟩ := b
  rw [Bool.eq_iff_iff]
  simp [PySem.Spec.same, PySem.Spec.sameAll]
  omega
theorem cell_nomix (a b : Nat × Nat) : SeqAt.noMix (cellD a) (cellD b) = true := rfl
theorem cell_count (c : Nat × Nat) : ∀ hs : List (Nat × Nat), 0 ≤ countIn (cellD c) (hs.map cellD) ∧ (countIn (cellD c) (hs.map cellD) ≠ 0 ↔ c ∈ hs)
  | [] => ⟨Int.le_refl 0, by simp [countIn]⟩
  | h :: hs => by
    obtain ⟨i0, i1⟩ := cell_count c hs
    simp only [List.map_cons, countIn, cell_same, List.mem_cons]
    by_cases e : h = c
    · rw [e]
      simp only [decide_true, if_true]
      exact ⟨by omega, ⟨fun _ => by simp, fun _ => by omega⟩⟩
    · rw [decide_eq_false e]
      simp only [Bool.false_eq_true, if_false]
      refine ⟨by omega, ⟨fun z => .inr (i1.mp (by omega)), fun z => ?_⟩⟩
      rcases z with z | z
      · exact absurd z.symm e
      · have := i1.mpr z
        omega
theorem log_small {n : Nat} (h : n < 1000) : (if (n : Int) = 0 then 0 else (n : Int).natAbs.log2 + 1) ≤ 10 := by
  split
  · exact Nat.zero_le _
  · rename_i h0
    have : n ≠ 0 := fun z => h0 (by rw [z]; rfl)
    have : n.log2 < 10 := (Nat.log2_lt this).mpr (by omega)
    simp only [Int.natAbs_natCast]
    omega
theorem cell_lay (c : Nat × Nat) (h : c.1 < 1000 ∧ c.2 < 1000) : (cellD c).canLay0 = true ∧ (cellD c).depth ≤ 5 ∧ (cellD c).weight ≤ 50 := by
  have l1 := log_small h.1
  have l2 := log_small h.2
  unfold cellD
  refine ⟨rfl, by simp [PyData.depth, PyData.depthAll], ?_⟩
  simp [PyData.weight, PyData.weightAll] at l1 l2 ⊢
  omega
theorem cells_lay : ∀ hs : List (Nat × Nat), (∀ c ∈ hs, c.1 < 1000 ∧ c.2 < 1000) → PyData.canLayAll0 (hs.map cellD) = true ∧ PyData.depthAll (hs.map cellD) ≤ 5 ∧ PyData.weightAll (hs.map cellD) ≤ 100 * hs.length
  | [], _ => by simp [PyData.canLayAll0, PyData.depthAll, PyData.weightAll]
  | h :: hs, k => by
    obtain ⟨a, b, c⟩ := cells_lay hs fun c hc => k c (List.mem_cons_of_mem _ hc)
    obtain ⟨d, e, f⟩ := cell_lay h (k h (List.mem_cons_self ..))
    simp only [List.map_cons, PyData.canLayAll0, PyData.depthAll, PyData.weightAll, List.length_cons]
    refine ⟨by rw [a, d]; rfl, by omega, by omega⟩
theorem list_lay {hs : List (Nat × Nat)} (k : ∀ c ∈ hs, c.1 < 1000 ∧ c.2 < 1000) (n : hs.length ≤ 1000) : (PyData.list (hs.map cellD)).layable0 = true ∧ (PyData.tuple (hs.map cellD)).layable0 = true := by
  obtain ⟨a, b, c⟩ := cells_lay hs k
  have e (d : PyData) (h1 : d.canLay0 = true) (h2 : d.depth ≤ 64) (h3 : d.weight ≤ 2 ^ 20) : d.layable0 = true := by
    unfold PyData.layable0
    rw [h1, decide_eq_true h2, decide_eq_true h3]
    rfl
  constructor
  · refine e _ (by simpa [PyData.canLay0] using a) (by simp only [PyData.depth]; omega) ?_
    simp only [PyData.weight]
    omega
  · refine e _ (by simpa [PyData.canLay0] using a) (by simp only [PyData.depth]; omega) ?_
    simp only [PyData.weight]
    omega
def rNotInC (K : PySem.W.Frag) : R2 := fun x y H Q => ∃ (p : Addr) (ws : List V) (hs : List (Nat × Nat)) (c : Nat × Nat), CellAt H x c ∧ y = .ref p ∧ (SqL K H p ws ∨ SqT K H p ws) ∧ Paired (CellAt H) ws hs ∧ hs.length ≤ 1000 ∧ (∀ h ∈ hs, h.1 < 1000 ∧ h.2 < 1000) ∧ (c.1 < 1000 ∧ c.2 < 1000) ∧ Q (.bl (!decide (c ∈ hs))) H
theorem op_notInC {X : Cx} (hu : X.A.units + 65 < cLine) : OpR X (compareOp .NotIn) (rNotInC X.K) := by
  intro pins s σ H x y v u Q I rx ry ⟨p, ws, hs, c, hc, ey, hp, hw, hn, hb, hcb, q⟩
  obtain ⟨as, ra⟩ := Dp.reads I _ _ _ (cell_dp (K := X.K) hc) rx
  have ll := list_lay hb hn
  have lc : (cellD c).layable0 = true := by
    obtain ⟨a, b, d⟩ := cell_lay c hcb
    unfold PyData.layable0
    rw [a, decide_eq_true (show (cellD c).depth ≤ 64 by omega), decide_eq_true (show (cellD c).weight ≤ 2 ^ 20 by omega)]
    rfl
  have e : decide (countIn (cellD c) (hs.map cellD) ≠ 0) = decide (c ∈ hs) := decide_eq_decide.mpr (cell_count c hs).2
  have nm : ∀ y ∈ hs.map cellD, SeqAt.noMix y (cellD c) = true := fun y hy => by
    obtain ⟨h, _, rfl⟩ := List.mem_map.mp hy
    exact cell_nomix _ _
  rcases hp with hp | hp
  · obtain ⟨bs, rb⟩ := Dp.reads I _ _ _ (by rw [ey]; exact Dp.lst hp (cells_dp hw)) ry
    exact notIn_list_dataS rb ra ll.1 lc hu nm ⟨.bl (!decide (c ∈ hs)), H, I, by rw [e]; exact rfl, q⟩
  · obtain ⟨bs, rb⟩ := Dp.reads I _ _ _ (by rw [ey]; exact Dp.tup hp (cells_dp hw)) ry
    exact PyProof.Rows.notIn_tuple_dataS rb ra ll.2 lc hu nm ⟨.bl (!decide (c ∈ hs)), H, I, by rw [e]; exact rfl, q⟩
theorem Room.units65 {k : Nat} {A : Around} (h : Room k A) : A.units + 65 < cLine := Nat.lt_of_le_of_lt (by omega) h.un
end K3

namespace L2
open PySem PySem.Spec PyProof.Rows
section
variable {X : Cx}
/-- either reading will do -/
theorem pi_or {tg e : Expr} {a b : TI} (ha : PI X tg e a) (hb : PI X tg e b) : PI X tg e (fun σ H R => a σ H R ∨ b σ H R) := ⟨fun pins s σ H R I h => h.elim (ha.run pins s σ H R I) (hb.run pins s σ H R I)⟩
theorem cr_or {f : Value} {a b : List V → Hp → VK → Prop} (ha : CallR X f a) (hb : CallR X f b) : CallR X f (fun xs H Q => a xs H Q ∨ b xs H Q) := fun pins s σ H xs us Q I v h => h.elim (ha pins s σ H xs us Q I v) (hb pins s σ H xs us Q I v)
/-- a statement that is never come to -/
theorem ps_dead {st : Stmt} : PS X st (fun _ _ _ => False) := ⟨fun _ _ _ _ _ _ h => h.elim⟩
end
section
variable {J : It} {n : Nat} {G : Hp → Prop} {Y : Nat → Hp → V → Hp → Prop}
/-- the second source's own loop within a comprehension of two fors -/
def In1 (D : Addr) (g1 : TG) (tt1 : TT) (te : TE) (vs1 : List Nat) (Nx : Hp → Prop) (J1 : It) (σ2 : L2.St) (H4 : Hp) : Prop :=
  ∃ W1 : Nat → Nat → Hp → Prop, (∃ m, W1 0 m H4) ∧ ∀ j k H, W1 j k H →
      (J1.stop j H ∧ Nx H) ∨ (J1.go j H ∧ ∃ Nx1 : Hp → Prop, (∀ H', Nx1 H' → ∃ k', k' < k ∧ W1 (j + 1) k' H') ∧ ∀ x H', J1.yld j H x H' → g1 x (wipe σ2 vs1) H' fun σ3 H5 => wipe σ3 vs1 = wipe σ2 vs1 ∧ tt1 σ3 H5 fun b H6 =>
        if b = true then te σ3 H6 fun y H7 => ∃ acc, H7 D = some (.lst acc) ∧ acc.length < sizeLine ∧ Nx1 (upd H7 D (.lst (acc ++ [y]))) else Nx1 H6)
theorem in1_it (w : Walk J n G Y) {D : Addr} {g1 : TG} {tt1 : TT} {te : TE} {vs1 : List Nat} {Nx : Hp → Prop} {σ2 : L2.St} {H4 : Hp} (Pv : Nat → Hp → Prop) (h0 : Pv 0 H4) (hG : ∀ i H, i ≤ n → Pv i H → G H)
    (hs : ∀ j x H H', j < n → Pv j H → Y j H x H' → g1 x (wipe σ2 vs1) H' fun σ3 H5 => wipe σ3 vs1 = wipe σ2 vs1 ∧ tt1 σ3 H5 fun b H6 =>
        if b = true then te σ3 H6 fun y H7 => ∃ acc, H7 D = some (.lst acc) ∧ acc.length < sizeLine ∧ Pv (j + 1) (upd H7 D (.lst (acc ++ [y]))) else Pv (j + 1) H6)
    (hd : ∀ H, Pv n H → Nx H) : In1 D g1 tt1 te vs1 Nx J σ2 H4 := by
  refine ⟨fun i k H => k = n - i ∧ i ≤ n ∧ Pv i H, ⟨n, rfl, Nat.zero_le _, h0⟩, ?_⟩
  rintro i k H ⟨rfl, hi, p⟩
  by_cases c : i < n
  · exact .inr ⟨w.goes i H c (hG i H hi p), Pv (i + 1), fun _ p' => ⟨n - (i + 1), by omega, rfl, c, p'⟩, fun x H' y => hs i x H H' c p (w.yields i H x H' c (hG i H hi p) y)⟩
  · obtain rfl : i = n := by omega
    exact .inl ⟨w.stops H (hG i H hi p), hd H p⟩
theorem lc2_it (w : Walk J n G Y) {g g1 : TG} {tt tt1 : TT} {wi1 : TI} {te : TE} {vs vs1 : List Nat} {σ : L2.St} {H1 : Hp} {D : Addr} {Qd : Hp → Prop} (Pv : Nat → Hp → Prop) (h0 : Pv 0 (upd H1 D (.lst []))) (hG : ∀ i H, i ≤ n → Pv i H → G H)
    (hs : ∀ i x H H', i < n → Pv i H → Y i H x H' → g x (wipe σ vs) H' fun σ2 H2 => wipe σ2 vs = wipe σ vs ∧ tt σ2 H2 fun b H3 =>
      if b = true then wi1 σ2 H3 fun J1 H4 => In1 D g1 tt1 te vs1 (Pv (i + 1)) J1 σ2 H4 else Pv (i + 1) H3)
    (hd : ∀ H, Pv n H → Qd H) :
    ∃ W : Nat → Nat → Hp → Prop, (∃ m, W 0 m (upd H1 D (.lst []))) ∧ ∀ i m H, W i m H →
  (J.stop i H ∧ Qd H) ∨ (J.go i H ∧ ∃ Nx : Hp → Prop, (∀ H', Nx H' → ∃ m', m' < m ∧ W (i + 1) m' H') ∧ ∀ x H', J.yld i H x H' → g x (wipe σ vs) H' fun σ2 H2 => wipe σ2 vs = wipe σ vs ∧ tt σ2 H2 fun b H3 =>
    if b = true then wi1 σ2 H3 fun J1 H4 => In1 D g1 tt1 te vs1 Nx J1 σ2 H4 else Nx H3) := by
  refine ⟨fun i k H => k = n - i ∧ i ≤ n ∧ Pv i H, ⟨n, rfl, Nat.zero_le _, h0⟩, ?_⟩
  rintro i k H ⟨rfl, hi, p⟩
  by_cases c : i < n
  · exact .inr ⟨w.goes i H c (hG i H hi p), Pv (i + 1), fun _ p' => ⟨n - (i + 1), by omega, rfl, c, p'⟩, fun x H' y => hs i x H H' c p (w.yields i H x H' c (hG i H hi p) y)⟩
  · obtain rfl : i = n := by omega
    exact .inl ⟨w.stops H (hG i H hi p), hd H p⟩
theorem lc2_open {wi wi1 : TI} {g g1 : TG} {tt tt1 : TT} {te : TE} {vs vs1 : List Nat} {σ : L2.St} {H : Hp} {Q : VK} (h : wi σ H fun J H1 => ∀ D, H1 D = none → ∃ W : Nat → Nat → Hp → Prop, (∃ m, W 0 m (upd H1 D (.lst []))) ∧ ∀ i m H, W i m H →
  (J.stop i H ∧ Q (.ref D) H) ∨ (J.go i H ∧ ∃ Nx : Hp → Prop, (∀ H', Nx H' → ∃ m', m' < m ∧ W (i + 1) m' H') ∧ ∀ x H', J.yld i H x H' → g x (wipe σ vs) H' fun σ2 H2 => wipe σ2 vs = wipe σ vs ∧ tt σ2 H2 fun b H3 =>
    if b = true then wi1 σ2 H3 fun J1 H4 => In1 D g1 tt1 te vs1 Nx J1 σ2 H4 else Nx H3)) : tLc2 wi g tt wi1 g1 tt1 te vs vs1 σ H Q := h
end
end L2
namespace K3
def Rect (t : List (List Int)) (m n : Nat) : Prop := t.length = m ∧ ∀ r ∈ t, r.length = n
def at2 (t : List (List Int)) (i j : Nat) : Int := (t.getD i []).getD j 0
theorem row_of {H : Hp} {g : Addr} {rs : List Addr} {t : List (List Int)} (ht : Tab H g rs t) {i : Nat} (hi : i < t.length) : ∃ a r, rs[i]? = some a ∧ t[i]? = some r ∧ H a = some (.lst (r.map V.int)) := by
  have l := ht.rows.length
  obtain ⟨r, hr, hx⟩ := K3.Paired.get ht.rows (i := i) (x := rs[i]'(by omega)) (List.getElem?_eq_getElem _)
  exact ⟨_, r, List.getElem?_eq_getElem _, hr, hx⟩
theorem at2_of {t : List (List Int)} {i j : Nat} {r : List Int} (h : t[i]? = some r) : at2 t i j = r.getD j 0 := by
  unfold at2
  have e : t.getD i [] = r := by rw [List.getD_eq_getElem?_getD, h]; rfl
  rw [e]
theorem ref_at {rs : List Addr} {i : Nat} {a : Addr} (h : rs[i]? = some a) : atI (rs.map V.ref) (i : Int) = some (.ref a) := atI_nat (by rw [List.getElem?_map, h]; rfl)
theorem w_gtup {K : PySem.W.Frag} {n : Nat} {t : TGs} {a : Addr} {xs : List V} {σ : L2.St} {H : Hp} {Q : L2.St → Hp → Prop} (h1 : SqT K H a xs) (h2 : xs.length = n) (h : t xs σ H Q) : gTup K n t (.ref a) σ H Q := ⟨a, xs, rfl, h1, h2, h⟩
end K3
end C1_part
section E1_part
set_option Elab.async false
set_option linter.all false
set_option maxRecDepth 100000
set_option maxHeartbeats 1000000
set_option pp.deepTerms true
open PySem PySem.Spec PyProof.Rows L2
/-- go on as far as nothing is open -/
local macro_rules | `(tactic| walk_at "go") => `(tactic| repeat (first
  | with_reducible refine w_seq ?_ | with_reducible refine w_next ?_ | with_reducible refine w_set ?_ | with_reducible refine w_drop ?_ | with_reducible refine w_ret ?_ | with_reducible refine w_retN ?_
  | with_reducible refine w_if ?_ | ((with_reducible refine' w_var ?hv ?_); (case hv => exact rfl)) | with_reducible refine w_c ?_ | with_reducible refine w_nil ?_ | with_reducible refine w_cons ?_ | with_reducible refine w_op ?_ | with_reducible refine w_un ?_
  | with_reducible refine w_test ?_ | with_reducible refine w_tB ?_ | with_reducible refine w_not ?_ | with_reducible refine w_and ?_ | with_reducible refine w_or ?_ | with_reducible refine w_bl ?_
  | with_reducible refine w_andV ?_ | with_reducible refine w_orV ?_ | with_reducible refine w_notV ?_ | with_reducible refine w_ifE ?_ | with_reducible refine w_chain ?_ | with_reducible refine w_i0 ?_
  | with_reducible refine w_call ?_ | with_reducible refine w_callS ?_ | with_reducible refine w_cB ?_ | with_reducible refine w_tup ?_ | with_reducible refine w_lst ?_ | with_reducible refine w_fldV ?_
  | with_reducible refine w_neF ?_ | with_reducible refine w_neT ?_ | with_reducible refine w_notN ?_ | with_reducible refine w_isN ?_ | with_reducible refine w_gname ?_ | with_reducible refine w_gsub ?_ | with_reducible refine w_asg ?_ | with_reducible refine w_sl ?_ | with_reducible refine w_noP ?_ | with_reducible refine w_int1 ?_ | with_reducible refine w_part ?_ | with_reducible refine w_yes ?_ | with_reducible refine w_nT ?_ | with_reducible refine w_nF ?_ | with_reducible refine w_iteT ?_ | with_reducible refine w_iteF ?_))
namespace L2
open PySem PySem.Spec PyProof.Rows
/-! ### a list or a tuple -/
def SqB (K : PySem.W.Frag) (H : Hp) : Bool → Addr → List V → Prop
  | false => SqL K H
  | true => SqT K H
def SqE (K : PySem.W.Frag) (H : Hp) (a : Addr) (xs : List V) : Prop := ∃ b, SqB K H b a xs
theorem SqE.either {K : PySem.W.Frag} {H : Hp} {a : Addr} {xs : List V} : SqE K H a xs → SqL K H a xs ∨ SqT K H a xs
  | ⟨false, h⟩ => .inl h
  | ⟨true, h⟩ => .inr h
theorem SqB.same {K : PySem.W.Frag} {H H' : Hp} {a : Addr} {xs : List V} (e : Same H H') : ∀ {b : Bool}, SqB K H b a xs → SqB K H' b a xs
  | false, h => e.seq h
  | true, h => e.sqt h
theorem SqE.same {K : PySem.W.Frag} {H H' : Hp} {a : Addr} {xs : List V} (h : SqE K H a xs) (e : Same H H') : SqE K H' a xs := h.imp fun _ z => z.same e
theorem SqE.lst {K : PySem.W.Frag} {H : Hp} {a : Addr} {xs : List V} (h : H a = some (.lst xs)) : SqE K H a xs := ⟨false, SqL.of h⟩
theorem SqE.tup {K : PySem.W.Frag} {H : Hp} {a : Addr} {xs : List V} (h : H a = some (.tup xs)) : SqE K H a xs := ⟨true, SqT.of h⟩
def ItB (K : PySem.W.Frag) : Bool → Addr → It
  | false => Itl K
  | true => Itt K
theorem walk_B {K : PySem.W.Frag} {a : Addr} {xs : List V} : ∀ {b : Bool}, Walk (ItB K b a) xs.length (fun H => SqB K H b a xs) (YAt xs)
  | false => walk_list
  | true => walk_tup
def iSeq (K : PySem.W.Frag) (tl : TE) : TI := fun σ H R => tl σ H fun x H1 => ∃ a b, x = .ref a ∧ (∃ xs, SqB K H1 b a xs) ∧ R (ItB K b a) H1
theorem seqI_open {K : PySem.W.Frag} {tl : TE} {σ : L2.St} {H : Hp} {R : It → Hp → Prop} (h : tl σ H fun x H1 => ∃ a b, x = .ref a ∧ (∃ xs, SqB K H1 b a xs) ∧ R (ItB K b a) H1) : iSeq K tl σ H R := h
section
variable {X : Cx} {tg l : Expr} {tl : TE}
theorem pi_seq (hl : PE X l tl) : PI X tg l (iSeq X.K tl) := by
  constructor
  intro pins s σ H R I h
  refine thn (hl.run pins s σ H _ I h) ?_
  rintro v s1 ⟨x, H1, I1, r1, a, b, rfl, ⟨xs, hq⟩, q⟩
  cases r1
  have kept : ∀ o : Obj, Inv X pins σ H1 { s1 with heap := s1.heap.push o, toks := s1.toks } := fun o => I1.kept fun b u e => Heap.get?_push_of_some o e
  have out : ∀ b ∈ [s1.heap.objs.size], _ := fun b hb => by
    obtain rfl := List.mem_singleton.mp hb
    exact I1.fpOk (Nat.le_refl _) (I1.hok.fresh (Nat.le_refl _))
  cases b with
  | false =>
    obtain ⟨its, _, p, _⟩ := I1.list hq
    exact wpAny_pyIter_list p.isList ⟨s1.heap.objs.size, [s1.heap.objs.size], _, _, H1, rfl, kept _, turn_list a _, ⟨_, Heap.get?_push_size _ rfl, rfl, rfl⟩, out, q⟩
  | true =>
    obtain ⟨its, _, p, _⟩ := I1.tuple hq
    exact wpAny_pyIter_tuple (show s1.heap.IsTuple a its.toArray from p) ⟨s1.heap.objs.size, [s1.heap.objs.size], _, _, H1, rfl, kept _, turn_tuple a _, ⟨_, Heap.get?_push_size _ rfl, rfl, rfl⟩, out, q⟩
def rIxE (K : PySem.W.Frag) : R2 := fun x y H Q => rIxL K x y H Q ∨ rIxT K x y H Q
theorem ix_e : IxR X (rIxE X.K) := by
  intro value slice pins s σ H x y v u Q I rx ry h hs
  rcases h with h | h
  · exact ix_list value slice pins s σ H x y v u Q I rx ry h hs
  · exact ix_tup value slice pins s σ H x y v u Q I rx ry h hs
theorem w_ixE {K : PySem.W.Frag} {H : Hp} {p : Addr} {xs : List V} {i : Int} {v : V} {Q : VK} (h : SqE K H p xs) (ha : atI xs i = some v) (q : Q v H) : rIxE K (.ref p) (.int i) H Q := by
  rcases h.either with h | h
  · exact .inl ⟨p, xs, i, v, rfl, rfl, h, ha, q⟩
  · exact .inr ⟨p, xs, i, v, rfl, rfl, h, ha, q⟩
/-- sum of a list or a tuple of ints -/
def rSumE (K : PySem.W.Frag) : List V → Hp → VK → Prop := fun vs H Q => ∃ (a : Addr) (ns : List Int), vs = [V.ref a] ∧ SqE K H a (ns.map V.int) ∧ Q (.int ns.sum) H
theorem cr_sumE (hc : X.calm = true) : CallR X (.builtin "sum") (rSumE X.K) := by
  intro pins s σ H vs us Q I r ⟨a, ns, e, ⟨b, hs⟩, q⟩
  subst e
  cases b with
  | false => exact cr_sum hc pins s σ H _ us Q I r ⟨a, ns, rfl, hs, q⟩
  | true =>
    obtain ⟨its, rv, hl, _⟩ := I.tuple hs
    rw [Vals.ref1 r]
    have hi := rv.ints
    obtain ⟨xs, e⟩ := hi.allInts.items
    have hn : numsOf its.toArray.toList = ns := by rw [show its.toArray.toList = its from rfl, hi.numsOf]
    have hl : s.heap.IsTuple a its.toArray := hl
    rw [e] at hl hn
    rw [nums_intItems] at hn
    refine PySem.W.ktm_sumG (I.ok.hd hc) hl fun h' tk t' hk => ?_
    rw [preSum_eq, List.take_of_length_le (by simp), hn]
    exact ⟨.int _, H, I.kept hk, ⟨_, rfl⟩, q⟩
end
/-- a comprehension over items of which something is known: each gives a value of its own -/
theorem items_atE {K : PySem.W.Frag} {α : Type} {F : Hp → V → α → Prop} (mono : ∀ {H H' : Hp} {v : V} {y : α}, Same H H' → F H v y → F H' v y) {a D : Addr} {xs : List V} {ys : List α} {te : TE} {vs : List Nat} {σ : L2.St} {j : Nat} {H1 : Hp} {b : Bool} {Qd : Hp → Prop} (f : α → V)
    (hs : SqB K H1 b a xs) (hp : Paired (F H1) xs ys) (hD : H1 D = none) (hlen : xs.length ≤ 10000) (hw : ∀ x, wipe ((wipe σ vs).set j (some x)) vs = wipe σ vs)
    (he : ∀ (v : V) (y : α) (H' : Hp), Same H1 H' → y ∈ ys → F H' v y → ∀ Q : VK, (∀ H'', Same H' H'' → Q (f y) H'') → te ((wipe σ vs).set j (some v)) H' Q)
    (hd : ∀ H', Same H1 H' → H' D = some (.lst (ys.map f)) → Qd H') :
    ∃ W : Nat → Nat → Hp → Prop, (∃ m, W 0 m (upd H1 D (.lst []))) ∧ ∀ i m H, W i m H →
    ((ItB K b a).stop i H ∧ Qd H) ∨ ((ItB K b a).go i H ∧ ∃ Nx : Hp → Prop, (∀ H', Nx H' → ∃ m', m' < m ∧ W (i + 1) m' H') ∧ ∀ x H', (ItB K b a).yld i H x H' → gName j x (wipe σ vs) H' fun σ2 H2 =>
      wipe σ2 vs = wipe σ vs ∧ tYes σ2 H2 fun b H3 => if b = true then te σ2 H3 fun y H4 => ∃ acc, H4 D = some (.lst acc) ∧ acc.length < sizeLine ∧ Nx (upd H4 D (.lst (acc ++ [y]))) else Nx H3) := by
  refine lc_it (walk_B (K := K) (a := a) (xs := xs) (b := b)) (fun i H' => Same H1 H' ∧ H' D = some (.lst ((ys.take i).map f))) ⟨Same.new hD _, upd_same⟩ (fun i H' _ z => hs.same z.1) ?_ ?_
  · rintro i x H2 H2' hi ⟨e2, hD2⟩ ⟨rfl, hx⟩
    obtain ⟨y, hy, hF⟩ := K3.Paired.get hp hx
    refine ⟨hw x, ?_⟩
    refine w_yes ?_
    refine iteT ?_
    refine he x y H2' e2 (List.mem_of_getElem? hy) (mono e2 hF) _ fun H3 e3 => ?_
    refine ⟨_, e3 _ _ hD2, ?_, (e2.trans e3).mut hD, ?_⟩
    · refine Nat.lt_of_le_of_lt (show _ ≤ 10000 from ?_) (by decide)
      rw [List.length_map, List.length_take, ← hp.length]
      omega
    · rw [upd_same, List.take_add_one, hy, List.map_append]
      rfl
  · rintro H2 ⟨e2, hD2⟩
    refine hd H2 e2 ?_
    rw [hD2, hp.length, List.take_length]
end L2
namespace K3
/-- a grid: lists of lists, tuples of tuples, or both -/
structure GT (K : PySem.W.Frag) (H : Hp) (g : Addr) (rs : List Addr) (t : List (List Int)) : Prop where
  at_ : SqE K H g (rs.map V.ref)
  rows : Paired (fun r row => SqE K H r (row.map V.int)) rs t
theorem GT.same {K : PySem.W.Frag} {H H' : Hp} {g : Addr} {rs : List Addr} {t : List (List Int)} (h : GT K H g rs t) (e : Same H H') : GT K H' g rs t := ⟨h.at_.same e, L2.Paired.mapP h.rows fun _ _ z => z.same e⟩
theorem Tab.gt {K : PySem.W.Frag} {H : Hp} {g : Addr} {rs : List Addr} {t : List (List Int)} (h : Tab H g rs t) : GT K H g rs t := ⟨.lst h.at_, L2.Paired.mapP h.rows fun _ _ z => .lst z⟩
theorem row_ofG {K : PySem.W.Frag} {H : Hp} {g : Addr} {rs : List Addr} {t : List (List Int)} (ht : GT K H g rs t) {i : Nat} (hi : i < t.length) : ∃ a r, rs[i]? = some a ∧ t[i]? = some r ∧ SqE K H a (r.map V.int) := by
  have l := ht.rows.length
  obtain ⟨r, hr, h⟩ := K3.Paired.get ht.rows (List.getElem?_eq_getElem (show i < rs.length by omega))
  exact ⟨_, r, List.getElem?_eq_getElem (by omega), hr, h⟩
def RowE (K : PySem.W.Frag) (H : Hp) (v : V) (r : List Int) : Prop := ∃ a, v = .ref a ∧ SqE K H a (r.map V.int)
theorem RowE.same {K : PySem.W.Frag} {H H' : Hp} (e : Same H H') {v : V} {r : List Int} (h : RowE K H v r) : RowE K H' v r := let ⟨a, h1, h2⟩ := h; ⟨a, h1, h2.same e⟩
theorem rowE_of {K : PySem.W.Frag} {H : Hp} : ∀ {rs : List Addr} {t : List (List Int)}, Paired (fun r row => SqE K H r (row.map V.int)) rs t → Paired (RowE K H) (rs.map V.ref) t
  | _, _, .nil => .nil
  | _, _, .cons h t => .cons ⟨_, rfl, h⟩ (rowE_of t)
end K3
end E1_part
section P1_part
set_option Elab.async false
set_option linter.all false
set_option maxRecDepth 100000
set_option maxHeartbeats 1000000
set_option pp.deepTerms true
open PySem PySem.Spec PyProof.Rows L2
/-- go on as far as nothing is open -/
local macro_rules | `(tactic| walk_at "go") => `(tactic| repeat (first
  | with_reducible refine w_seq ?_ | with_reducible refine w_next ?_ | with_reducible refine w_set ?_ | with_reducible refine w_drop ?_ | with_reducible refine w_ret ?_ | with_reducible refine w_retN ?_
  | with_reducible refine w_if ?_ | ((with_reducible refine' w_var ?hv ?_); (case hv => exact rfl)) | with_reducible refine w_c ?_ | with_reducible refine w_nil ?_ | with_reducible refine w_cons ?_ | with_reducible refine w_op ?_ | with_reducible refine w_un ?_
  | with_reducible refine w_test ?_ | with_reducible refine w_tB ?_ | with_reducible refine w_not ?_ | with_reducible refine w_and ?_ | with_reducible refine w_or ?_ | with_reducible refine w_bl ?_
  | with_reducible refine w_andV ?_ | with_reducible refine w_orV ?_ | with_reducible refine w_notV ?_ | with_reducible refine w_ifE ?_ | with_reducible refine w_chain ?_ | with_reducible refine w_i0 ?_
  | with_reducible refine w_call ?_ | with_reducible refine w_callS ?_ | with_reducible refine w_cB ?_ | with_reducible refine w_tup ?_ | with_reducible refine w_lst ?_ | with_reducible refine w_fldV ?_
  | with_reducible refine w_neF ?_ | with_reducible refine w_neT ?_ | with_reducible refine w_notN ?_ | with_reducible refine w_isN ?_ | with_reducible refine w_gname ?_ | with_reducible refine w_gsub ?_ | with_reducible refine w_asg ?_ | with_reducible refine w_yes ?_ | with_reducible refine w_nT ?_ | with_reducible refine w_nF ?_ | with_reducible refine w_iteT ?_ | with_reducible refine w_iteF ?_))
namespace K3
/-! ### names -/
def lets : Str := "abcdefghijklmnopqrstuvwxyz"
def figs : Str := "0123456789"
def isName (z : Str) : Bool := decide (1 ≤ z.length) && (decide (z.length ≤ 8) && (match z.cps.toList with
  | [] => false
  | c :: r => decide (c ∈ lets.cps.toList) && (c :: r).all fun c => decide (c ∈ lets.cps.toList) || decide (c ∈ figs.cps.toList)))
def spIsName : Sp := fun vs H Q _ => ∃ z : Str, vs = [.str z] ∧ z.length ≤ 1000 ∧ ∀ H', Same H H' → Q (.bl (isName z)) H'
section
variable {P : Program} {w : World} {K : PySem.W.Frag} {mg : Str → Option Value} {base : Heap}
theorem sc_is_name : FnScope ["text", "sign"] ["text"] (defScope s_is_name) := ⟨rfl, rfl, rfl, by decide +kernel, rfl, by decide +kernel, by decide +kernel⟩
theorem ok_is_name (T : Tx K mg) : Ok P w K mg base 1 (He.ga K "is_name") ["text"] spIsName := by
  obtain ⟨fd, F⟩ := T.f_is_name
  refine ⟨fd, F.ok sc_is_name (fun vs H Q E h => ?_) (fun cdv A outer s H vs Q E hr h => ?_), F.bindsN fun _ _ _ _ _ _ us hl => match us, hl with | [_], _ => rfl, F.kp⟩
  · obtain ⟨z, rfl, _⟩ := h
    rfl
  obtain ⟨z, rfl, hz, q⟩ := h
  refine ⟨_, pss_cons (ps_if (pt_not (pt_chain op_le op_le pe_int (pe_callB call_len_str (by rfl) T.z_len PySem.boot_len (pa_cons (pv 0) pa_nil)) (pe_gint T.i_LONGEST_NAME))) (pss_one (ps_ret pe_bl)) pss_nil)
    (pss_one (ps_ret (pe_and (pe_cmpR op_in_sign (pe_ix ix_str (pv 0) pe_int (fun _ _ => rfl)) (pe_gstr T.s_LETTERS) rfl)
      (pe_one (pe_callB (cr_all rfl) (by rfl) T.z_all (by decide +kernel) (pa_cons (pe_lc (own := [("sign", 1)]) (g := gName 1) (by rfl) sc_is_name.nd (pi_str (pv 0)) (blkOk_by (own := [("sign", 1)]) (N := ["text", "sign"]) (sc := defScope s_is_name) (by decide +kernel))
        (fun _ _ _ _ _ => pg_name (i := 1) sc_is_name.nd rfl (Or.inl rfl)) (fun _ _ _ _ _ => pts_nil) (fun _ _ _ _ _ => pe_or (pe_cmpR op_in_sign (pv 1) (pe_gstr T.s_LETTERS) rfl) (pe_one (pe_cmpR op_in_sign (pv 1) (pe_gstr T.s_FIGURES) rfl)))) pa_nil)))))), ?_⟩
  walk_at "go"
  refine ⟨z, rfl, Nat.le_trans hz (by decide), ?_⟩
  walk_at "go"
  have key : ∀ H', Same H H' → ∀ b, isName z = b → Q (.bl b) H' := fun H' e b h => h ▸ q H' e
  by_cases h1 : (1 : Int) ≤ (z.length : Int)
  · rw [decide_eq_true h1]
    walk_at "go"
    by_cases h2 : (z.length : Int) ≤ 8
    · rw [decide_eq_true h2]
      walk_at "go"
      obtain ⟨c, r, hc⟩ : ∃ c r, z.cps.toList = c :: r := by
        cases e : z.cps.toList with
        | nil =>
          have : z.length = 0 := by show z.cps.size = 0; rw [← Array.length_toList, e]; rfl
          omega
        | cons c r => exact ⟨c, r, rfl⟩
      refine ⟨z, 0, c, rfl, rfl, Nat.le_trans hz (by decide), by rw [hc]; exact atI_nat (j := 0) rfl, ?_⟩
      walk_at "go"
      refine ⟨c, lets, rfl, rfl, ?_⟩
      walk_at "go"
      cases h3 : decide (c ∈ lets.cps.toList) with
      | false =>
        walk_at "go"
        refine key _ (Same.refl _) _ ?_
        unfold isName
        rw [hc]
        simp only [h3, Bool.false_and, Bool.and_false]
      | true =>
        walk_at "go"
        refine lc_strF (z := z) (f := fun c => .bl (decide (c ∈ lets.cps.toList) || decide (c ∈ figs.cps.toList))) (fun Q h => w_var rfl h) hz (fun _ => rfl) (fun c H' Q e k => ?_) (fun p H' hp e h => ?_)
        · walk_at "go"
          refine ⟨c, lets, rfl, rfl, ?_⟩
          walk_at "go"
          cases h4 : decide (c ∈ lets.cps.toList) with
          | true =>
            walk_at "go"
            rw [h4] at k
            exact k
          | false =>
            walk_at "go"
            refine ⟨c, figs, rfl, rfl, ?_⟩
            rw [h4] at k
            exact k
        · walk_at "go"
          refine ⟨p, z.cps.toList.map fun c => decide (c ∈ lets.cps.toList) || decide (c ∈ figs.cps.toList), rfl, SqL.of (by rw [h, List.map_map]; rfl), ?_⟩
          refine key _ e _ ?_
          unfold isName
          rw [decide_eq_true (show 1 ≤ z.length by omega), decide_eq_true (show z.length ≤ 8 by omega), hc]
          simp only [h3, Bool.true_and, List.all_map, Function.comp_def, id]
    · rw [decide_eq_false h2]
      walk_at "go"
      refine key _ (Same.refl _) _ ?_
      unfold isName
      rw [decide_eq_false (show ¬ z.length ≤ 8 by omega)]
      simp
  · rw [decide_eq_false h1]
    walk_at "go"
    refine key _ (Same.refl _) _ ?_
    unfold isName
    rw [decide_eq_false (show ¬ 1 ≤ z.length by omega)]
    simp
end
end K3
end P1_part
section P2_part
set_option Elab.async false
set_option linter.all false
set_option maxRecDepth 100000
set_option maxHeartbeats 1000000
set_option pp.deepTerms true
open PySem PySem.Spec PyProof.Rows L2
/-- go on as far as nothing is open -/
local macro_rules | `(tactic| walk_at "go") => `(tactic| repeat (first
  | with_reducible refine w_seq ?_ | with_reducible refine w_next ?_ | with_reducible refine w_set ?_ | with_reducible refine w_drop ?_ | with_reducible refine w_ret ?_ | with_reducible refine w_retN ?_
  | with_reducible refine w_if ?_ | ((with_reducible refine' w_var ?hv ?_); (case hv => exact rfl)) | with_reducible refine w_c ?_ | with_reducible refine w_nil ?_ | with_reducible refine w_cons ?_ | with_reducible refine w_op ?_ | with_reducible refine w_un ?_
  | with_reducible refine w_test ?_ | with_reducible refine w_tB ?_ | with_reducible refine w_not ?_ | with_reducible refine w_and ?_ | with_reducible refine w_or ?_ | with_reducible refine w_bl ?_
  | with_reducible refine w_andV ?_ | with_reducible refine w_orV ?_ | with_reducible refine w_notV ?_ | with_reducible refine w_ifE ?_ | with_reducible refine w_chain ?_ | with_reducible refine w_i0 ?_
  | with_reducible refine w_call ?_ | with_reducible refine w_callS ?_ | with_reducible refine w_cB ?_ | with_reducible refine w_tup ?_ | with_reducible refine w_lst ?_ | with_reducible refine w_fldV ?_
  | with_reducible refine w_neF ?_ | with_reducible refine w_neT ?_ | with_reducible refine w_notN ?_ | with_reducible refine w_isN ?_ | with_reducible refine w_gname ?_ | with_reducible refine w_gsub ?_ | with_reducible refine w_asg ?_ | with_reducible refine w_yes ?_ | with_reducible refine w_nT ?_ | with_reducible refine w_nF ?_ | with_reducible refine w_iteT ?_ | with_reducible refine w_iteF ?_))
namespace K3
/-! ### the refusals -/
theorem and2 {a b : Bool} (h : (a && b) = true) : a = true ∧ b = true := Bool.and_eq_true_iff.mp h
section
variable {K : PySem.W.Frag} {mg : Str → Option Value}
theorem oexcB_ok {C : Addr} (h : oexcB K C = true) : ∃ nm q N bs bm sn sub ab col dd k0 k1 k2 k3 k5, K.lookup C = some (excClassObj nm q C N bs bm true sn sub ab col dd k0 k1 k2 k3 k5 "ValueError.__new__") ∧ PySem.HandSPX.refsVE bm = true := by
  unfold oexcB at h
  split at h
  · rename_i dd cd sl ho
    split at h
    · rename_i C' bm k0 k1 k2 k3 n k5 hm hs
      simp only [Bool.and_eq_true, beq_iff_eq, Bool.not_eq_true'] at h
      obtain ⟨rfl, rfl, hdel, hhd, ht⟩ := h
      obtain ⟨nm, bs, mro, ns, qn, hd, sn, sub, ab, col, del⟩ := cd
      dsimp only at hm hdel hhd
      subst hm hdel hhd
      have hsl : sl = #[k0, k1, k2, k3, some (.builtin "ValueError.__new__"), k5] := by
        obtain ⟨l⟩ := sl
        simp only at hs
        rw [hs]
      subst hsl
      exact ⟨nm, qn, ns, bs, bm, sn, sub, ab, col, dd, k0, k1, k2, k3, k5, ho, ht⟩
    · cases h
  · cases h
/-- what K says of the error class x -/
structure ErrC (K : PySem.W.Frag) (x : Str) : Prop where
  o : OexC K (He.ga K x)
  f : XfC K (He.ga K x)
  k : kclsB K (He.ga K x) = true
  m : PySem.W.exmOne K (.ref (He.ga K x)) (.ref (He.ga K "HallError")) = some true
  v : PySem.W.kitOne K (.ref (He.ga K x)) (.type "ValueError") = some true
  i : ∀ y ∈ errN, PySem.W.kitOne K (.ref (He.ga K x)) (.ref (He.ga K y)) = some (x == y)
theorem Tx.err (T : Tx K mg) {x : Str} (hx : x ∈ errN) : ErrC K x := by
  have e := (and2 (and2 (and2 T.e).1).2).1
  have q := List.all_eq_true.mp e x hx
  obtain ⟨q1, q⟩ := and2 q
  obtain ⟨q2, q⟩ := and2 q
  obtain ⟨q3, q⟩ := and2 q
  obtain ⟨q4, q5⟩ := and2 q
  obtain ⟨r1, r⟩ := and2 (show (oexcB K (He.ga K x) && _) = true from q1)
  obtain ⟨r2, r⟩ := and2 r
  obtain ⟨r3, r⟩ := and2 r
  obtain ⟨r4, r5⟩ := and2 r
  have X := xfB_ok r5
  exact ⟨⟨oexcB_ok r1, eqB_ok r2, X.exC, eqB_ok r3, r4⟩, X, q2, eqB_ok q3, eqB_ok q4, fun y hy => eqB_ok (List.all_eq_true.mp q5 y hy)⟩
end
/-- an exception of the error class x, with these fields -/
def Err (K : PySem.W.Frag) (x : Str) (fs : List (Str × V)) (cls : Value) (d : Option Addr) (H : Hp) : Prop := cls = .ref (He.ga K x) ∧ ∃ dd, d = some dd ∧ H dd = some (.xd fs)
/-- __init__(self, f) of an error class -/
def spE1 (K : PySem.W.Frag) (x f : Str) : Sp := fun vs H Q _ => ∃ (a : Addr) (v : V), vs = [.ref a, v] ∧ H a = some (exo a (He.ga K x) none) ∧
  ∀ dx, H dx = none → dx ≠ a → Q .non (upd (upd H dx (exd dx [(f, v)])) a (exo a (He.ga K x) (some dx)))
def spE2 (K : PySem.W.Frag) (x f g : Str) : Sp := fun vs H Q _ => ∃ (a : Addr) (v u : V), vs = [.ref a, v, u] ∧ H a = some (exo a (He.ga K x) none) ∧
  ∀ dx, H dx = none → dx ≠ a → Q .non (upd (upd (upd H dx (exd dx [(f, v)])) a (exo a (He.ga K x) (some dx))) dx (exd dx [(g, u), (f, v)]))
/-- what the making of it asks: all that was tracked stands, its dict is new -/
def gErr1 (K : PySem.W.Frag) (x f : Str) (v : V) (H1 : Hp) (Q : XK) : Prop := [v].length ≤ 1000 ∧ ∀ a, H1 a = none → spE1 K x f (.ref a :: ([v] ++ [])) (upd H1 a (exo a (He.ga K x) none))
  (fun u H2 => u = .non ∧ ∃ (d : Addr) (fs : List (Str × V)), H2 a = some (exo a (He.ga K x) (some d)) ∧ H2 d = some (exd d fs) ∧ H1 d = none ∧ Q (.ref (He.ga K x)) (some d) (upd (del H2 a) d (.xd fs))) (fun _ _ _ => False)
def gErr2 (K : PySem.W.Frag) (x f g : Str) (v u : V) (H1 : Hp) (Q : XK) : Prop := [v, u].length ≤ 1000 ∧ ∀ a, H1 a = none → spE2 K x f g (.ref a :: ([v, u] ++ [])) (upd H1 a (exo a (He.ga K x) none))
  (fun u H2 => u = .non ∧ ∃ (d : Addr) (fs : List (Str × V)), H2 a = some (exo a (He.ga K x) (some d)) ∧ H2 d = some (exd d fs) ∧ H1 d = none ∧ Q (.ref (He.ga K x)) (some d) (upd (del H2 a) d (.xd fs))) (fun _ _ _ => False)
theorem del_none {H : Hp} {a b : Addr} (h : H a = none) (q : H b = none) : (if b = a then none else H b) = (none : Option HO) := by split <;> first | rfl | exact q
theorem gErr1_of {K : PySem.W.Frag} {x f : Str} {v : V} {H : Hp} {Q : XK} (q : ∀ (d : Addr) (H' : Hp), Same H H' → H' d = some (.xd [(f, v)]) → Q (.ref (He.ga K x)) (some d) H') : gErr1 K x f v H Q := by
  refine ⟨(by show 1 ≤ 1000; decide), fun a ha => ⟨a, v, rfl, upd_same, fun dx hd hne => ⟨rfl, dx, [(f, v)], upd_same, by rw [upd_ne hne]; exact upd_same, ?_, ?_⟩⟩⟩
  · rw [upd_ne hne] at hd
    exact hd
  · rw [upd_ne hne] at hd
    refine q dx _ (fun b o hb => ?_) upd_same
    rw [upd_ne (ne_of_none hb hd), del_ne (ne_of_none hb ha), upd_ne (ne_of_none hb ha), upd_ne (ne_of_none hb hd), upd_ne (ne_of_none hb ha)]
    exact hb
theorem gErr2_of {K : PySem.W.Frag} {x f g : Str} {v u : V} {H : Hp} {Q : XK} (q : ∀ (d : Addr) (H' : Hp), Same H H' → H' d = some (.xd [(g, u), (f, v)]) → Q (.ref (He.ga K x)) (some d) H') : gErr2 K x f g v u H Q := by
  refine ⟨(by show 2 ≤ 1000; decide), fun a ha => ⟨a, v, u, rfl, upd_same, fun dx hd hne => ⟨rfl, dx, [(g, u), (f, v)], by rw [upd_ne (Ne.symm hne)]; exact upd_same, upd_same, ?_, ?_⟩⟩⟩
  · rw [upd_ne hne] at hd
    exact hd
  · rw [upd_ne hne] at hd
    refine q dx _ (fun b o hb => ?_) upd_same
    rw [upd_ne (ne_of_none hb hd), del_ne (ne_of_none hb ha), upd_ne (ne_of_none hb hd), upd_ne (ne_of_none hb ha), upd_ne (ne_of_none hb hd), upd_ne (ne_of_none hb ha)]
    exact hb
def tErr1 (K : PySem.W.Frag) (x f : Str) (te : TE) (W : WX) : TS := fun _ σ H => te σ H fun v H1 => gErr1 K x f v H1 fun cls d H' => W cls d σ H'
def tErr2 (K : PySem.W.Frag) (x f g : Str) (te tu : TE) (W : WX) : TS := fun _ σ H => te σ H fun v H1 => tu σ H1 fun u H2 => gErr2 K x f g v u H2 fun cls d H' => W cls d σ H'
theorem w_err1 {K : PySem.W.Frag} {x f : Str} {te : TE} {W : WX} {D : Ends} {σ : L2.St} {H : Hp} (h : te σ H fun v H1 => gErr1 K x f v H1 fun cls d H' => W cls d σ H') : tErr1 K x f te W D σ H := h
theorem w_err2 {K : PySem.W.Frag} {x f g : Str} {te tu : TE} {W : WX} {D : Ends} {σ : L2.St} {H : Hp} (h : te σ H fun v H1 => tu σ H1 fun u H2 => gErr2 K x f g v u H2 fun cls d H' => W cls d σ H') : tErr2 K x f g te tu W D σ H := h
section
variable {X : Cx} {x f g : Str} {k : Nat} {fI : Addr} {p pos pos2 : Pos} {e e2 : Expr} {te te2 : TE} {ta : TA} {ps : List Str} {W : WX}
theorem ps_err1 (C : ErrC X.K x) (iC : Meth X.K (He.ga X.K x) "__init__" fI) (O : Ok X.prog X.w X.K X.mg X.base k fI ps (spE1 X.K x f)) (hr : Room (k + 1) X.A) (hm : X.mg x = some (.ref (He.ga X.K x))) (tk : Takes X W)
    (ha : PE X e te) (hc : X.calm = true := by rfl) (hg : Gl X x := by rfl) (hdb : (x == ("__debug__" : Str)) = false := by decide) (he : starEach (e :: []) X.env = (false, eval e X.env) :: starEach [] X.env := by rfl) (hpl : (backTo pos (starEach [] X.env)).any (·.1) = false := by rfl) :
    PS X (.Raise (some (.Call (.Name x p) [e] [] pos)) none pos2) (tErr1 X.K x f te W) := by
  obtain ⟨fd, F, b, kp⟩ := O.run
  exact ps_raise (pos := pos2) hc tk (pmk_oex (pos := pos) (p := p) C.o iC.at_ (beq_iff_eq.mp iC.fn) F hr b .nil passL hg hm (pa_cons ha pa_nil he) hdb he hpl)
theorem ps_err2 (C : ErrC X.K x) (iC : Meth X.K (He.ga X.K x) "__init__" fI) (O : Ok X.prog X.w X.K X.mg X.base k fI ps (spE2 X.K x f g)) (hr : Room (k + 1) X.A) (hm : X.mg x = some (.ref (He.ga X.K x))) (tk : Takes X W)
    (ha : PE X e te) (ha2 : PE X e2 te2) (hc : X.calm = true := by rfl) (hg : Gl X x := by rfl) (hdb : (x == ("__debug__" : Str)) = false := by decide) (he : starEach (e :: [e2]) X.env = (false, eval e X.env) :: starEach [e2] X.env := by rfl)
    (he2 : starEach (e2 :: []) X.env = (false, eval e2 X.env) :: starEach [] X.env := by rfl) (hpl : (backTo pos (starEach [e2] X.env)).any (·.1) = false := by rfl) :
    PS X (.Raise (some (.Call (.Name x p) [e, e2] [] pos)) none pos2) (tErr2 X.K x f g te te2 W) := by
  obtain ⟨fd, F, b, kp⟩ := O.run
  exact ps_raise (pos := pos2) hc tk (pmk_oex (pos := pos) (p := p) C.o iC.at_ (beq_iff_eq.mp iC.fn) F hr b .nil passL hg hm (pa_cons ha (pa_cons ha2 pa_nil he2) he) hdb he hpl)
end
section
variable {P : Program} {w : World} {K : PySem.W.Frag} {mg : Str → Option Value} {base : Heap}
theorem sc_NoName : FnScope ["self", "name"] ["self", "name"] (defScope s_NoName_init) := ⟨rfl, rfl, rfl, by decide +kernel, rfl, by decide +kernel, by decide +kernel⟩
theorem ok_NoName (T : Tx K mg) : Ok P w K mg base 1 (He.ma K (He.ga K "NoName") "__init__") ["self", "name"] (spE1 K "NoName" "name") := by
  obtain ⟨fd, F⟩ := T.f_NoName_init
  refine ⟨fd, F.ok sc_NoName (fun vs H Q E h => ?_) (fun cdv A outer s H vs Q E hr h => ?_), F.bindsN fun _ _ _ _ _ _ us hl => match us, hl with | [_, _], _ => rfl, F.kp⟩
  · obtain ⟨a, v, rfl, _⟩ := h
    rfl
  obtain ⟨a, v, rfl, ha, q⟩ := h
  refine ⟨_, pss_one (ps_ost (pv 0) (pv 1)), ?_⟩
  exact ⟨_, rfl, _, rfl, a, _, rfl, (T.err (x := "NoName") (by decide)).o, T.n_NoName_name, .inl ⟨ha, fun dx hd hne => q dx hd hne⟩⟩
theorem sc_Twice : FnScope ["self", "name"] ["self", "name"] (defScope s_Twice_init) := ⟨rfl, rfl, rfl, by decide +kernel, rfl, by decide +kernel, by decide +kernel⟩
theorem ok_Twice (T : Tx K mg) : Ok P w K mg base 1 (He.ma K (He.ga K "Twice") "__init__") ["self", "name"] (spE1 K "Twice" "name") := by
  obtain ⟨fd, F⟩ := T.f_Twice_init
  refine ⟨fd, F.ok sc_Twice (fun vs H Q E h => ?_) (fun cdv A outer s H vs Q E hr h => ?_), F.bindsN fun _ _ _ _ _ _ us hl => match us, hl with | [_, _], _ => rfl, F.kp⟩
  · obtain ⟨a, v, rfl, _⟩ := h
    rfl
  obtain ⟨a, v, rfl, ha, q⟩ := h
  refine ⟨_, pss_one (ps_ost (pv 0) (pv 1)), ?_⟩
  exact ⟨_, rfl, _, rfl, a, _, rfl, (T.err (x := "Twice") (by decide)).o, T.n_Twice_name, .inl ⟨ha, fun dx hd hne => q dx hd hne⟩⟩
theorem sc_NoQuestion : FnScope ["self", "name"] ["self", "name"] (defScope s_NoQuestion_init) := ⟨rfl, rfl, rfl, by decide +kernel, rfl, by decide +kernel, by decide +kernel⟩
theorem ok_NoQuestion (T : Tx K mg) : Ok P w K mg base 1 (He.ma K (He.ga K "NoQuestion") "__init__") ["self", "name"] (spE1 K "NoQuestion" "name") := by
  obtain ⟨fd, F⟩ := T.f_NoQuestion_init
  refine ⟨fd, F.ok sc_NoQuestion (fun vs H Q E h => ?_) (fun cdv A outer s H vs Q E hr h => ?_), F.bindsN fun _ _ _ _ _ _ us hl => match us, hl with | [_, _], _ => rfl, F.kp⟩
  · obtain ⟨a, v, rfl, _⟩ := h
    rfl
  obtain ⟨a, v, rfl, ha, q⟩ := h
  refine ⟨_, pss_one (ps_ost (pv 0) (pv 1)), ?_⟩
  exact ⟨_, rfl, _, rfl, a, _, rfl, (T.err (x := "NoQuestion") (by decide)).o, T.n_NoQuestion_name, .inl ⟨ha, fun dx hd hne => q dx hd hne⟩⟩
theorem sc_NoFit : FnScope ["self", "name"] ["self", "name"] (defScope s_NoFit_init) := ⟨rfl, rfl, rfl, by decide +kernel, rfl, by decide +kernel, by decide +kernel⟩
theorem ok_NoFit (T : Tx K mg) : Ok P w K mg base 1 (He.ma K (He.ga K "NoFit") "__init__") ["self", "name"] (spE1 K "NoFit" "name") := by
  obtain ⟨fd, F⟩ := T.f_NoFit_init
  refine ⟨fd, F.ok sc_NoFit (fun vs H Q E h => ?_) (fun cdv A outer s H vs Q E hr h => ?_), F.bindsN fun _ _ _ _ _ _ us hl => match us, hl with | [_, _], _ => rfl, F.kp⟩
  · obtain ⟨a, v, rfl, _⟩ := h
    rfl
  obtain ⟨a, v, rfl, ha, q⟩ := h
  refine ⟨_, pss_one (ps_ost (pv 0) (pv 1)), ?_⟩
  exact ⟨_, rfl, _, rfl, a, _, rfl, (T.err (x := "NoFit") (by decide)).o, T.n_NoFit_name, .inl ⟨ha, fun dx hd hne => q dx hd hne⟩⟩
theorem sc_BadCount : FnScope ["self", "what", "count"] ["self", "what", "count"] (defScope s_BadCount_init) := ⟨rfl, rfl, rfl, by decide +kernel, rfl, by decide +kernel, by decide +kernel⟩
theorem ok_BadCount (T : Tx K mg) : Ok P w K mg base 1 (He.ma K (He.ga K "BadCount") "__init__") ["self", "what", "count"] (spE2 K "BadCount" "what" "count") := by
  obtain ⟨fd, F⟩ := T.f_BadCount_init
  refine ⟨fd, F.ok sc_BadCount (fun vs H Q E h => ?_) (fun cdv A outer s H vs Q E hr h => ?_), F.bindsN fun _ _ _ _ _ _ us hl => match us, hl with | [_, _, _], _ => rfl, F.kp⟩
  · obtain ⟨a, v, u, rfl, _⟩ := h
    rfl
  obtain ⟨a, v, u, rfl, ha, q⟩ := h
  refine ⟨_, pss_cons (ps_ost (pv 0) (pv 1)) (pss_one (ps_ost (pv 0) (pv 2))), ?_⟩
  refine ⟨_, rfl, _, rfl, a, _, rfl, (T.err (x := "BadCount") (by decide)).o, T.n_BadCount_what, .inl ⟨ha, fun dx hd hne => ?_⟩⟩
  refine ⟨_, rfl, _, rfl, a, _, rfl, (T.err (x := "BadCount") (by decide)).o, T.n_BadCount_count, .inr ⟨dx, _, upd_same, by rw [upd_ne hne]; exact upd_same, (by show 1 ≤ 900; decide), ?_⟩⟩
  have := q dx hd hne
  exact this
end
end K3
end P2_part
section P3_part
set_option Elab.async false
set_option linter.all false
set_option maxRecDepth 100000
set_option maxHeartbeats 1000000
set_option pp.deepTerms true
open PySem PySem.Spec PyProof.Rows L2
/-- go on as far as nothing is open -/
local macro_rules | `(tactic| walk_at "go") => `(tactic| repeat (first
  | with_reducible refine w_seq ?_ | with_reducible refine w_next ?_ | with_reducible refine w_set ?_ | with_reducible refine w_drop ?_ | with_reducible refine w_ret ?_ | with_reducible refine w_retN ?_
  | with_reducible refine w_if ?_ | ((with_reducible refine' w_var ?hv ?_); (case hv => exact rfl)) | with_reducible refine w_c ?_ | with_reducible refine w_nil ?_ | with_reducible refine w_cons ?_ | with_reducible refine w_op ?_ | with_reducible refine w_un ?_
  | with_reducible refine w_test ?_ | with_reducible refine w_tB ?_ | with_reducible refine w_not ?_ | with_reducible refine w_and ?_ | with_reducible refine w_or ?_ | with_reducible refine w_bl ?_
  | with_reducible refine w_andV ?_ | with_reducible refine w_orV ?_ | with_reducible refine w_notV ?_ | with_reducible refine w_ifE ?_ | with_reducible refine w_chain ?_ | with_reducible refine w_i0 ?_
  | with_reducible refine w_call ?_ | with_reducible refine w_callS ?_ | with_reducible refine w_cB ?_ | with_reducible refine w_tup ?_ | with_reducible refine w_lst ?_ | with_reducible refine w_fldV ?_
  | with_reducible refine w_neF ?_ | with_reducible refine w_neT ?_ | with_reducible refine w_notN ?_ | with_reducible refine w_isN ?_ | with_reducible refine w_gname ?_ | with_reducible refine w_gsub ?_ | with_reducible refine w_asg ?_ | with_reducible refine w_yes ?_ | with_reducible refine w_nT ?_ | with_reducible refine w_nF ?_ | with_reducible refine w_iteT ?_ | with_reducible refine w_iteF ?_))
namespace K3
/-! ### what a form refuses -/
inductive Flt where
  | count (what : Str) (n : Int)
  | name (z : Str)
  | twice (z : Str)
  | quest (z : Str)
  | fit (z : Str)
def IsF (K : PySem.W.Frag) : Flt → Value → Option Addr → Hp → Prop
  | .count w n => Err K "BadCount" [("count", .int n), ("what", .str w)]
  | .name z => Err K "NoName" [("name", .str z)]
  | .twice z => Err K "Twice" [("name", .str z)]
  | .quest z => Err K "NoQuestion" [("name", .str z)]
  | .fit z => Err K "NoFit" [("name", .str z)]
/-- refused by r, or told nothing; all that was tracked stands -/
def End (K : PySem.W.Frag) (r : Option Flt) (H : Hp) (Q : VK) (E : XK) : Prop := match r with
  | none => ∀ H', Same H H' → Q .non H'
  | some f => ∀ cls d H', Same H H' → IsF K f cls d H' → E cls d H'
theorem End.mono {K : PySem.W.Frag} {r : Option Flt} {H H1 : Hp} {Q : VK} {E : XK} (h : End K r H Q E) (s : Same H H1) : End K r H1 Q E := by
  cases r with
  | none => exact fun H' e => h H' (s.trans e)
  | some f => exact fun cls d H' e => h cls d H' (s.trans e)
def nameF (z : Str) : Option Flt := if isName z then none else some (.name z)
def spNoName (K : PySem.W.Frag) : Sp := fun vs H Q E => ∃ z : Str, vs = [.str z] ∧ z.length ≤ 1000 ∧ End K (nameF z) H Q E
/-- the first that stands ahead of it -/
def dupOf : List Str → List Str → Option Str
  | _, [] => none
  | seen, x :: r => if x ∈ seen then some x else dupOf (seen ++ [x]) r
def dupF (os : List Str) : Option Flt := (dupOf [] os).map .twice
def spTwice (K : PySem.W.Frag) : Sp := fun vs H Q E => ∃ (a : Addr) (os : List Str), vs = [.ref a] ∧ SqE K H a (os.map V.str) ∧ os.length ≤ 1000 ∧ End K (dupF os) H Q E
theorem dupOf_take {os : List Str} : ∀ {seen : List Str} {i : Nat} {x : Str}, os[i]? = some x → dupOf seen (os.take i) = none →
    (x ∈ seen ++ os.take i → dupOf seen os = some x) ∧ (x ∉ seen ++ os.take i → dupOf seen (os.take (i + 1)) = none) := by
  induction os with
  | nil => intro seen i x h; simp at h
  | cons a r ih =>
    intro seen i x h hn
    cases i with
    | zero =>
      have e : a = x := by simpa using h
      subst e
      refine ⟨fun m => ?_, fun m => ?_⟩
      · have m' : a ∈ seen := by simpa using m
        unfold dupOf
        rw [if_pos m']
      · have m' : a ∉ seen := by simpa using m
        show dupOf seen [a] = none
        unfold dupOf
        rw [if_neg m'] <;> rfl
    | succ i =>
      have h' : r[i]? = some x := by simpa using h
      have hn' : dupOf seen (a :: r.take i) = none := hn
      unfold dupOf at hn'
      by_cases m : a ∈ seen
      · rw [if_pos m] at hn'
        cases hn'
      · rw [if_neg m] at hn'
        have q := ih h' hn'
        refine ⟨fun mm => ?_, fun mm => ?_⟩
        · unfold dupOf
          rw [if_neg m]
          exact q.1 (by simpa using mm)
        · show dupOf seen (a :: r.take (i + 1)) = none
          unfold dupOf
          rw [if_neg m]
          exact q.2 (by simpa using mm)
/-- which keys are among these texts -/
def inK (l : List Str) : Key → Bool
  | .inl _ => false
  | .inr z => decide (z ∈ l)
theorem inK_nil : inK [] = fun _ => false := by
  funext k
  cases k <;> rfl
section
variable {P : Program} {w : World} {K : PySem.W.Frag} {mg : Str → Option Value} {base : Heap}
theorem sc_refuse_no_name : FnScope ["text"] ["text"] (defScope s_refuse_no_name) := ⟨rfl, rfl, rfl, by decide +kernel, rfl, by decide +kernel, by decide +kernel⟩
theorem ok_refuse_no_name (T : Tx K mg) : Ok P w K mg base 3 (He.ga K "refuse_no_name") ["text"] (spNoName K) := by
  obtain ⟨fd, F⟩ := T.f_refuse_no_name
  refine ⟨fd, F.ok sc_refuse_no_name (fun vs H Q E h => ?_) (fun cdv A outer s H vs Q E hr h => ?_), F.bindsN fun _ _ _ _ _ _ us hl => match us, hl with | [_], _ => rfl, F.kp⟩
  · obtain ⟨z, rfl, _⟩ := h
    rfl
  obtain ⟨z, rfl, hz, q⟩ := h
  refine ⟨_, pss_one (ps_if (pt_not (pt_val (pe_f (ok_is_name T) (hr.mono (by decide)) T.g_is_name (pa_cons (pv 0) pa_nil)))) (pss_one (ps_err1 (T.err (x := "NoName") (by decide)) T.m_NoName_init (ok_NoName T) (hr.mono (by decide)) T.g_NoName (takes_of rfl rfl rfl rfl) (pv 0))) pss_nil), ?_⟩
  walk_at "go"
  refine ⟨z, rfl, hz, fun H' e => ?_⟩
  have q' := q.mono e
  unfold nameF at q'
  cases hb : isName z with
  | true =>
    rw [hb] at q'
    walk_at "go"
    exact q' H' (Same.refl _)
  | false =>
    rw [hb] at q'
    walk_at "go"
    refine w_err1 ?_
    walk_at "go"
    exact gErr1_of fun d H2 e2 h2 => q' _ _ H2 e2 ⟨rfl, d, rfl, h2⟩
theorem sc_refuse_twice : FnScope ["names", "seen", "name"] ["names"] (defScope s_refuse_twice) := ⟨rfl, rfl, rfl, by decide +kernel, rfl, by decide +kernel, by decide +kernel⟩
theorem ok_refuse_twice (T : Tx K mg) : Ok P w K mg base 3 (He.ga K "refuse_twice") ["names"] (spTwice K) := by
  obtain ⟨fd, F⟩ := T.f_refuse_twice
  refine ⟨fd, F.ok sc_refuse_twice (fun vs H Q E h => ?_) (fun cdv A outer s H vs Q E hr h => ?_), F.bindsN fun _ _ _ _ _ _ us hl => match us, hl with | [_], _ => rfl, F.kp⟩
  · obtain ⟨a, os, rfl, _⟩ := h
    rfl
  obtain ⟨a, os, rfl, ⟨bq, ha⟩, hz, q⟩ := h
  refine ⟨_, pss_cons (ps_set (i := 1) sc_refuse_twice.nd rfl (Or.inl rfl) (pe_callTy0 cr_set0K (by rfl) T.z_set (by decide +kernel)))
    (pss_one (ps_for (passes_of rfl) rfl (pi_seq (pv 0)) (pg_name (i := 2) sc_refuse_twice.nd rfl (Or.inl rfl))
      (pss_cons (ps_if (pt_cmpR or_sinK (pv 2) (pv 1) rfl) (pss_one (ps_err1 (T.err (x := "Twice") (by decide)) T.m_Twice_init (ok_Twice T) (hr.mono (by decide)) T.g_Twice (takes_of rfl rfl rfl rfl) (pv 2))) pss_nil)
        (pss_one (ps_expr (pe_saddK (pv 1) (pa_cons (pv 2) pa_nil))))))), ?_⟩
  walk_at "go"
  refine ⟨rfl, fun p hp => ?_⟩
  walk_at "go"
  refine ⟨_, rfl, a, bq, rfl, ⟨_, ha.same (Same.new hp _)⟩, ?_⟩
  refine for_it (walk_B (K := K) (a := a) (xs := os.map V.str) (b := bq)) (fun (i : Nat) σ H' => ∃ v : Option V, σ = [some (.ref a), some (.ref p), v] ∧ Same H H' ∧ dupOf [] (os.take i) = none ∧
    ∃ n : Nat, n ≤ i ∧ H' p = some (SetK P w p (inK (os.take i)) n)) ⟨none, rfl, Same.new hp _, rfl, 0, Nat.le_refl _, by show _ = some (SetK P w p (inK []) 0); rw [inK_nil]; exact upd_same⟩ (fun i σ H' _ ⟨_, _, e, _⟩ => ha.same e) ?_ ?_
  · rintro i x σ H' _ hi0 ⟨v, rfl, e, hd, n, hn, hs⟩ ⟨rfl, hi⟩
    obtain ⟨z, hz', rfl⟩ : ∃ z, os[i]? = some z ∧ x = V.str z := by
      rw [List.getElem?_map] at hi
      cases e : os[i]? with
      | none => rw [e] at hi; cases hi
      | some z => rw [e] at hi; exact ⟨z, rfl, (Option.some.inj hi).symm⟩
    have hlt : i < os.length := (List.getElem?_eq_some_iff.mp hz').1
    have hq := dupOf_take (seen := []) hz' hd
    show tSeq _ _ _ _ _
    walk_at "go"
    refine ⟨Sum.inr z, p, _, n, rfl, rfl, hs, ?_⟩
    walk_at "go"
    by_cases c : z ∈ os.take i
    · rw [show inK (os.take i) (Sum.inr z) = true from decide_eq_true c]
      walk_at "go"
      refine w_err1 ?_
      walk_at "go"
      have q' := q.mono e
      have ed : dupF os = some (.twice z) := by
        unfold dupF
        rw [hq.1 (by simpa using c)] <;> rfl
      rw [ed] at q'
      exact gErr1_of fun d H2 e2 h2 => q' _ _ H2 e2 ⟨rfl, d, rfl, h2⟩
    · rw [show inK (os.take i) (Sum.inr z) = false from decide_eq_false c]
      walk_at "go"
      refine ⟨_, rfl, ?_⟩
      refine ⟨⟨p, _, n, rfl, hs⟩, ?_⟩
      walk_at "go"
      refine ⟨p, Sum.inr z, _, n, rfl, rfl, hs, (by unfold scanBound; omega), ?_⟩
      refine ⟨some (.str z), rfl, e.mut hp, hq.2 (by simpa using c), n + 1, by omega, ?_⟩
      rw [upd_same, show inK (os.take i) (Sum.inr z) = false from decide_eq_false c]
      have ef : (fun j : Key => inK (os.take i) j || decide (j = Sum.inr z)) = inK (os.take (i + 1)) := by
        funext j
        rw [List.take_add_one, hz']
        cases j with
        | inl k => rfl
        | inr y =>
          show (decide (y ∈ os.take i) || decide ((Sum.inr y : Key) = Sum.inr z)) = decide (y ∈ os.take i ++ [z])
          by_cases h1 : y ∈ os.take i <;> by_cases h2 : y = z <;> simp [h1, h2]
      rw [ef] <;> rfl
  · rintro σ H' ⟨v, rfl, e, hd, _⟩
    rw [List.length_map, List.take_length] at hd
    have ed : dupF os = none := by
      unfold dupF
      rw [hd] <;> rfl
    rw [ed] at q
    exact q H' e
end
end K3
end P3_part
section P4_part
set_option Elab.async false
set_option linter.all false
set_option maxRecDepth 100000
set_option maxHeartbeats 1000000
set_option pp.deepTerms true
open PySem PySem.Spec PyProof.Rows L2
/-- go on as far as nothing is open -/
local macro_rules | `(tactic| walk_at "go") => `(tactic| repeat (first
  | with_reducible refine w_seq ?_ | with_reducible refine w_next ?_ | with_reducible refine w_set ?_ | with_reducible refine w_drop ?_ | with_reducible refine w_ret ?_ | with_reducible refine w_retN ?_
  | with_reducible refine w_if ?_ | ((with_reducible refine' w_var ?hv ?_); (case hv => exact rfl)) | with_reducible refine w_c ?_ | with_reducible refine w_nil ?_ | with_reducible refine w_cons ?_ | with_reducible refine w_op ?_ | with_reducible refine w_un ?_
  | with_reducible refine w_test ?_ | with_reducible refine w_tB ?_ | with_reducible refine w_not ?_ | with_reducible refine w_and ?_ | with_reducible refine w_or ?_ | with_reducible refine w_bl ?_
  | with_reducible refine w_andV ?_ | with_reducible refine w_orV ?_ | with_reducible refine w_notV ?_ | with_reducible refine w_ifE ?_ | with_reducible refine w_chain ?_ | with_reducible refine w_i0 ?_
  | with_reducible refine w_call ?_ | with_reducible refine w_callS ?_ | with_reducible refine w_cB ?_ | with_reducible refine w_tup ?_ | with_reducible refine w_lst ?_ | with_reducible refine w_fldV ?_
  | with_reducible refine w_neF ?_ | with_reducible refine w_neT ?_ | with_reducible refine w_notN ?_ | with_reducible refine w_isN ?_ | with_reducible refine w_gname ?_ | with_reducible refine w_gsub ?_ | with_reducible refine w_asg ?_ | with_reducible refine w_yes ?_ | with_reducible refine w_nT ?_ | with_reducible refine w_nF ?_ | with_reducible refine w_iteT ?_ | with_reducible refine w_iteF ?_))
namespace K3
/-! ### conditions, rows -/
inductive Cd where
  | is (n o : Str)
  | has (n o : Str)
  | over (n : Str) (k : Int)
  | under (n : Str) (k : Int)
  | no (c : Cd)
  | both (c d : Cd)
  | either (c d : Cd)
inductive Rw where
  | one (n : Str) (os : List Str) (w : Option Cd)
  | some (n : Str) (os : List Str) (w : Option Cd)
  | number (n : Str) (lo hi : Int) (w : Option Cd)
  | check (n : Str) (m : Cd) (w : Option Cd)
  | sect (rs : List Rw) (w : Option Cd)
  | rounds (n : Str) (rs : List Rw) (w : Option Cd)
def Cd.nm : Cd → Str
  | .is _ _ => "Is" | .has _ _ => "Has" | .over _ _ => "Above" | .under _ _ => "Below" | .no _ => "Not" | .both _ _ => "Both" | .either _ _ => "Either"
def Rw.nm : Rw → Str
  | .one _ _ _ => "One" | .some _ _ _ => "Some" | .number _ _ _ _ => "Number" | .check _ _ _ => "Check" | .sect _ _ => "Section" | .rounds _ _ _ => "Rounds"
def Ins (K : PySem.W.Frag) (H : Hp) (a : Addr) (x : Str) (fs : List (Str × V)) : Prop := ∃ dx, H a = some (.ins (He.ga K x) dx fs)
theorem Ins.si {K : PySem.W.Frag} {H H' : Hp} {a : Addr} {x : Str} {fs : List (Str × V)} (h : Ins K H a x fs) (e : SI H H') (k : keepF fs = true := by rfl) : Ins K H' a x fs := let ⟨dx, q⟩ := h; ⟨dx, e _ _ k q⟩
theorem Ins.same {K : PySem.W.Frag} {H H' : Hp} {a : Addr} {x : Str} {fs : List (Str × V)} (h : Ins K H a x fs) (e : Same H H') : Ins K H' a x fs := let ⟨dx, q⟩ := h; ⟨dx, e _ _ q⟩
inductive CO (K : PySem.W.Frag) (H : Hp) : V → Cd → Prop where
  | is {a n o} : Ins K H a "Is" [("name", .str n), ("option", .str o)] → CO K H (.ref a) (.is n o)
  | has {a n o} : Ins K H a "Has" [("name", .str n), ("option", .str o)] → CO K H (.ref a) (.has n o)
  | over {a n k} : Ins K H a "Above" [("name", .str n), ("number", .int k)] → CO K H (.ref a) (.over n k)
  | under {a n k} : Ins K H a "Below" [("name", .str n), ("number", .int k)] → CO K H (.ref a) (.under n k)
  | no {a v c} : Ins K H a "Not" [("inner", v)] → CO K H v c → CO K H (.ref a) (.no c)
  | both {a v u c d} : Ins K H a "Both" [("left", v), ("right", u)] → CO K H v c → CO K H u d → CO K H (.ref a) (.both c d)
  | either {a v u c d} : Ins K H a "Either" [("left", v), ("right", u)] → CO K H v c → CO K H u d → CO K H (.ref a) (.either c d)
theorem CO.si {K : PySem.W.Frag} {H H' : Hp} (e : SI H H') : ∀ {c : Cd} {v : V}, CO K H v c → CO K H' v c := by
  intro c v h
  induction h with
  | is h => exact .is (h.si e)
  | has h => exact .has (h.si e)
  | over h => exact .over (h.si e)
  | under h => exact .under (h.si e)
  | no h _ i => exact .no (h.si e) i
  | both h _ _ i j => exact .both (h.si e) i j
  | either h _ _ i j => exact .either (h.si e) i j
theorem CO.same {K : PySem.W.Frag} {H H' : Hp} (e : Same H H') {c : Cd} {v : V} (h : CO K H v c) : CO K H' v c := h.si e.si
inductive WO (K : PySem.W.Frag) (H : Hp) : V → Option Cd → Prop where
  | none : WO K H .non none
  | some {v c} : CO K H v c → WO K H v (some c)
theorem WO.si {K : PySem.W.Frag} {H H' : Hp} (e : SI H H') {c : Option Cd} {v : V} (h : WO K H v c) : WO K H' v c := by
  cases h with
  | none => exact .none
  | some h => exact .some (h.si e)
theorem WO.same {K : PySem.W.Frag} {H H' : Hp} (e : Same H H') {c : Option Cd} {v : V} (h : WO K H v c) : WO K H' v c := h.si e.si
mutual
inductive RO (K : PySem.W.Frag) (H : Hp) : V → Rw → Prop where
  | one {a t n os w wv} : Ins K H a "One" [("name", .str n), ("options", .ref t), ("where", wv)] → SqT K H t (os.map V.str) → WO K H wv w → RO K H (.ref a) (.one n os w)
  | some {a t n os w wv} : Ins K H a "Some" [("name", .str n), ("options", .ref t), ("where", wv)] → SqT K H t (os.map V.str) → WO K H wv w → RO K H (.ref a) (.some n os w)
  | number {a n lo hi w wv} : Ins K H a "Number" [("name", .str n), ("low", .int lo), ("high", .int hi), ("where", wv)] → WO K H wv w → RO K H (.ref a) (.number n lo hi w)
  | check {a n m mv w wv} : Ins K H a "Check" [("name", .str n), ("must", mv), ("where", wv)] → CO K H mv m → WO K H wv w → RO K H (.ref a) (.check n m w)
  | sect {a t xs rs w wv} : Ins K H a "Section" [("rows", .ref t), ("where", wv)] → SqT K H t xs → ROs K H xs rs → WO K H wv w → RO K H (.ref a) (.sect rs w)
  | rounds {a t n xs rs w wv} : Ins K H a "Rounds" [("count", .str n), ("rows", .ref t), ("where", wv)] → SqT K H t xs → ROs K H xs rs → WO K H wv w → RO K H (.ref a) (.rounds n rs w)
inductive ROs (K : PySem.W.Frag) (H : Hp) : List V → List Rw → Prop where
  | nil : ROs K H [] []
  | cons {v vs r rs} : RO K H v r → ROs K H vs rs → ROs K H (v :: vs) (r :: rs)
end
mutual
theorem RO.si {K : PySem.W.Frag} {H H' : Hp} (e : SI H H') : ∀ {r : Rw} {v : V}, RO K H v r → RO K H' v r
  | _, _, .one h t w => .one (h.si e) (e.sqt t) (w.si e)
  | _, _, .some h t w => .some (h.si e) (e.sqt t) (w.si e)
  | _, _, .number h w => .number (h.si e) (w.si e)
  | _, _, .check h m w => .check (h.si e) (m.si e) (w.si e)
  | _, _, .sect h t rs w => .sect (h.si e) (e.sqt t) (ROs.si e rs) (w.si e)
  | _, _, .rounds h t rs w => .rounds (h.si e) (e.sqt t) (ROs.si e rs) (w.si e)
theorem ROs.si {K : PySem.W.Frag} {H H' : Hp} (e : SI H H') : ∀ {rs : List Rw} {vs : List V}, ROs K H vs rs → ROs K H' vs rs
  | _, _, .nil => .nil
  | _, _, .cons h t => .cons (RO.si e h) (ROs.si e t)
end
theorem RO.same {K : PySem.W.Frag} {H H' : Hp} (e : Same H H') {r : Rw} {v : V} (h : RO K H v r) : RO K H' v r := RO.si e.si h
theorem ROs.same {K : PySem.W.Frag} {H H' : Hp} (e : Same H H') {rs : List Rw} {vs : List V} (h : ROs K H vs rs) : ROs K H' vs rs := ROs.si e.si h
/-! ### isinstance -/
section
variable {K : PySem.W.Frag} {mg : Str → Option Value} {H : Hp}
theorem Tx.gs (T : Tx K mg) : getsetB K = true := (and2 (and2 T.e).1).1
theorem Tx.kc (T : Tx K mg) {x : Str} (hx : x ∈ cndN) : kclsB K (He.ga K x) = true ∧ ∀ y ∈ cndT, PySem.W.kitOne K (.ref (He.ga K x)) (.ref (He.ga K y)) = some (x == y) := by
  have q := List.all_eq_true.mp (and2 (and2 (and2 (and2 T.e).1).2).2).1 x hx
  obtain ⟨q1, q2⟩ := and2 q
  exact ⟨q1, fun y hy => eqB_ok (List.all_eq_true.mp q2 y hy)⟩
theorem Tx.kr (T : Tx K mg) {x : Str} (hx : x ∈ rowN) : kclsB K (He.ga K x) = true ∧ ∀ y ∈ rowN, PySem.W.kitOne K (.ref (He.ga K x)) (.ref (He.ga K y)) = some (x == y) := by
  have q := List.all_eq_true.mp (and2 (and2 (and2 (and2 T.e).1).2).2).2 x hx
  obtain ⟨q1, q2⟩ := and2 q
  exact ⟨q1, fun y hy => eqB_ok (List.all_eq_true.mp q2 y hy)⟩
theorem Tx.ty (T : Tx K mg) {x : Str} {a : Addr} {fs : List (Str × V)} (k : kclsB K (He.ga K x) = true) (c : Cls K (He.ga K x)) (h : Ins K H a x fs) : TyX K H (.ref a) (.ref (He.ga K x)) := by
  obtain ⟨dx, h⟩ := h
  obtain ⟨k1, k2⟩ := and2 (show (eqB _ _ && eqB _ _) = true from k)
  obtain ⟨g1, g2⟩ := and2 (show (eqB _ _ && eqB _ _) = true from T.gs)
  exact .base (.ins h c (eqB_ok k1) (eqB_ok g1) (eqB_ok g2) (eqB_ok k2))
theorem Tx.tyC (T : Tx K mg) {c : Cd} {v : V} (h : CO K H v c) : c.nm ∈ cndN ∧ TyX K H v (.ref (He.ga K c.nm)) := by
  cases h with
  | is h => exact ⟨(by show ("Is" : Str) ∈ cndN; decide), T.ty (T.kc (x := "Is") (by decide)).1 T.cl_Is h⟩
  | has h => exact ⟨(by show ("Has" : Str) ∈ cndN; decide), T.ty (T.kc (x := "Has") (by decide)).1 T.cl_Has h⟩
  | over h => exact ⟨(by show ("Above" : Str) ∈ cndN; decide), T.ty (T.kc (x := "Above") (by decide)).1 T.cl_Above h⟩
  | under h => exact ⟨(by show ("Below" : Str) ∈ cndN; decide), T.ty (T.kc (x := "Below") (by decide)).1 T.cl_Below h⟩
  | no h _ => exact ⟨(by show ("Not" : Str) ∈ cndN; decide), T.ty (T.kc (x := "Not") (by decide)).1 T.cl_Not h⟩
  | both h _ _ => exact ⟨(by show ("Both" : Str) ∈ cndN; decide), T.ty (T.kc (x := "Both") (by decide)).1 T.cl_Both h⟩
  | either h _ _ => exact ⟨(by show ("Either" : Str) ∈ cndN; decide), T.ty (T.kc (x := "Either") (by decide)).1 T.cl_Either h⟩
theorem Tx.tyR (T : Tx K mg) {r : Rw} {v : V} (h : RO K H v r) : r.nm ∈ rowN ∧ TyX K H v (.ref (He.ga K r.nm)) := by
  cases h with
  | one h _ _ => exact ⟨(by show ("One" : Str) ∈ rowN; decide), T.ty (T.kr (x := "One") (by decide)).1 T.cl_One h⟩
  | some h _ _ => exact ⟨(by show ("Some" : Str) ∈ rowN; decide), T.ty (T.kr (x := "Some") (by decide)).1 T.cl_Some h⟩
  | number h _ => exact ⟨(by show ("Number" : Str) ∈ rowN; decide), T.ty (T.kr (x := "Number") (by decide)).1 T.cl_Number h⟩
  | check h _ _ => exact ⟨(by show ("Check" : Str) ∈ rowN; decide), T.ty (T.kr (x := "Check") (by decide)).1 T.cl_Check h⟩
  | sect h _ _ _ => exact ⟨(by show ("Section" : Str) ∈ rowN; decide), T.ty (T.kr (x := "Section") (by decide)).1 T.cl_Section h⟩
  | rounds h _ _ _ => exact ⟨(by show ("Rounds" : Str) ∈ rowN; decide), T.ty (T.kr (x := "Rounds") (by decide)).1 T.cl_Rounds h⟩
theorem isiC (T : Tx K mg) {c : Cd} {v : V} {y : Str} {Q : VK} (h : CO K H v c) (hy : y ∈ cndT) (q : Q (.bl (c.nm == y)) H) : rIsi K [v, .ref (He.ga K y)] H Q :=
  ⟨_, _, _, _, _, rfl, .own _, (T.tyC h).2, (T.kc (T.tyC h).1).2 y hy, q⟩
theorem isiR (T : Tx K mg) {r : Rw} {v : V} {y : Str} {Q : VK} (h : RO K H v r) (hy : y ∈ rowN) (q : Q (.bl (r.nm == y)) H) : rIsi K [v, .ref (He.ga K y)] H Q :=
  ⟨_, _, _, _, _, rfl, .own _, (T.tyR h).2, (T.kr (T.tyR h).1).2 y hy, q⟩
theorem kitAny2 {t c d : Value} {a b : Bool} (h1 : PySem.W.kitOne K t c = some a) (h2 : PySem.W.kitOne K t d = some b) : PySem.W.kitAny K t [c, d] = some (a || b) := by
  unfold PySem.W.kitAny
  rw [h1]
  cases a with
  | true => rfl
  | false =>
    show PySem.W.kitAny K t [d] = _
    unfold PySem.W.kitAny
    rw [h2]
    cases b <;> rfl
theorem kitAny3 {t c d e : Value} {a b f : Bool} (h1 : PySem.W.kitOne K t c = some a) (h2 : PySem.W.kitOne K t d = some b) (h3 : PySem.W.kitOne K t e = some f) : PySem.W.kitAny K t [c, d, e] = some (a || (b || f)) := by
  have q := kitAny2 h2 h3
  unfold PySem.W.kitAny
  rw [h1]
  cases a with
  | true => rfl
  | false => exact q
theorem isiC2 (T : Tx K mg) {c : Cd} {v : V} {y z : Str} {p : Addr} {Q : VK} (h : CO K H v c) (hp : H p = some (.tup [.ref (He.ga K y), .ref (He.ga K z)])) (hy : y ∈ cndT) (hz : z ∈ cndT) (q : Q (.bl (c.nm == y || c.nm == z)) H) : rIsiT K [v, .ref p] H Q :=
  ⟨_, _, _, _, _, _, rfl, hp, .cons (.own _) (.cons (.own _) .nil), (T.tyC h).2, kitAny2 ((T.kc (T.tyC h).1).2 y hy) ((T.kc (T.tyC h).1).2 z hz), q⟩
theorem isiR2 (T : Tx K mg) {r : Rw} {v : V} {y z : Str} {p : Addr} {Q : VK} (h : RO K H v r) (hp : H p = some (.tup [.ref (He.ga K y), .ref (He.ga K z)])) (hy : y ∈ rowN) (hz : z ∈ rowN) (q : Q (.bl (r.nm == y || r.nm == z)) H) : rIsiT K [v, .ref p] H Q :=
  ⟨_, _, _, _, _, _, rfl, hp, .cons (.own _) (.cons (.own _) .nil), (T.tyR h).2, kitAny2 ((T.kr (T.tyR h).1).2 y hy) ((T.kr (T.tyR h).1).2 z hz), q⟩
theorem isiR3 (T : Tx K mg) {r : Rw} {v : V} {y z x : Str} {p : Addr} {Q : VK} (h : RO K H v r) (hp : H p = some (.tup [.ref (He.ga K y), .ref (He.ga K z), .ref (He.ga K x)])) (hy : y ∈ rowN) (hz : z ∈ rowN) (hx : x ∈ rowN) (q : Q (.bl (r.nm == y || (r.nm == z || r.nm == x))) H) : rIsiT K [v, .ref p] H Q :=
  ⟨_, _, _, _, _, _, rfl, hp, .cons (.own _) (.cons (.own _) (.cons (.own _) .nil)), (T.tyR h).2, kitAny3 ((T.kr (T.tyR h).1).2 y hy) ((T.kr (T.tyR h).1).2 z hz) ((T.kr (T.tyR h).1).2 x hx), q⟩
end
/-! ### the making of conditions and rows -/
/-- what __init__ leaves: the instance with these fields, all else as it was -/
def Left (K : PySem.W.Frag) (H : Hp) (a : Addr) (x : Str) (dx : Addr) (fs : List (Str × V)) (Q : VK) : Prop := ∀ H', H' a = some (.ins (He.ga K x) dx fs) → (∀ b o, b ≠ a → H b = some o → H' b = some o) → Q .non H'
def spI (K : PySem.W.Frag) (x : Str) (fs : List Str) : Sp := fun vs H Q _ => ∃ (a dx : Addr) (ws : List V), vs = .ref a :: ws ∧ ws.length = fs.length ∧ H a = some (.ins (He.ga K x) dx []) ∧ Left K H a x dx (fs.zip ws) Q
/-- with a row at the second place -/
def spIT (K : PySem.W.Frag) (x : Str) (f1 f2 f3 : Str) : Sp := fun vs H Q _ => ∃ (a dx l : Addr) (v1 v3 : V) (xs : List V), vs = [.ref a, v1, .ref l, v3] ∧ (SqL K H l xs ∨ SqT K H l xs) ∧ H a = some (.ins (He.ga K x) dx []) ∧
  ∀ t H', H' a = some (.ins (He.ga K x) dx [(f1, v1), (f2, .ref t), (f3, v3)]) → SqT K H' t xs → (∀ b o, b ≠ a → H b = some o → H' b = some o) → Q .non H'
def spIS (K : PySem.W.Frag) : Sp := fun vs H Q _ => ∃ (a dx l : Addr) (v3 : V) (xs : List V), vs = [.ref a, .ref l, v3] ∧ (SqL K H l xs ∨ SqT K H l xs) ∧ H a = some (.ins (He.ga K "Section") dx []) ∧
  ∀ t H', H' a = some (.ins (He.ga K "Section") dx [("rows", .ref t), ("where", v3)]) → SqT K H' t xs → (∀ b o, b ≠ a → H b = some o → H' b = some o) → Q .non H'
theorem SqL.far {K : PySem.W.Frag} {H : Hp} {l a C dx : Addr} {fs : List (Str × V)} {xs : List V} {o : HO} (ha : H a = some (.ins C dx fs)) (h : SqL K H l xs) : SqL K (upd H a o) l xs := by
  have q : ∀ u, H l = some u → (∀ C dx fs, u ≠ .ins C dx fs) → upd H a o l = some u := fun u hu hn => by
    rw [upd_ne (fun z => hn C dx fs (by rw [z, ha] at hu; exact (Option.some.inj hu).symm))]
    exact hu
  rcases h with (h | ⟨o', h⟩) | h
  · exact .inl (.inl (q _ h (by intro _ _ _ z; cases z)))
  · exact .inl (.inr ⟨o', q _ h (by intro _ _ _ z; cases z)⟩)
  · exact .inr h
theorem SqT.far {K : PySem.W.Frag} {H : Hp} {l a C dx : Addr} {fs : List (Str × V)} {xs : List V} {o : HO} (ha : H a = some (.ins C dx fs)) (h : SqT K H l xs) : SqT K (upd H a o) l xs := by
  have q : ∀ u, H l = some u → (∀ C dx fs, u ≠ .ins C dx fs) → upd H a o l = some u := fun u hu hn => by
    rw [upd_ne (fun z => hn C dx fs (by rw [z, ha] at hu; exact (Option.some.inj hu).symm))]
    exact hu
  rcases h with (h | ⟨o', h⟩) | h
  · exact .inl (.inl (q _ h (by intro _ _ _ z; cases z)))
  · exact .inl (.inr ⟨o', q _ h (by intro _ _ _ z; cases z)⟩)
  · exact .inr h
section
variable {P : Program} {w : World} {K : PySem.W.Frag} {mg : Str → Option Value} {base : Heap}
theorem sc_Is : FnScope ["self", "name", "option"] ["self", "name", "option"] (defScope s_Is_init) := ⟨rfl, rfl, rfl, by decide +kernel, rfl, by decide +kernel, by decide +kernel⟩
theorem ok_Is (T : Tx K mg) : Ok P w K mg base 1 (He.ma K (He.ga K "Is") "__init__") ["self", "name", "option"] (spI K "Is" ["name", "option"]) := by
  obtain ⟨fd, F⟩ := T.f_Is_init
  refine ⟨fd, F.ok sc_Is (fun vs H Q E h => ?_) (fun cdv A outer s H vs Q E hr h => ?_), F.bindsN fun _ _ _ _ _ _ us hl => match us, hl with | [_, _, _], _ => rfl, F.kp⟩
  · obtain ⟨a, dx, ws, rfl, hl, _⟩ := h
    exact congrArg Nat.succ hl
  obtain ⟨a, dx, ws, rfl, hl, ha, q⟩ := h
  obtain ⟨v1, v2, rfl⟩ : ∃ v1 v2, ws = [v1, v2] := match ws, hl with | [v1, v2], _ => ⟨v1, v2, rfl⟩
  refine ⟨_, pss_cons (ps_fld (pv 0) (pv 1) rfl) (pss_one (ps_fld (pv 0) (pv 2) rfl)), ?_⟩
  refine ⟨_, rfl, _, rfl, a, _, dx, _, rfl, ha, T.cl_Is, T.n_Is_name, (by show 0 < 1000; decide), ?_⟩
  refine ⟨_, rfl, _, rfl, a, _, dx, _, rfl, upd_same, T.cl_Is, T.n_Is_option, (by show 1 < 1000; decide), ?_⟩
  refine q _ upd_same fun b o hb ho => ?_
  rw [upd_ne hb, upd_ne hb]
  exact ho
theorem sc_Has : FnScope ["self", "name", "option"] ["self", "name", "option"] (defScope s_Has_init) := ⟨rfl, rfl, rfl, by decide +kernel, rfl, by decide +kernel, by decide +kernel⟩
theorem ok_Has (T : Tx K mg) : Ok P w K mg base 1 (He.ma K (He.ga K "Has") "__init__") ["self", "name", "option"] (spI K "Has" ["name", "option"]) := by
  obtain ⟨fd, F⟩ := T.f_Has_init
  refine ⟨fd, F.ok sc_Has (fun vs H Q E h => ?_) (fun cdv A outer s H vs Q E hr h => ?_), F.bindsN fun _ _ _ _ _ _ us hl => match us, hl with | [_, _, _], _ => rfl, F.kp⟩
  · obtain ⟨a, dx, ws, rfl, hl, _⟩ := h
    exact congrArg Nat.succ hl
  obtain ⟨a, dx, ws, rfl, hl, ha, q⟩ := h
  obtain ⟨v1, v2, rfl⟩ : ∃ v1 v2, ws = [v1, v2] := match ws, hl with | [v1, v2], _ => ⟨v1, v2, rfl⟩
  refine ⟨_, pss_cons (ps_fld (pv 0) (pv 1) rfl) (pss_one (ps_fld (pv 0) (pv 2) rfl)), ?_⟩
  refine ⟨_, rfl, _, rfl, a, _, dx, _, rfl, ha, T.cl_Has, T.n_Has_name, (by show 0 < 1000; decide), ?_⟩
  refine ⟨_, rfl, _, rfl, a, _, dx, _, rfl, upd_same, T.cl_Has, T.n_Has_option, (by show 1 < 1000; decide), ?_⟩
  refine q _ upd_same fun b o hb ho => ?_
  rw [upd_ne hb, upd_ne hb]
  exact ho
theorem sc_Above : FnScope ["self", "name", "number"] ["self", "name", "number"] (defScope s_Above_init) := ⟨rfl, rfl, rfl, by decide +kernel, rfl, by decide +kernel, by decide +kernel⟩
theorem ok_Above (T : Tx K mg) : Ok P w K mg base 1 (He.ma K (He.ga K "Above") "__init__") ["self", "name", "number"] (spI K "Above" ["name", "number"]) := by
  obtain ⟨fd, F⟩ := T.f_Above_init
  refine ⟨fd, F.ok sc_Above (fun vs H Q E h => ?_) (fun cdv A outer s H vs Q E hr h => ?_), F.bindsN fun _ _ _ _ _ _ us hl => match us, hl with | [_, _, _], _ => rfl, F.kp⟩
  · obtain ⟨a, dx, ws, rfl, hl, _⟩ := h
    exact congrArg Nat.succ hl
  obtain ⟨a, dx, ws, rfl, hl, ha, q⟩ := h
  obtain ⟨v1, v2, rfl⟩ : ∃ v1 v2, ws = [v1, v2] := match ws, hl with | [v1, v2], _ => ⟨v1, v2, rfl⟩
  refine ⟨_, pss_cons (ps_fld (pv 0) (pv 1) rfl) (pss_one (ps_fld (pv 0) (pv 2) rfl)), ?_⟩
  refine ⟨_, rfl, _, rfl, a, _, dx, _, rfl, ha, T.cl_Above, T.n_Above_name, (by show 0 < 1000; decide), ?_⟩
  refine ⟨_, rfl, _, rfl, a, _, dx, _, rfl, upd_same, T.cl_Above, T.n_Above_number, (by show 1 < 1000; decide), ?_⟩
  refine q _ upd_same fun b o hb ho => ?_
  rw [upd_ne hb, upd_ne hb]
  exact ho
theorem sc_Below : FnScope ["self", "name", "number"] ["self", "name", "number"] (defScope s_Below_init) := ⟨rfl, rfl, rfl, by decide +kernel, rfl, by decide +kernel, by decide +kernel⟩
theorem ok_Below (T : Tx K mg) : Ok P w K mg base 1 (He.ma K (He.ga K "Below") "__init__") ["self", "name", "number"] (spI K "Below" ["name", "number"]) := by
  obtain ⟨fd, F⟩ := T.f_Below_init
  refine ⟨fd, F.ok sc_Below (fun vs H Q E h => ?_) (fun cdv A outer s H vs Q E hr h => ?_), F.bindsN fun _ _ _ _ _ _ us hl => match us, hl with | [_, _, _], _ => rfl, F.kp⟩
  · obtain ⟨a, dx, ws, rfl, hl, _⟩ := h
    exact congrArg Nat.succ hl
  obtain ⟨a, dx, ws, rfl, hl, ha, q⟩ := h
  obtain ⟨v1, v2, rfl⟩ : ∃ v1 v2, ws = [v1, v2] := match ws, hl with | [v1, v2], _ => ⟨v1, v2, rfl⟩
  refine ⟨_, pss_cons (ps_fld (pv 0) (pv 1) rfl) (pss_one (ps_fld (pv 0) (pv 2) rfl)), ?_⟩
  refine ⟨_, rfl, _, rfl, a, _, dx, _, rfl, ha, T.cl_Below, T.n_Below_name, (by show 0 < 1000; decide), ?_⟩
  refine ⟨_, rfl, _, rfl, a, _, dx, _, rfl, upd_same, T.cl_Below, T.n_Below_number, (by show 1 < 1000; decide), ?_⟩
  refine q _ upd_same fun b o hb ho => ?_
  rw [upd_ne hb, upd_ne hb]
  exact ho
theorem sc_Not : FnScope ["self", "inner"] ["self", "inner"] (defScope s_Not_init) := ⟨rfl, rfl, rfl, by decide +kernel, rfl, by decide +kernel, by decide +kernel⟩
theorem ok_Not (T : Tx K mg) : Ok P w K mg base 1 (He.ma K (He.ga K "Not") "__init__") ["self", "inner"] (spI K "Not" ["inner"]) := by
  obtain ⟨fd, F⟩ := T.f_Not_init
  refine ⟨fd, F.ok sc_Not (fun vs H Q E h => ?_) (fun cdv A outer s H vs Q E hr h => ?_), F.bindsN fun _ _ _ _ _ _ us hl => match us, hl with | [_, _], _ => rfl, F.kp⟩
  · obtain ⟨a, dx, ws, rfl, hl, _⟩ := h
    exact congrArg Nat.succ hl
  obtain ⟨a, dx, ws, rfl, hl, ha, q⟩ := h
  obtain ⟨v1, rfl⟩ : ∃ v1, ws = [v1] := match ws, hl with | [v1], _ => ⟨v1, rfl⟩
  refine ⟨_, pss_one (ps_fld (pv 0) (pv 1) rfl), ?_⟩
  refine ⟨_, rfl, _, rfl, a, _, dx, _, rfl, ha, T.cl_Not, T.n_Not_inner, (by show 0 < 1000; decide), ?_⟩
  refine q _ upd_same fun b o hb ho => ?_
  rw [upd_ne hb]
  exact ho
theorem sc_Both : FnScope ["self", "left", "right"] ["self", "left", "right"] (defScope s_Both_init) := ⟨rfl, rfl, rfl, by decide +kernel, rfl, by decide +kernel, by decide +kernel⟩
theorem ok_Both (T : Tx K mg) : Ok P w K mg base 1 (He.ma K (He.ga K "Both") "__init__") ["self", "left", "right"] (spI K "Both" ["left", "right"]) := by
  obtain ⟨fd, F⟩ := T.f_Both_init
  refine ⟨fd, F.ok sc_Both (fun vs H Q E h => ?_) (fun cdv A outer s H vs Q E hr h => ?_), F.bindsN fun _ _ _ _ _ _ us hl => match us, hl with | [_, _, _], _ => rfl, F.kp⟩
  · obtain ⟨a, dx, ws, rfl, hl, _⟩ := h
    exact congrArg Nat.succ hl
  obtain ⟨a, dx, ws, rfl, hl, ha, q⟩ := h
  obtain ⟨v1, v2, rfl⟩ : ∃ v1 v2, ws = [v1, v2] := match ws, hl with | [v1, v2], _ => ⟨v1, v2, rfl⟩
  refine ⟨_, pss_cons (ps_fld (pv 0) (pv 1) rfl) (pss_one (ps_fld (pv 0) (pv 2) rfl)), ?_⟩
  refine ⟨_, rfl, _, rfl, a, _, dx, _, rfl, ha, T.cl_Both, T.n_Both_left, (by show 0 < 1000; decide), ?_⟩
  refine ⟨_, rfl, _, rfl, a, _, dx, _, rfl, upd_same, T.cl_Both, T.n_Both_right, (by show 1 < 1000; decide), ?_⟩
  refine q _ upd_same fun b o hb ho => ?_
  rw [upd_ne hb, upd_ne hb]
  exact ho
theorem sc_Either : FnScope ["self", "left", "right"] ["self", "left", "right"] (defScope s_Either_init) := ⟨rfl, rfl, rfl, by decide +kernel, rfl, by decide +kernel, by decide +kernel⟩
theorem ok_Either (T : Tx K mg) : Ok P w K mg base 1 (He.ma K (He.ga K "Either") "__init__") ["self", "left", "right"] (spI K "Either" ["left", "right"]) := by
  obtain ⟨fd, F⟩ := T.f_Either_init
  refine ⟨fd, F.ok sc_Either (fun vs H Q E h => ?_) (fun cdv A outer s H vs Q E hr h => ?_), F.bindsN fun _ _ _ _ _ _ us hl => match us, hl with | [_, _, _], _ => rfl, F.kp⟩
  · obtain ⟨a, dx, ws, rfl, hl, _⟩ := h
    exact congrArg Nat.succ hl
  obtain ⟨a, dx, ws, rfl, hl, ha, q⟩ := h
  obtain ⟨v1, v2, rfl⟩ : ∃ v1 v2, ws = [v1, v2] := match ws, hl with | [v1, v2], _ => ⟨v1, v2, rfl⟩
  refine ⟨_, pss_cons (ps_fld (pv 0) (pv 1) rfl) (pss_one (ps_fld (pv 0) (pv 2) rfl)), ?_⟩
  refine ⟨_, rfl, _, rfl, a, _, dx, _, rfl, ha, T.cl_Either, T.n_Either_left, (by show 0 < 1000; decide), ?_⟩
  refine ⟨_, rfl, _, rfl, a, _, dx, _, rfl, upd_same, T.cl_Either, T.n_Either_right, (by show 1 < 1000; decide), ?_⟩
  refine q _ upd_same fun b o hb ho => ?_
  rw [upd_ne hb, upd_ne hb]
  exact ho
theorem sc_Number : FnScope ["self", "name", "low", "high", "where"] ["self", "name", "low", "high", "where"] (defScope s_Number_init) := ⟨rfl, rfl, rfl, by decide +kernel, rfl, by decide +kernel, by decide +kernel⟩
theorem ok_Number (T : Tx K mg) {fd : FuncData} (F : FunD K "__init__" "Number.__init__" (defArgs s_Number_init) (defBody s_Number_init) (defScope s_Number_init) [] [("where", V.non)] (He.ma K (He.ga K "Number") "__init__") fd) : FnOk P w K mg base (L2.CX P w) 1 (He.ma K (He.ga K "Number") "__init__") fd ["self", "name", "low", "high", "where"] (spI K "Number" ["name", "low", "high", "where"]) := by
  refine F.ok sc_Number (fun vs H Q E h => ?_) (fun cdv A outer s H vs Q E hr h => ?_)
  · obtain ⟨a, dx, ws, rfl, hl, _⟩ := h
    exact congrArg Nat.succ hl
  obtain ⟨a, dx, ws, rfl, hl, ha, q⟩ := h
  obtain ⟨v1, v2, v3, v4, rfl⟩ : ∃ v1 v2 v3 v4, ws = [v1, v2, v3, v4] := match ws, hl with | [v1, v2, v3, v4], _ => ⟨v1, v2, v3, v4, rfl⟩
  refine ⟨_, pss_cons (ps_fld (pv 0) (pv 1) rfl) (pss_cons (ps_fld (pv 0) (pv 2) rfl) (pss_cons (ps_fld (pv 0) (pv 3) rfl) (pss_one (ps_fld (pv 0) (pv 4) rfl)))), ?_⟩
  refine ⟨_, rfl, _, rfl, a, _, dx, _, rfl, ha, T.cl_Number, T.n_Number_name, (by show 0 < 1000; decide), ?_⟩
  refine ⟨_, rfl, _, rfl, a, _, dx, _, rfl, upd_same, T.cl_Number, T.n_Number_low, (by show 1 < 1000; decide), ?_⟩
  refine ⟨_, rfl, _, rfl, a, _, dx, _, rfl, upd_same, T.cl_Number, T.n_Number_high, (by show 2 < 1000; decide), ?_⟩
  refine ⟨_, rfl, _, rfl, a, _, dx, _, rfl, upd_same, T.cl_Number, T.n_Number_where, (by show 3 < 1000; decide), ?_⟩
  refine q _ upd_same fun b o hb ho => ?_
  rw [upd_ne hb, upd_ne hb, upd_ne hb, upd_ne hb]
  exact ho
theorem sc_Check : FnScope ["self", "name", "must", "where"] ["self", "name", "must", "where"] (defScope s_Check_init) := ⟨rfl, rfl, rfl, by decide +kernel, rfl, by decide +kernel, by decide +kernel⟩
theorem ok_Check (T : Tx K mg) {fd : FuncData} (F : FunD K "__init__" "Check.__init__" (defArgs s_Check_init) (defBody s_Check_init) (defScope s_Check_init) [] [("where", V.non)] (He.ma K (He.ga K "Check") "__init__") fd) : FnOk P w K mg base (L2.CX P w) 1 (He.ma K (He.ga K "Check") "__init__") fd ["self", "name", "must", "where"] (spI K "Check" ["name", "must", "where"]) := by
  refine F.ok sc_Check (fun vs H Q E h => ?_) (fun cdv A outer s H vs Q E hr h => ?_)
  · obtain ⟨a, dx, ws, rfl, hl, _⟩ := h
    exact congrArg Nat.succ hl
  obtain ⟨a, dx, ws, rfl, hl, ha, q⟩ := h
  obtain ⟨v1, v2, v3, rfl⟩ : ∃ v1 v2 v3, ws = [v1, v2, v3] := match ws, hl with | [v1, v2, v3], _ => ⟨v1, v2, v3, rfl⟩
  refine ⟨_, pss_cons (ps_fld (pv 0) (pv 1) rfl) (pss_cons (ps_fld (pv 0) (pv 2) rfl) (pss_one (ps_fld (pv 0) (pv 3) rfl))), ?_⟩
  refine ⟨_, rfl, _, rfl, a, _, dx, _, rfl, ha, T.cl_Check, T.n_Check_name, (by show 0 < 1000; decide), ?_⟩
  refine ⟨_, rfl, _, rfl, a, _, dx, _, rfl, upd_same, T.cl_Check, T.n_Check_must, (by show 1 < 1000; decide), ?_⟩
  refine ⟨_, rfl, _, rfl, a, _, dx, _, rfl, upd_same, T.cl_Check, T.n_Check_where, (by show 2 < 1000; decide), ?_⟩
  refine q _ upd_same fun b o hb ho => ?_
  rw [upd_ne hb, upd_ne hb, upd_ne hb]
  exact ho
theorem sc_One : FnScope ["self", "name", "options", "where"] ["self", "name", "options", "where"] (defScope s_One_init) := ⟨rfl, rfl, rfl, by decide +kernel, rfl, by decide +kernel, by decide +kernel⟩
theorem ok_One (T : Tx K mg) {fd : FuncData} (F : FunD K "__init__" "One.__init__" (defArgs s_One_init) (defBody s_One_init) (defScope s_One_init) [] [("where", V.non)] (He.ma K (He.ga K "One") "__init__") fd) : FnOk P w K mg base (L2.CX P w) 1 (He.ma K (He.ga K "One") "__init__") fd ["self", "name", "options", "where"] (spIT K "One" "name" "options" "where") := by
  refine F.ok sc_One (fun vs H Q E h => ?_) (fun cdv A outer s H vs Q E hr h => ?_)
  · obtain ⟨a, dx, l, v1, v3, xs, rfl, _⟩ := h
    rfl
  obtain ⟨a, dx, l, v1, v3, xs, rfl, hl, ha, q⟩ := h
  refine ⟨_, pss_cons (ps_fld (pv 0) (pv 1) rfl) (pss_cons (ps_fld (pv 0) (pe_callTy call_tuple_of (by rfl) T.z_tuple (by decide +kernel) (pa_cons (pv 2) pa_nil)) rfl) (pss_one (ps_fld (pv 0) (pv 3) rfl))), ?_⟩
  refine ⟨_, rfl, _, rfl, a, _, dx, _, rfl, ha, T.cl_One, T.n_One_name, (by show 0 < 1000; decide), ?_⟩
  have fin : ∀ t H1, H1 a = some (.ins (He.ga K "One") dx [("name", v1)]) → SqT K H1 t xs → (∀ b o, b ≠ a → H b = some o → H1 b = some o) → (tSeq (sFld K (tVar 0) (tC (.ref t)) "options") (sFld K (tVar 0) (tVar 3) "where")) { nx := fun _ H' => Q .non H', rt := Q } (L2.start ["self", "name", "options", "where"] [.ref a, v1, .ref l, v3]) H1 := fun t H1 h1 ht hk => by
    refine ⟨_, rfl, a, _, dx, _, rfl, h1, T.cl_One, T.n_One_options, (by show 1 < 1000; decide), ?_⟩
    refine ⟨_, rfl, _, rfl, a, _, dx, _, rfl, upd_same, T.cl_One, T.n_One_where, (by show 2 < 1000; decide), ?_⟩
    refine q t _ upd_same (SqT.far upd_same (SqT.far h1 ht)) fun b o hb ho => ?_
    rw [upd_ne hb, upd_ne hb]
    exact hk b o hb ho
  rcases hl with hl | hl
  · refine ⟨_, rfl, l, xs, rfl, .inl ⟨SqL.far ha hl, fun t ht => ?_⟩⟩
    refine fin t _ (by rw [upd_ne (ne_of_none upd_same ht)]; exact upd_same) (SqT.of upd_same) fun b o hb ho => ?_
    rw [upd_ne (fun z => by rw [← z, upd_ne hb, ho] at ht; cases ht), upd_ne hb]
    exact ho
  · refine ⟨_, rfl, l, xs, rfl, .inr ⟨SqT.far ha hl, ?_⟩⟩
    refine fin l _ upd_same (SqT.far ha hl) fun b o hb ho => ?_
    rw [upd_ne hb]
    exact ho
theorem sc_Some : FnScope ["self", "name", "options", "where"] ["self", "name", "options", "where"] (defScope s_Some_init) := ⟨rfl, rfl, rfl, by decide +kernel, rfl, by decide +kernel, by decide +kernel⟩
theorem ok_Some (T : Tx K mg) {fd : FuncData} (F : FunD K "__init__" "Some.__init__" (defArgs s_Some_init) (defBody s_Some_init) (defScope s_Some_init) [] [("where", V.non)] (He.ma K (He.ga K "Some") "__init__") fd) : FnOk P w K mg base (L2.CX P w) 1 (He.ma K (He.ga K "Some") "__init__") fd ["self", "name", "options", "where"] (spIT K "Some" "name" "options" "where") := by
  refine F.ok sc_Some (fun vs H Q E h => ?_) (fun cdv A outer s H vs Q E hr h => ?_)
  · obtain ⟨a, dx, l, v1, v3, xs, rfl, _⟩ := h
    rfl
  obtain ⟨a, dx, l, v1, v3, xs, rfl, hl, ha, q⟩ := h
  refine ⟨_, pss_cons (ps_fld (pv 0) (pv 1) rfl) (pss_cons (ps_fld (pv 0) (pe_callTy call_tuple_of (by rfl) T.z_tuple (by decide +kernel) (pa_cons (pv 2) pa_nil)) rfl) (pss_one (ps_fld (pv 0) (pv 3) rfl))), ?_⟩
  refine ⟨_, rfl, _, rfl, a, _, dx, _, rfl, ha, T.cl_Some, T.n_Some_name, (by show 0 < 1000; decide), ?_⟩
  have fin : ∀ t H1, H1 a = some (.ins (He.ga K "Some") dx [("name", v1)]) → SqT K H1 t xs → (∀ b o, b ≠ a → H b = some o → H1 b = some o) → (tSeq (sFld K (tVar 0) (tC (.ref t)) "options") (sFld K (tVar 0) (tVar 3) "where")) { nx := fun _ H' => Q .non H', rt := Q } (L2.start ["self", "name", "options", "where"] [.ref a, v1, .ref l, v3]) H1 := fun t H1 h1 ht hk => by
    refine ⟨_, rfl, a, _, dx, _, rfl, h1, T.cl_Some, T.n_Some_options, (by show 1 < 1000; decide), ?_⟩
    refine ⟨_, rfl, _, rfl, a, _, dx, _, rfl, upd_same, T.cl_Some, T.n_Some_where, (by show 2 < 1000; decide), ?_⟩
    refine q t _ upd_same (SqT.far upd_same (SqT.far h1 ht)) fun b o hb ho => ?_
    rw [upd_ne hb, upd_ne hb]
    exact hk b o hb ho
  rcases hl with hl | hl
  · refine ⟨_, rfl, l, xs, rfl, .inl ⟨SqL.far ha hl, fun t ht => ?_⟩⟩
    refine fin t _ (by rw [upd_ne (ne_of_none upd_same ht)]; exact upd_same) (SqT.of upd_same) fun b o hb ho => ?_
    rw [upd_ne (fun z => by rw [← z, upd_ne hb, ho] at ht; cases ht), upd_ne hb]
    exact ho
  · refine ⟨_, rfl, l, xs, rfl, .inr ⟨SqT.far ha hl, ?_⟩⟩
    refine fin l _ upd_same (SqT.far ha hl) fun b o hb ho => ?_
    rw [upd_ne hb]
    exact ho
theorem sc_Rounds : FnScope ["self", "count", "rows", "where"] ["self", "count", "rows", "where"] (defScope s_Rounds_init) := ⟨rfl, rfl, rfl, by decide +kernel, rfl, by decide +kernel, by decide +kernel⟩
theorem ok_Rounds (T : Tx K mg) {fd : FuncData} (F : FunD K "__init__" "Rounds.__init__" (defArgs s_Rounds_init) (defBody s_Rounds_init) (defScope s_Rounds_init) [] [("where", V.non)] (He.ma K (He.ga K "Rounds") "__init__") fd) : FnOk P w K mg base (L2.CX P w) 1 (He.ma K (He.ga K "Rounds") "__init__") fd ["self", "count", "rows", "where"] (spIT K "Rounds" "count" "rows" "where") := by
  refine F.ok sc_Rounds (fun vs H Q E h => ?_) (fun cdv A outer s H vs Q E hr h => ?_)
  · obtain ⟨a, dx, l, v1, v3, xs, rfl, _⟩ := h
    rfl
  obtain ⟨a, dx, l, v1, v3, xs, rfl, hl, ha, q⟩ := h
  refine ⟨_, pss_cons (ps_fld (pv 0) (pv 1) rfl) (pss_cons (ps_fld (pv 0) (pe_callTy call_tuple_of (by rfl) T.z_tuple (by decide +kernel) (pa_cons (pv 2) pa_nil)) rfl) (pss_one (ps_fld (pv 0) (pv 3) rfl))), ?_⟩
  refine ⟨_, rfl, _, rfl, a, _, dx, _, rfl, ha, T.cl_Rounds, T.n_Rounds_count, (by show 0 < 1000; decide), ?_⟩
  have fin : ∀ t H1, H1 a = some (.ins (He.ga K "Rounds") dx [("count", v1)]) → SqT K H1 t xs → (∀ b o, b ≠ a → H b = some o → H1 b = some o) → (tSeq (sFld K (tVar 0) (tC (.ref t)) "rows") (sFld K (tVar 0) (tVar 3) "where")) { nx := fun _ H' => Q .non H', rt := Q } (L2.start ["self", "count", "rows", "where"] [.ref a, v1, .ref l, v3]) H1 := fun t H1 h1 ht hk => by
    refine ⟨_, rfl, a, _, dx, _, rfl, h1, T.cl_Rounds, T.n_Rounds_rows, (by show 1 < 1000; decide), ?_⟩
    refine ⟨_, rfl, _, rfl, a, _, dx, _, rfl, upd_same, T.cl_Rounds, T.n_Rounds_where, (by show 2 < 1000; decide), ?_⟩
    refine q t _ upd_same (SqT.far upd_same (SqT.far h1 ht)) fun b o hb ho => ?_
    rw [upd_ne hb, upd_ne hb]
    exact hk b o hb ho
  rcases hl with hl | hl
  · refine ⟨_, rfl, l, xs, rfl, .inl ⟨SqL.far ha hl, fun t ht => ?_⟩⟩
    refine fin t _ (by rw [upd_ne (ne_of_none upd_same ht)]; exact upd_same) (SqT.of upd_same) fun b o hb ho => ?_
    rw [upd_ne (fun z => by rw [← z, upd_ne hb, ho] at ht; cases ht), upd_ne hb]
    exact ho
  · refine ⟨_, rfl, l, xs, rfl, .inr ⟨SqT.far ha hl, ?_⟩⟩
    refine fin l _ upd_same (SqT.far ha hl) fun b o hb ho => ?_
    rw [upd_ne hb]
    exact ho
theorem sc_Section : FnScope ["self", "rows", "where"] ["self", "rows", "where"] (defScope s_Section_init) := ⟨rfl, rfl, rfl, by decide +kernel, rfl, by decide +kernel, by decide +kernel⟩
theorem ok_Section (T : Tx K mg) {fd : FuncData} (F : FunD K "__init__" "Section.__init__" (defArgs s_Section_init) (defBody s_Section_init) (defScope s_Section_init) [] [("where", V.non)] (He.ma K (He.ga K "Section") "__init__") fd) : FnOk P w K mg base (L2.CX P w) 1 (He.ma K (He.ga K "Section") "__init__") fd ["self", "rows", "where"] (spIS K) := by
  refine F.ok sc_Section (fun vs H Q E h => ?_) (fun cdv A outer s H vs Q E hr h => ?_)
  · obtain ⟨a, dx, l, v3, xs, rfl, _⟩ := h
    rfl
  obtain ⟨a, dx, l, v3, xs, rfl, hl, ha, q⟩ := h
  refine ⟨_, pss_cons (ps_fld (pv 0) (pe_callTy call_tuple_of (by rfl) T.z_tuple (by decide +kernel) (pa_cons (pv 1) pa_nil)) rfl) (pss_one (ps_fld (pv 0) (pv 2) rfl)), ?_⟩
  have fin : ∀ t H1, H1 a = some (.ins (He.ga K "Section") dx []) → SqT K H1 t xs → (∀ b o, b ≠ a → H b = some o → H1 b = some o) → (tSeq (sFld K (tVar 0) (tC (.ref t)) "rows") (sFld K (tVar 0) (tVar 2) "where")) { nx := fun _ H' => Q .non H', rt := Q } (L2.start ["self", "rows", "where"] [.ref a, .ref l, v3]) H1 := fun t H1 h1 ht hk => by
    refine ⟨_, rfl, a, _, dx, _, rfl, h1, T.cl_Section, T.n_Section_rows, (by show 0 < 1000; decide), ?_⟩
    refine ⟨_, rfl, _, rfl, a, _, dx, _, rfl, upd_same, T.cl_Section, T.n_Section_where, (by show 1 < 1000; decide), ?_⟩
    refine q t _ upd_same (SqT.far upd_same (SqT.far h1 ht)) fun b o hb ho => ?_
    rw [upd_ne hb, upd_ne hb]
    exact hk b o hb ho
  rcases hl with hl | hl
  · refine ⟨_, rfl, l, xs, rfl, .inl ⟨hl, fun t ht => ?_⟩⟩
    refine fin t _ (by rw [upd_ne (ne_of_none ha ht)]; exact ha) (SqT.of upd_same) fun b o hb ho => ?_
    rw [upd_ne (ne_of_none ho ht)]
    exact ho
  · refine ⟨_, rfl, l, xs, rfl, .inr ⟨hl, ?_⟩⟩
    exact fin l _ ha hl fun b o hb ho => ho
end
end K3
end P4_part
section P5_part
set_option Elab.async false
set_option linter.all false
set_option maxRecDepth 100000
set_option maxHeartbeats 1000000
set_option pp.deepTerms true
open PySem PySem.Spec PyProof.Rows L2
/-- go on as far as nothing is open -/
local macro_rules | `(tactic| walk_at "go") => `(tactic| repeat (first
  | with_reducible refine w_seq ?_ | with_reducible refine w_next ?_ | with_reducible refine w_set ?_ | with_reducible refine w_drop ?_ | with_reducible refine w_ret ?_ | with_reducible refine w_retN ?_
  | with_reducible refine w_if ?_ | ((with_reducible refine' w_var ?hv ?_); (case hv => exact rfl)) | with_reducible refine w_c ?_ | with_reducible refine w_nil ?_ | with_reducible refine w_cons ?_ | with_reducible refine w_op ?_ | with_reducible refine w_un ?_
  | with_reducible refine w_test ?_ | with_reducible refine w_tB ?_ | with_reducible refine w_not ?_ | with_reducible refine w_and ?_ | with_reducible refine w_or ?_ | with_reducible refine w_bl ?_
  | with_reducible refine w_andV ?_ | with_reducible refine w_orV ?_ | with_reducible refine w_notV ?_ | with_reducible refine w_ifE ?_ | with_reducible refine w_chain ?_ | with_reducible refine w_i0 ?_
  | with_reducible refine w_call ?_ | with_reducible refine w_callS ?_ | with_reducible refine w_cB ?_ | with_reducible refine w_tup ?_ | with_reducible refine w_lst ?_ | with_reducible refine w_fldV ?_
  | with_reducible refine w_neF ?_ | with_reducible refine w_neT ?_ | with_reducible refine w_notN ?_ | with_reducible refine w_isN ?_ | with_reducible refine w_gname ?_ | with_reducible refine w_gsub ?_ | with_reducible refine w_asg ?_ | with_reducible refine w_yes ?_ | with_reducible refine w_nT ?_ | with_reducible refine w_nF ?_ | with_reducible refine w_iteT ?_ | with_reducible refine w_iteF ?_))
namespace K3
/-! ### conditions laid out -/
def Cd.simp : Cd → List Cd
  | .no c => c.simp
  | .both c d => c.simp ++ d.simp
  | .either c d => c.simp ++ d.simp
  | c => [c]
def Cd.dep : Cd → Nat
  | .no c => c.dep + 1
  | .both c d => max c.dep d.dep + 1
  | .either c d => max c.dep d.dep + 1
  | _ => 0
/-- a new list of objects of these conditions -/
def RetC (K : PySem.W.Frag) (cs : List Cd) (H : Hp) (Q : VK) : Prop := ∀ p H' xs, H p = none → Same H H' → H' p = some (.lst xs) → Paired (CO K H') xs cs → Q (.ref p) H'
def spSimp (K : PySem.W.Frag) (n : Nat) : Sp := fun vs H Q _ => ∃ (v : V) (c : Cd), vs = [v] ∧ CO K H v c ∧ c.dep < n ∧ c.simp.length ≤ 1000 ∧ RetC K c.simp H Q
theorem Paired.same {K : PySem.W.Frag} {H H' : Hp} (e : Same H H') {xs : List V} {cs : List Cd} (h : Paired (CO K H) xs cs) : Paired (CO K H') xs cs := L2.Paired.mapP h fun _ _ q => q.same e
section
variable {P : Program} {w : World} {K : PySem.W.Frag} {mg : Str → Option Value} {base : Heap}
theorem ok_none {f : Addr} {fd : FuncData} {ps : List Str} {sp : Sp} (no : ∀ vs H Q E, ¬ sp vs H Q E) : FnOk P w K mg base (L2.CX P w) 0 f fd ps sp :=
  ⟨fun vs H Q E h => absurd h (no vs H Q E), fun A outer s H args us vs Q E _ _ _ _ h => absurd h (no vs H Q E)⟩
theorem sc_simple_ones : FnScope ["condition"] ["condition"] (defScope s_simple_ones) := ⟨rfl, rfl, rfl, by decide +kernel, rfl, by decide +kernel, by decide +kernel⟩
theorem ok_simple_ones (T : Tx K mg) : ∀ n, Ok P w K mg base n (He.ga K "simple_ones") ["condition"] (spSimp K n) := by
  obtain ⟨fd, F⟩ := T.f_simple_ones
  have b : Binds K fd ["condition"] [] := F.bindsN fun _ _ _ _ _ _ us hl => match us, hl with | [_], _ => rfl
  intro n
  induction n with
  | zero =>
    refine ⟨fd, ok_none fun vs H Q E h => ?_, b, F.kp⟩
    obtain ⟨v, c, _, _, h, _⟩ := h
    omega
  | succ n ih =>
    refine ⟨fd, F.ok sc_simple_ones (fun vs H Q E h => ?_) (fun cdv A outer s H vs Q E hr h => ?_), b, F.kp⟩
    · obtain ⟨v, c, rfl, _⟩ := h
      rfl
    obtain ⟨v, c, rfl, hc, hd, hl, q⟩ := h
    refine ⟨_, pss_cons (ps_if (pt_val (pe_callB call_isi (by rfl) T.z_isinstance (by decide +kernel) (pa_cons (pv 0) (pa_cons (pe_gref T.g_Not) pa_nil)))) (pss_one (ps_ret (pe_f ih hr T.g_simple_ones (pa_cons (pe_fld (pv 0) rfl) pa_nil)))) pss_nil)
      (pss_cons (ps_if (pt_val (pe_callB call_isiT (by rfl) T.z_isinstance (by decide +kernel) (pa_cons (pv 0) (pa_cons (pe_tup (pa_cons (pe_gref T.g_Both) (pa_cons (pe_gref T.g_Either) pa_nil))) pa_nil))))
          (pss_one (ps_ret (pe_op op_cat (pe_f ih hr T.g_simple_ones (pa_cons (pe_fld (pv 0) rfl) pa_nil)) (pe_f ih hr T.g_simple_ones (pa_cons (pe_fld (pv 0) rfl) pa_nil))))) pss_nil)
        (pss_one (ps_ret (pe_lst (pa_cons (pv 0) pa_nil))))), ?_⟩
    walk_at "go"
    refine isiC T hc (y := "Not") (by decide) ?_
    walk_at "go"
    have two : ∀ (x : Str) (a : Addr) (l r : V) (c1 c2 : Cd), c.simp = c1.simp ++ c2.simp → c.dep = max c1.dep c2.dep + 1 → v = .ref a → Ins K H a x [("left", l), ("right", r)] → Cls K (He.ga K x) → NoAttr K (He.ga K x) "left" → NoAttr K (He.ga K x) "right" → CO K H l c1 → CO K H r c2 →
        ∀ (p : Addr) (H1 : Hp), Same H H1 → tRet (tOp rCat (tCall (spSimp K n) [] E0 (tCons (tFld K (tVar 0) "left") tNil)) (tCall (spSimp K n) [] E0 (tCons (tFld K (tVar 0) "right") tNil))) { nx := fun _ H' => Q .non H', rt := Q } (L2.start ["condition"] [v]) H1 := by
      intro x a l r c1 c2 es ed ev hi hcl hn1 hn2 h1 h2 p H1 e1
      subst ev
      have hi1 := hi.same e1
      obtain ⟨dx, hi1⟩ := hi1
      have hl1 : c1.simp.length + c2.simp.length ≤ 1000 := by rw [es, List.length_append] at hl; exact hl
      walk_at "go"
      refine ⟨a, _, dx, _, l, rfl, hi1, hcl, hn1, rfl, ?_⟩
      walk_at "go"
      refine ⟨l, c1, rfl, h1.same e1, by omega, by omega, fun p1 H2 xs1 _ e2 hp1 q1 => ?_⟩
      walk_at "go"
      refine ⟨a, _, dx, _, r, rfl, e2 _ _ hi1, hcl, hn2, rfl, ?_⟩
      walk_at "go"
      refine ⟨r, c2, rfl, (h2.same e1).same e2, by omega, by omega, fun p2 H3 xs2 _ e3 hp2 q2 => ?_⟩
      have g1 := q1.length
      have g2 := q2.length
      refine ⟨p1, p2, xs1, xs2, rfl, rfl, e3 _ _ hp1, hp2, Nat.le_trans (show xs1.length + xs2.length ≤ 1000 by omega) (by decide), fun p3 hp3 => ?_⟩
      have e4 : Same H1 (upd H3 p3 (.lst (xs1 ++ xs2))) := (e2.trans e3).trans (Same.new hp3 _)
      refine q p3 _ _ ((e1.trans (e2.trans e3)).free hp3) (e1.trans e4) upd_same ?_
      rw [es]
      exact K3.Paired.app (K3.Paired.same (e3.trans (Same.new hp3 _)) q1) (K3.Paired.same (Same.new hp3 _) q2)
    have one : c.simp = [c] → tRet (tLst (tCons (tVar 0) tNil)) { nx := fun _ H' => Q .non H', rt := Q } (L2.start ["condition"] [v]) = tRet (tLst (tCons (tVar 0) tNil)) { nx := fun _ H' => Q .non H', rt := Q } (L2.start ["condition"] [v]) ∧
        ∀ H1, Same H H1 → tRet (tLst (tCons (tVar 0) tNil)) { nx := fun _ H' => Q .non H', rt := Q } (L2.start ["condition"] [v]) H1 := fun es => ⟨rfl, fun H1 e1 => by
      walk_at "go"
      refine ⟨(by show 1 ≤ sizeLine; decide), fun p hp => ?_⟩
      refine q p _ [v] (e1.free hp) (e1.trans (Same.new hp _)) upd_same ?_
      rw [es]
      exact .cons (hc.same (e1.trans (Same.new hp _))) .nil⟩
    cases hc with
    | @no a u c' h1 h2 =>
      show if true = true then _ else _
      walk_at "go"
      obtain ⟨dx, h1⟩ := h1
      refine ⟨a, _, dx, _, u, rfl, h1, T.cl_Not, T.n_Not_inner, rfl, ?_⟩
      walk_at "go"
      exact ⟨u, c', rfl, h2, (by have : c'.dep + 1 < n + 1 := hd; omega), hl, q⟩
    | @both a l r c1 c2 h1 h2 h3 =>
      show if false = true then _ else _
      walk_at "go"
      refine ⟨(by show 2 ≤ sizeLine; decide), fun p hp => ?_⟩
      walk_at "go"
      refine isiC2 T (y := "Both") (z := "Either") (c := .both c1 c2) (CO.same (Same.new hp _) (.both h1 h2 h3)) upd_same (by decide) (by decide) ?_
      walk_at "go"
      show if true = true then _ else _
      refine w_iteT ?_
      exact two "Both" a l r c1 c2 rfl rfl rfl h1 T.cl_Both T.n_Both_left T.n_Both_right h2 h3 p _ (Same.new hp _)
    | @either a l r c1 c2 h1 h2 h3 =>
      show if false = true then _ else _
      walk_at "go"
      refine ⟨(by show 2 ≤ sizeLine; decide), fun p hp => ?_⟩
      walk_at "go"
      refine isiC2 T (y := "Both") (z := "Either") (c := .either c1 c2) (CO.same (Same.new hp _) (.either h1 h2 h3)) upd_same (by decide) (by decide) ?_
      walk_at "go"
      show if true = true then _ else _
      refine w_iteT ?_
      exact two "Either" a l r c1 c2 rfl rfl rfl h1 T.cl_Either T.n_Either_left T.n_Either_right h2 h3 p _ (Same.new hp _)
    | @is a x y h1 =>
      show if false = true then _ else _
      walk_at "go"
      refine ⟨(by show 2 ≤ sizeLine; decide), fun p hp => ?_⟩
      walk_at "go"
      refine isiC2 T (y := "Both") (z := "Either") (CO.same (Same.new hp _) (.is h1)) upd_same (by decide) (by decide) ?_
      walk_at "go"
      show if false = true then _ else _
      refine w_iteF ?_
      exact (one rfl).2 _ (Same.new hp _)
    | @has a x y h1 =>
      show if false = true then _ else _
      walk_at "go"
      refine ⟨(by show 2 ≤ sizeLine; decide), fun p hp => ?_⟩
      walk_at "go"
      refine isiC2 T (y := "Both") (z := "Either") (CO.same (Same.new hp _) (.has h1)) upd_same (by decide) (by decide) ?_
      walk_at "go"
      show if false = true then _ else _
      refine w_iteF ?_
      exact (one rfl).2 _ (Same.new hp _)
    | @over a x y h1 =>
      show if false = true then _ else _
      walk_at "go"
      refine ⟨(by show 2 ≤ sizeLine; decide), fun p hp => ?_⟩
      walk_at "go"
      refine isiC2 T (y := "Both") (z := "Either") (CO.same (Same.new hp _) (.over h1)) upd_same (by decide) (by decide) ?_
      walk_at "go"
      show if false = true then _ else _
      refine w_iteF ?_
      exact (one rfl).2 _ (Same.new hp _)
    | @under a x y h1 =>
      show if false = true then _ else _
      walk_at "go"
      refine ⟨(by show 2 ≤ sizeLine; decide), fun p hp => ?_⟩
      walk_at "go"
      refine isiC2 T (y := "Both") (z := "Either") (CO.same (Same.new hp _) (.under h1)) upd_same (by decide) (by decide) ?_
      walk_at "go"
      show if false = true then _ else _
      refine w_iteF ?_
      exact (one rfl).2 _ (Same.new hp _)
end
end K3
end P5_part
section P6_part
set_option Elab.async false
set_option linter.all false
set_option maxRecDepth 100000
set_option maxHeartbeats 1000000
set_option pp.deepTerms true
open PySem PySem.Spec PyProof.Rows L2
/-- go on as far as nothing is open -/
local macro_rules | `(tactic| walk_at "go") => `(tactic| repeat (first
  | with_reducible refine w_seq ?_ | with_reducible refine w_next ?_ | with_reducible refine w_set ?_ | with_reducible refine w_drop ?_ | with_reducible refine w_ret ?_ | with_reducible refine w_retN ?_
  | with_reducible refine w_if ?_ | ((with_reducible refine' w_var ?hv ?_); (case hv => exact rfl)) | with_reducible refine w_c ?_ | with_reducible refine w_nil ?_ | with_reducible refine w_cons ?_ | with_reducible refine w_op ?_ | with_reducible refine w_un ?_
  | with_reducible refine w_test ?_ | with_reducible refine w_tB ?_ | with_reducible refine w_not ?_ | with_reducible refine w_and ?_ | with_reducible refine w_or ?_ | with_reducible refine w_bl ?_
  | with_reducible refine w_andV ?_ | with_reducible refine w_orV ?_ | with_reducible refine w_notV ?_ | with_reducible refine w_ifE ?_ | with_reducible refine w_chain ?_ | with_reducible refine w_i0 ?_
  | with_reducible refine w_call ?_ | with_reducible refine w_callS ?_ | with_reducible refine w_cB ?_ | with_reducible refine w_tup ?_ | with_reducible refine w_lst ?_ | with_reducible refine w_fldV ?_
  | with_reducible refine w_neF ?_ | with_reducible refine w_neT ?_ | with_reducible refine w_notN ?_ | with_reducible refine w_isN ?_ | with_reducible refine w_gname ?_ | with_reducible refine w_gsub ?_ | with_reducible refine w_asg ?_ | with_reducible refine w_yes ?_ | with_reducible refine w_nT ?_ | with_reducible refine w_nF ?_ | with_reducible refine w_iteT ?_ | with_reducible refine w_iteF ?_))
namespace K3
def Rw.isQ : Rw → Bool
  | .one _ _ _ => true | .some _ _ _ => true | .number _ _ _ _ => true | _ => false
def Rw.isN : Rw → Bool
  | .sect _ _ => false | .rounds _ _ _ => false | _ => true
def Rw.wh : Rw → Option Cd
  | .one _ _ w => w | .some _ _ w => w | .number _ _ _ w => w | .check _ _ w => w | .sect _ w => w | .rounds _ _ w => w
def owh : Option Cd → List Cd
  | none => []
  | some c => c.simp
def Rw.mu : Rw → List Cd
  | .check _ m _ => m.simp
  | _ => []
def Rw.conds (r : Rw) : List Cd := owh r.wh ++ r.mu
def odep : Option Cd → Nat
  | none => 0
  | some c => c.dep
def Rw.cdep : Rw → Nat
  | .check _ m w => max m.dep (odep w)
  | r => odep r.wh
theorem CO.ref {K : PySem.W.Frag} {H : Hp} {v : V} {c : Cd} (h : CO K H v c) : ∃ a, v = .ref a := by cases h <;> exact ⟨_, rfl⟩
theorem RO.ref {K : PySem.W.Frag} {H : Hp} {v : V} {r : Rw} (h : RO K H v r) : ∃ a, v = .ref a := by cases h <;> exact ⟨_, rfl⟩
def spRB (K : PySem.W.Frag) (f : Rw → Bool) : Sp := fun vs H Q _ => ∃ (v : V) (r : Rw), vs = [v] ∧ RO K H v r ∧ ∀ H', Same H H' → Q (.bl (f r)) H'
def spConds (K : PySem.W.Frag) (n : Nat) : Sp := fun vs H Q _ => ∃ (v : V) (r : Rw), vs = [v] ∧ RO K H v r ∧ r.cdep < n ∧ (owh r.wh).length ≤ 1000 ∧ r.mu.length ≤ 1000 ∧ RetC K r.conds H Q
section
variable {P : Program} {w : World} {K : PySem.W.Frag} {mg : Str → Option Value} {base : Heap}
/-- the field where of a row -/
theorem ro_where (T : Tx K mg) {H : Hp} {v : V} {r : Rw} (h : RO K H v r) : ∃ a dx fs wv, v = .ref a ∧ H a = some (.ins (He.ga K r.nm) dx fs) ∧ Cls K (He.ga K r.nm) ∧ NoAttr K (He.ga K r.nm) "where" ∧ fs.lookup ("where" : Str) = some wv ∧ WO K H wv r.wh := by
  cases h with
  | one h _ w => obtain ⟨dx, h⟩ := h; exact ⟨_, dx, _, _, rfl, h, T.cl_One, T.n_One_where, rfl, w⟩
  | some h _ w => obtain ⟨dx, h⟩ := h; exact ⟨_, dx, _, _, rfl, h, T.cl_Some, T.n_Some_where, rfl, w⟩
  | number h w => obtain ⟨dx, h⟩ := h; exact ⟨_, dx, _, _, rfl, h, T.cl_Number, T.n_Number_where, rfl, w⟩
  | check h _ w => obtain ⟨dx, h⟩ := h; exact ⟨_, dx, _, _, rfl, h, T.cl_Check, T.n_Check_where, rfl, w⟩
  | sect h _ _ w => obtain ⟨dx, h⟩ := h; exact ⟨_, dx, _, _, rfl, h, T.cl_Section, T.n_Section_where, rfl, w⟩
  | rounds h _ _ w => obtain ⟨dx, h⟩ := h; exact ⟨_, dx, _, _, rfl, h, T.cl_Rounds, T.n_Rounds_where, rfl, w⟩
theorem sc_is_question : FnScope ["row"] ["row"] (defScope s_is_question) := ⟨rfl, rfl, rfl, by decide +kernel, rfl, by decide +kernel, by decide +kernel⟩
theorem ok_is_question (T : Tx K mg) : Ok P w K mg base 1 (He.ga K "is_question") ["row"] (spRB K Rw.isQ) := by
  obtain ⟨fd, F⟩ := T.f_is_question
  refine ⟨fd, F.ok sc_is_question (fun vs H Q E h => ?_) (fun cdv A outer s H vs Q E hr h => ?_), F.bindsN fun _ _ _ _ _ _ us hl => match us, hl with | [_], _ => rfl, F.kp⟩
  · obtain ⟨v, r, rfl, _⟩ := h
    rfl
  obtain ⟨v, r, rfl, hv, q⟩ := h
  refine ⟨_, pss_one (ps_ret (pe_callB call_isiT (by rfl) T.z_isinstance (by decide +kernel) (pa_cons (pv 0) (pa_cons (pe_tup (pa_cons (pe_gref T.g_One) (pa_cons (pe_gref T.g_Some) (pa_cons (pe_gref T.g_Number) pa_nil)))) pa_nil)))), ?_⟩
  walk_at "go"
  refine ⟨(by show 3 ≤ sizeLine; decide), fun p hp => ?_⟩
  walk_at "go"
  refine isiR3 T (y := "One") (z := "Some") (x := "Number") (hv.same (Same.new hp _)) upd_same (by decide) (by decide) (by decide) ?_
  have := q _ (Same.new hp (.tup [.ref (He.ga K "One"), .ref (He.ga K "Some"), .ref (He.ga K "Number")]))
  cases r <;> exact this
theorem sc_is_named : FnScope ["row"] ["row"] (defScope s_is_named) := ⟨rfl, rfl, rfl, by decide +kernel, rfl, by decide +kernel, by decide +kernel⟩
theorem ok_is_named (T : Tx K mg) : Ok P w K mg base 2 (He.ga K "is_named") ["row"] (spRB K Rw.isN) := by
  obtain ⟨fd, F⟩ := T.f_is_named
  refine ⟨fd, F.ok sc_is_named (fun vs H Q E h => ?_) (fun cdv A outer s H vs Q E hr h => ?_), F.bindsN fun _ _ _ _ _ _ us hl => match us, hl with | [_], _ => rfl, F.kp⟩
  · obtain ⟨v, r, rfl, _⟩ := h
    rfl
  obtain ⟨v, r, rfl, hv, q⟩ := h
  refine ⟨_, pss_one (ps_ret (pe_or (pe_f (ok_is_question T) (hr.mono (by decide)) T.g_is_question (pa_cons (pv 0) pa_nil)) (pe_one (pe_callB call_isi (by rfl) T.z_isinstance (by decide +kernel) (pa_cons (pv 0) (pa_cons (pe_gref T.g_Check) pa_nil)))))), ?_⟩
  walk_at "go"
  refine ⟨v, r, rfl, hv, fun H1 e1 => ?_⟩
  have hv1 := hv.same e1
  have q1 := q H1 e1
  cases hq : r.isQ with
  | true =>
    walk_at "go"
    cases r <;> first | exact q1 | cases hq
  | false =>
    walk_at "go"
    refine isiR T (y := "Check") hv1 (by decide) ?_
    cases r <;> first | exact q1 | cases hq
theorem sc_conditions_of : FnScope ["row", "conditions"] ["row"] (defScope s_conditions_of) := ⟨rfl, rfl, rfl, by decide +kernel, rfl, by decide +kernel, by decide +kernel⟩
theorem ok_conditions_of (T : Tx K mg) (n : Nat) : Ok P w K mg base (n + 1) (He.ga K "conditions_of") ["row"] (spConds K n) := by
  obtain ⟨fd, F⟩ := T.f_conditions_of
  refine ⟨fd, F.ok sc_conditions_of (fun vs H Q E h => ?_) (fun cdv A outer s H vs Q E hr h => ?_), F.bindsN fun _ _ _ _ _ _ us hl => match us, hl with | [_], _ => rfl, F.kp⟩
  · obtain ⟨v, r, rfl, _⟩ := h
    rfl
  obtain ⟨v, r, rfl, hv, hd, l1, l2, q⟩ := h
  refine ⟨_, pss_cons (ps_set (i := 1) sc_conditions_of.nd rfl (Or.inl rfl) (pe_lst pa_nil))
    (pss_cons (ps_if (pt_cmp (pc_notN (pe_fld (pv 0) rfl))) (pss_one (ps_expr (pe_bm PySem.F.plainAttrs_list PySem.F.slot_list_extend PySem.F.type_list_extend mt_extend (pv 1) (pa_cons (pe_f (ok_simple_ones T n) hr T.g_simple_ones (pa_cons (pe_fld (pv 0) rfl) pa_nil)) pa_nil)))) pss_nil)
    (pss_cons (ps_if (pt_val (pe_callB call_isi (by rfl) T.z_isinstance (by decide +kernel) (pa_cons (pv 0) (pa_cons (pe_gref T.g_Check) pa_nil)))) (pss_one (ps_expr (pe_bm PySem.F.plainAttrs_list PySem.F.slot_list_extend PySem.F.type_list_extend mt_extend (pv 1) (pa_cons (pe_f (ok_simple_ones T n) hr T.g_simple_ones (pa_cons (pe_fld (pv 0) rfl) pa_nil)) pa_nil)))) pss_nil)
    (pss_one (ps_ret (pv 1))))), ?_⟩
  walk_at "go"
  refine ⟨Nat.zero_le _, fun p hp => ?_⟩
  walk_at "go"
  obtain ⟨a, dx, fs, wv, rfl, hi, hcl, hn, hlk, hw⟩ := ro_where T hv
  have stp : ∀ (H1 : Hp) (xs : List V) (cs : List Cd) (u : V) (c : Cd), Same H H1 → H1 p = some (.lst xs) → Paired (CO K H1) xs cs → xs.length ≤ 1000 → CO K H1 u c → c.dep < n → c.simp.length ≤ 1000 → ∀ (G : VK), (∀ H2 ys, Same H H2 → H2 p = some (.lst (xs ++ ys)) → Paired (CO K H2) (xs ++ ys) (cs ++ c.simp) → (xs ++ ys).length ≤ 2000 → G .non H2) →
      spSimp K n ([u] ++ []) H1 (fun x H2 => tNil (L2.start ["row"] []) H2 fun ys H3 => rExtend (.ref p) (x :: ys) H3 G) E0 := by
    intro H1 xs cs u c e1 h1 hx hxl hu hdc hlc G k
    refine ⟨u, c, rfl, hu, hdc, hlc, fun p2 H2 ys hp2n e2 hp2 hys => ?_⟩
    have ly := hys.length
    have lx := hx.length
    refine ⟨p, p2, xs, ys, rfl, rfl, e2 _ _ h1, hp2, Nat.le_trans (show xs.length + ys.length ≤ 2000 by omega) (by decide), ?_⟩
    have si : SI H2 (upd H2 p (.lst (xs ++ ys))) := SI.upd (e2 _ _ h1) rfl _
    refine k _ ys ((e1.trans e2).mut hp) upd_same ?_ (by rw [List.length_append]; omega)
    exact K3.Paired.app (L2.Paired.mapP hx fun _ _ q => (q.same e2).si si) (L2.Paired.mapP hys fun _ _ q => q.si si)
  have tail : ∀ (H1 : Hp) (xs : List V), Same H H1 → H1 p = some (.lst xs) → Paired (CO K H1) xs (owh r.wh) →
      (tSeq (tIfS (tB (tCB (rIsi K) (tCons (tVar 0) (tCons (tC (.ref (He.ga K "Check"))) tNil)))) (tDrop (tBM K "list" rExtend (tVar 1) (tCons (tCall (spSimp K n) [] E0 (tCons (tFld K (tVar 0) "must") tNil)) tNil))) tNext) (tRet (tVar 1)))
        { nx := fun _ H' => Q .non H', rt := Q } [some (.ref a), some (.ref p)] H1 := by
    intro H1 xs e1 h1 hx
    have lx := hx.length
    have hv1 := hv.same e1
    walk_at "go"
    refine isiR T hv1 (y := "Check") (by decide) ?_
    walk_at "go"
    have fin : r.mu = [] → Q (.ref p) H1 := fun hm => q p H1 xs hp e1 h1 (by unfold Rw.conds; rw [hm, List.append_nil]; exact hx)
    cases hv1 with
    | check h hm hw =>
      obtain ⟨dx2, h⟩ := h
      show if true = true then _ else _
      refine w_iteT ?_
      walk_at "go"
      refine ⟨_, rfl, .inl ⟨rfl, _, SqL.of h1⟩, ?_⟩
      walk_at "go"
      refine ⟨a, _, dx2, _, _, rfl, h, T.cl_Check, T.n_Check_must, rfl, ?_⟩
      walk_at "go"
      refine stp H1 xs _ _ _ e1 h1 hx (by rw [lx]; exact l1) hm ?_ l2 _ fun H2 ys e2 h2 hp2 _ => ?_
      · exact Nat.lt_of_le_of_lt (Nat.le_max_left _ _) hd
      · walk_at "go"
        exact q p H2 _ hp e2 h2 hp2
    | _ =>
      show if false = true then _ else _
      refine w_iteF ?_
      exact ⟨_, rfl, fin rfl⟩
  refine ⟨a, _, dx, fs, wv, rfl, Same.new hp _ _ _ hi, hcl, hn, hlk, ?_⟩
  walk_at "go"
  have hdw : odep r.wh < n := by
    cases r <;> first | exact hd | exact Nat.lt_of_le_of_lt (Nat.le_max_right _ _) hd
  generalize hr' : r.wh = o at hw tail l1 hdw
  cases hw with
  | none =>
    walk_at "go"
    exact tail _ [] (Same.new hp _) upd_same .nil
  | @some _ c hc =>
    obtain ⟨a', rfl⟩ := hc.ref
    walk_at "go"
    refine ⟨_, rfl, .inl ⟨rfl, _, SqL.of upd_same⟩, ?_⟩
    walk_at "go"
    refine ⟨a, _, dx, fs, _, rfl, Same.new hp _ _ _ hi, hcl, hn, hlk, ?_⟩
    walk_at "go"
    refine stp _ [] [] _ c (Same.new hp _) upd_same .nil (Nat.zero_le _) (hc.same (Same.new hp _)) hdw l1 _ fun H2 ys e2 h2 hp2 _ => ?_
    exact tail H2 _ e2 h2 hp2
end
end K3
end P6_part
section P7_part
set_option Elab.async false
set_option linter.all false
set_option maxRecDepth 100000
set_option maxHeartbeats 1000000
set_option pp.deepTerms true
open PySem PySem.Spec PyProof.Rows L2
/-- go on as far as nothing is open -/
local macro_rules | `(tactic| walk_at "go") => `(tactic| repeat (first
  | with_reducible refine w_seq ?_ | with_reducible refine w_next ?_ | with_reducible refine w_set ?_ | with_reducible refine w_drop ?_ | with_reducible refine w_ret ?_ | with_reducible refine w_retN ?_
  | with_reducible refine w_if ?_ | ((with_reducible refine' w_var ?hv ?_); (case hv => exact rfl)) | with_reducible refine w_c ?_ | with_reducible refine w_nil ?_ | with_reducible refine w_cons ?_ | with_reducible refine w_op ?_ | with_reducible refine w_un ?_
  | with_reducible refine w_test ?_ | with_reducible refine w_tB ?_ | with_reducible refine w_not ?_ | with_reducible refine w_and ?_ | with_reducible refine w_or ?_ | with_reducible refine w_bl ?_
  | with_reducible refine w_andV ?_ | with_reducible refine w_orV ?_ | with_reducible refine w_notV ?_ | with_reducible refine w_ifE ?_ | with_reducible refine w_chain ?_ | with_reducible refine w_i0 ?_
  | with_reducible refine w_call ?_ | with_reducible refine w_callS ?_ | with_reducible refine w_cB ?_ | with_reducible refine w_tup ?_ | with_reducible refine w_lst ?_ | with_reducible refine w_fldV ?_
  | with_reducible refine w_neF ?_ | with_reducible refine w_neT ?_ | with_reducible refine w_notN ?_ | with_reducible refine w_isN ?_ | with_reducible refine w_gname ?_ | with_reducible refine w_gsub ?_ | with_reducible refine w_asg ?_ | with_reducible refine w_yes ?_ | with_reducible refine w_nT ?_ | with_reducible refine w_nF ?_ | with_reducible refine w_iteT ?_ | with_reducible refine w_iteF ?_))
namespace K3
def oV : Option Nat → V
  | none => .non
  | some n => .int (n : Int)
mutual
def Rw.cnt : Rw → Nat
  | .sect rs _ => 1 + Rws.cnt rs
  | .rounds _ rs _ => 1 + Rws.cnt rs
  | _ => 1
def Rws.cnt : List Rw → Nat
  | [] => 0
  | r :: rs => r.cnt + Rws.cnt rs
end
mutual
def Rw.dep : Rw → Nat
  | .sect rs _ => 1 + Rws.dep rs
  | .rounds _ rs _ => 1 + Rws.dep rs
  | _ => 0
def Rws.dep : List Rw → Nat
  | [] => 0
  | r :: rs => max r.dep (Rws.dep rs)
end
mutual
def Rw.flat : Rw → Option Nat → Nat → List (Rw × Option Nat)
  | .sect rs w, ar, n => (.sect rs w, ar) :: Rws.flat rs ar (n + 1)
  | .rounds c rs w, ar, n => (.rounds c rs w, ar) :: Rws.flat rs (some n) (n + 1)
  | .one n os w, ar, _ => [(.one n os w, ar)]
  | .some n os w, ar, _ => [(.some n os w, ar)]
  | .number n l h w, ar, _ => [(.number n l h w, ar)]
  | .check n m w, ar, _ => [(.check n m w, ar)]
def Rws.flat : List Rw → Option Nat → Nat → List (Rw × Option Nat)
  | [], _, _ => []
  | r :: rs, ar, n => r.flat ar n ++ Rws.flat rs ar (n + r.cnt)
end
mutual
theorem Rw.flat_len : ∀ (r : Rw) (ar : Option Nat) (n : Nat), (r.flat ar n).length = r.cnt
  | .sect rs w, ar, n => by unfold Rw.flat Rw.cnt; rw [List.length_cons, Rws.flat_len rs]; omega
  | .rounds c rs w, ar, n => by unfold Rw.flat Rw.cnt; rw [List.length_cons, Rws.flat_len rs]; omega
  | .one _ _ _, _, _ => by unfold Rw.flat Rw.cnt; rfl
  | .some _ _ _, _, _ => by unfold Rw.flat Rw.cnt; rfl
  | .number _ _ _ _, _, _ => by unfold Rw.flat Rw.cnt; rfl
  | .check _ _ _, _, _ => by unfold Rw.flat Rw.cnt; rfl
theorem Rws.flat_len : ∀ (rs : List Rw) (ar : Option Nat) (n : Nat), (Rws.flat rs ar n).length = Rws.cnt rs
  | [], _, _ => by unfold Rws.flat Rws.cnt; rfl
  | r :: rs, ar, n => by unfold Rws.flat Rws.cnt; rw [List.length_append, Rw.flat_len r, Rws.flat_len rs]
end
theorem Rws.flat_app (r : Rw) (ar : Option Nat) : ∀ (rs : List Rw) (n : Nat), Rws.flat (rs ++ [r]) ar n = Rws.flat rs ar n ++ r.flat ar (n + Rws.cnt rs)
  | [], n => by
    show Rws.flat [r] ar n = _
    unfold Rws.flat Rws.flat Rws.cnt
    simp
  | q :: rs, n => by
    show Rws.flat (q :: (rs ++ [r])) ar n = _
    have ih := Rws.flat_app r ar rs (n + q.cnt)
    rw [Rws.flat, ih, Rws.flat, Rws.cnt, List.append_assoc, Nat.add_assoc]
theorem Rws.cnt_app (r : Rw) : ∀ rs : List Rw, Rws.cnt (rs ++ [r]) = Rws.cnt rs + r.cnt
  | [] => by show Rws.cnt [r] = _; unfold Rws.cnt Rws.cnt; omega
  | q :: rs => by
    show Rws.cnt (q :: (rs ++ [r])) = _
    rw [Rws.cnt, Rws.cnt_app r rs, Rws.cnt]
    omega
theorem Rws.cnt_take : ∀ (rs : List Rw) (i : Nat), Rws.cnt (rs.take i) ≤ Rws.cnt rs
  | [], i => by simp
  | r :: rs, 0 => by simp [Rws.cnt]
  | r :: rs, i + 1 => by
    have := Rws.cnt_take rs i
    show Rws.cnt (r :: rs.take i) ≤ _
    rw [Rws.cnt, Rws.cnt]
    omega
theorem Rws.dep_get : ∀ {rs : List Rw} {i : Nat} {r : Rw}, rs[i]? = some r → r.dep ≤ Rws.dep rs
  | [], i, r, h => by simp at h
  | q :: rs, 0, r, h => by
    have e : q = r := by simpa using h
    rw [Rws.dep, e]
    omega
  | q :: rs, i + 1, r, h => by
    have := Rws.dep_get (rs := rs) (i := i) (r := r) (by simpa using h)
    rw [Rws.dep]
    omega
theorem ROs.get {K : PySem.W.Frag} {H : Hp} : ∀ {vs : List V} {rs : List Rw}, ROs K H vs rs → ∀ {i : Nat} {v : V}, vs[i]? = some v → ∃ r, rs[i]? = some r ∧ RO K H v r
  | _, _, .nil, i, v, h => by simp at h
  | _, _, .cons a t, 0, v, h => ⟨_, rfl, by have e := Option.some.inj (show some _ = some v from h); rw [← e]; exact a⟩
  | _, _, .cons a t, i + 1, v, h => ROs.get t (i := i) (by simpa using h)
theorem ROs.length {K : PySem.W.Frag} {H : Hp} : ∀ {vs : List V} {rs : List Rw}, ROs K H vs rs → vs.length = rs.length
  | _, _, .nil => rfl
  | _, _, .cons _ t => congrArg Nat.succ (ROs.length t)
/-- an entry of laid: a tuple of the row and its place of rounds -/
def LE (K : PySem.W.Frag) (H : Hp) (v : V) (e : Rw × Option Nat) : Prop := ∃ t u, v = .ref t ∧ H t = some (.tup [u, oV e.2]) ∧ RO K H u e.1
theorem LE.si {K : PySem.W.Frag} {H H' : Hp} {v : V} {e : Rw × Option Nat} (s : SI H H') (h : LE K H v e) : LE K H' v e := let ⟨t, u, e1, e2, e3⟩ := h; ⟨t, u, e1, s _ _ rfl e2, RO.si s e3⟩
abbrev LA (K : PySem.W.Frag) (H : Hp) : List V → List (Rw × Option Nat) → Prop := Paired (LE K H)
theorem LA.si {K : PySem.W.Frag} {H H' : Hp} (s : SI H H') {vs : List V} {l : List (Rw × Option Nat)} (h : LA K H vs l) : LA K H' vs l := L2.Paired.mapP h fun _ _ q => q.si s
/-- all but l stands -/
def But (l : Addr) (H H' : Hp) : Prop := ∀ b o, b ≠ l → H b = some o → H' b = some o
theorem But.si {l : Addr} {H H' : Hp} (h : But l H H') {xs : List V} (hl : H l = some (.lst xs)) : SI H H' := fun b o k q => h b o (fun z => by rw [z, hl] at q; cases q; cases k) q
theorem But.trans {l : Addr} {H H1 H2 : Hp} (a : But l H H1) (b : But l H1 H2) : But l H H2 := fun c o k q => b c o k (a c o k q)
theorem Same.but {l : Addr} {H H1 : Hp} (a : Same H H1) : But l H H1 := fun c o _ q => a c o q
theorem But.upd {l : Addr} {H : Hp} (o : HO) : But l H (upd H l o) := fun b u k q => by rw [upd_ne k]; exact q
def spLay (K : PySem.W.Frag) (n : Nat) : Sp := fun vs H Q _ => ∃ (a l : Addr) (ar : Option Nat) (xs ys : List V) (rs : List Rw), vs = [.ref a, oV ar, .ref l] ∧ SqT K H a xs ∧ ROs K H xs rs ∧ Rws.dep rs < n ∧ H l = some (.lst ys) ∧ ys.length + Rws.cnt rs ≤ 1000 ∧
  ∀ H' zs, But l H H' → H' l = some (.lst (ys ++ zs)) → LA K H' zs (Rws.flat rs ar ys.length) → Q .non H'
section
variable {P : Program} {w : World} {K : PySem.W.Frag} {mg : Str → Option Value} {base : Heap}
theorem sc_lay_out : FnScope ["rows", "around", "laid", "row", "place"] ["rows", "around", "laid"] (defScope s_lay_out) := ⟨rfl, rfl, rfl, by decide +kernel, rfl, by decide +kernel, by decide +kernel⟩
theorem ok_lay_out (T : Tx K mg) : ∀ n, Ok P w K mg base n (He.ga K "lay_out") ["rows", "around", "laid"] (spLay K n) := by
  obtain ⟨fd, F⟩ := T.f_lay_out
  have b : Binds K fd ["rows", "around", "laid"] [] := F.bindsN fun _ _ _ _ _ _ us hl => match us, hl with | [_, _, _], _ => rfl
  intro n
  induction n with
  | zero =>
    refine ⟨fd, ok_none fun vs H Q E h => ?_, b, F.kp⟩
    obtain ⟨_, _, _, _, _, _, _, _, _, h, _⟩ := h
    omega
  | succ n ih =>
    refine ⟨fd, F.ok sc_lay_out (fun vs H Q E h => ?_) (fun cdv A outer s H vs Q E hr h => ?_), b, F.kp⟩
    · obtain ⟨a, l, ar, xs, ys, rs, rfl, _⟩ := h
      rfl
    obtain ⟨a, l, ar, xs, ys, rs, rfl, ha, hx, hd, hl, hz, q⟩ := h
    refine ⟨_, pss_one (ps_for (passes_of rfl) rfl (pi_tup (pv 0)) (pg_name (i := 3) sc_lay_out.nd rfl (Or.inl rfl))
      (pss_cons (ps_set (i := 4) sc_lay_out.nd rfl (Or.inl rfl) (pe_callB call_len_seq (by rfl) T.z_len PySem.boot_len (pa_cons (pv 2) pa_nil)))
      (pss_cons (ps_expr (pe_bm PySem.F.plainAttrs_list PySem.F.slot_list_append PySem.F.type_list_append mt_append (pv 2) (pa_cons (pe_tup (pa_cons (pv 3) (pa_cons (pv 1) pa_nil))) pa_nil)))
      (pss_cons (ps_if (pt_val (pe_callB call_isi (by rfl) T.z_isinstance (by decide +kernel) (pa_cons (pv 3) (pa_cons (pe_gref T.g_Section) pa_nil)))) (pss_one (ps_expr (pe_f ih hr T.g_lay_out (pa_cons (pe_fld (pv 3) rfl) (pa_cons (pv 1) (pa_cons (pv 2) pa_nil)))))) pss_nil)
      (pss_one (ps_if (pt_val (pe_callB call_isi (by rfl) T.z_isinstance (by decide +kernel) (pa_cons (pv 3) (pa_cons (pe_gref T.g_Rounds) pa_nil)))) (pss_one (ps_expr (pe_f ih hr T.g_lay_out (pa_cons (pe_fld (pv 3) rfl) (pa_cons (pv 4) (pa_cons (pv 2) pa_nil)))))) pss_nil)))))), ?_⟩
    walk_at "go"
    refine ⟨_, rfl, a, rfl, ⟨_, ha⟩, ?_⟩
    refine for_tup (K := K) (a := a) (xs := xs) (fun (i : Nat) σ H' => ∃ v v' : Option V, σ = [some (.ref a), some (oV ar), some (.ref l), v, v'] ∧ But l H H' ∧
      ∃ zs, H' l = some (.lst (ys ++ zs)) ∧ LA K H' zs (Rws.flat (rs.take i) ar ys.length)) ⟨none, none, rfl, fun _ _ _ h => h, [], by rw [List.append_nil]; exact hl, by show LA K H [] (Rws.flat [] ar ys.length); rw [Rws.flat]; exact .nil⟩
      (fun i σ H' _ ⟨_, _, _, e, _⟩ => (e.si hl).sqt ha) ?_ ?_
    · rintro i x σ H1 hi ⟨v, v', rfl, e1, zs, h1, hzs⟩
      obtain ⟨r, hr1, hxr⟩ := hx.get hi
      have hlt : i < rs.length := (List.getElem?_eq_some_iff.mp hr1).1
      have hxr1 := RO.si (e1.si hl) hxr
      have hdr := Rws.dep_get hr1
      have lz := hzs.length
      rw [Rws.flat_len] at lz
      have tk : rs.take (i + 1) = rs.take i ++ [r] := by rw [List.take_add_one, hr1] <;> rfl
      have hc1 : Rws.cnt (rs.take i) + r.cnt ≤ Rws.cnt rs := by
        have := Rws.cnt_take rs (i + 1)
        rw [tk, Rws.cnt_app] at this
        exact this
      walk_at "go"
      refine ⟨l, _, rfl, .inl (SqL.of h1), ?_⟩
      walk_at "go"
      refine ⟨_, rfl, .inl ⟨rfl, _, SqL.of h1⟩, ?_⟩
      walk_at "go"
      refine ⟨(by show 2 ≤ sizeLine; decide), fun t ht => ?_⟩
      have h1t : upd H1 t (.tup [x, oV ar]) l = some (.lst (ys ++ zs)) := Same.new ht _ _ _ h1
      have lyz : (ys ++ zs).length = ys.length + Rws.cnt (rs.take i) := by rw [List.length_append, lz]
      walk_at "go"
      refine ⟨l, _, _, rfl, rfl, h1t, Nat.lt_of_le_of_lt (show (ys ++ zs).length ≤ 1000 by omega) (by decide), ?_⟩
      have elen : (ys ++ zs ++ [V.ref t]).length = ys.length + Rws.cnt (rs.take i) + 1 := by rw [List.length_append, lyz]; rfl
      have s2 : SI H1 (upd (upd H1 t (.tup [x, oV ar])) l (.lst (ys ++ zs ++ [.ref t]))) := (Same.new ht _).si.trans (SI.upd h1t rfl _)
      have e2 : But l H1 (upd (upd H1 t (.tup [x, oV ar])) l (.lst (ys ++ zs ++ [.ref t]))) := (K3.Same.but (Same.new ht _)).trans (But.upd _)
      have h2 : (upd (upd H1 t (.tup [x, oV ar])) l (.lst (ys ++ zs ++ [.ref t]))) l = some (.lst (ys ++ zs ++ [.ref t])) := upd_same
      have ht2 : (upd (upd H1 t (.tup [x, oV ar])) l (.lst (ys ++ zs ++ [.ref t]))) t = some (.tup [x, oV ar]) := by
        rw [upd_ne (fun z => by rw [← z, ht] at h1; cases h1)]
        exact upd_same
      generalize upd (upd H1 t (.tup [x, oV ar])) l (.lst (ys ++ zs ++ [.ref t])) = H2 at s2 e2 h2 ht2
      have hx2 := RO.si s2 hxr1
      have entry : LE K H2 (.ref t) (r, ar) := ⟨t, x, rfl, ht2, hx2⟩
      have fin : ∀ (H3 : Hp) (zs3 : List V) (L3 : List (Rw × Option Nat)), But l H2 H3 → H3 l = some (.lst (ys ++ zs ++ [.ref t] ++ zs3)) → LA K H3 zs3 L3 → r.flat ar (ys.length + Rws.cnt (rs.take i)) = (r, ar) :: L3 →
          But l H H3 ∧ ∃ zs, H3 l = some (.lst (ys ++ zs)) ∧ LA K H3 zs (Rws.flat (rs.take (i + 1)) ar ys.length) := by
        intro H3 zs3 L3 e3 h3 l3 ef
        refine ⟨(e1.trans e2).trans e3, zs ++ .ref t :: zs3, by rw [h3]; simp, ?_⟩
        rw [tk, Rws.flat_app, ef]
        exact K3.Paired.app (LA.si (s2.trans (e3.si h2)) hzs) (.cons (LE.si (e3.si h2) entry) l3)
      walk_at "go"
      refine isiR T hx2 (y := "Section") (by decide) ?_
      walk_at "go"
      cases hx2 with
      | @sect a2 t2 xs2 rs2 w2 wv2 hi2 ht' hrs2 hw2 =>
        obtain ⟨dx2, hi2⟩ := id hi2
        show if true = true then _ else _
        walk_at "go"
        refine ⟨a2, _, dx2, _, _, rfl, hi2, T.cl_Section, T.n_Section_rows, rfl, ?_⟩
        walk_at "go"
        refine ⟨t2, l, ar, xs2, ys ++ zs ++ [.ref t], rs2, rfl, ht', hrs2, ?_, h2, ?_, fun H3 zs3 e3 h3 l3 => ?_⟩
        · rw [Rw.dep] at hdr
          omega
        · rw [Rw.cnt] at hc1
          rw [List.length_append, lyz, List.length_singleton]
          omega
        · have hx3 := RO.si (e3.si h2) (.sect (rs := rs2) ⟨dx2, hi2⟩ ht' hrs2 hw2)
          walk_at "go"
          refine isiR T hx3 (y := "Rounds") (by decide) ?_
          walk_at "go"
          show if false = true then _ else _
          refine w_iteF ?_
          rw [elen] at l3
          exact ⟨_, _, rfl, fin H3 zs3 _ e3 h3 l3 (by rw [Rw.flat])⟩
      | @rounds a2 t2 c2 xs2 rs2 w2 wv2 hi2 ht' hrs2 hw2 =>
        show if false = true then _ else _
        refine w_iteF ?_
        have hx3 : RO K H2 (.ref a2) (.rounds c2 rs2 w2) := .rounds hi2 ht' hrs2 hw2
        obtain ⟨dx2, hi2⟩ := id hi2
        walk_at "go"
        refine isiR T hx3 (y := "Rounds") (by decide) ?_
        walk_at "go"
        show if true = true then _ else _
        walk_at "go"
        refine ⟨a2, _, dx2, _, _, rfl, hi2, T.cl_Rounds, T.n_Rounds_rows, rfl, ?_⟩
        walk_at "go"
        refine ⟨t2, l, some (ys ++ zs).length, xs2, ys ++ zs ++ [.ref t], rs2, rfl, ht', hrs2, ?_, h2, ?_, fun H3 zs3 e3 h3 l3 => ?_⟩
        · rw [Rw.dep] at hdr
          omega
        · rw [Rw.cnt] at hc1
          rw [List.length_append, lyz, List.length_singleton]
          omega
        · walk_at "go"
          rw [elen, lyz] at l3
          exact ⟨_, _, rfl, fin H3 zs3 _ e3 h3 l3 (by rw [Rw.flat])⟩
      | one h1' h2' h3' =>
        show if false = true then _ else _
        refine w_iteF ?_
        walk_at "go"
        refine isiR T (.one h1' h2' h3') (y := "Rounds") (by decide) ?_
        walk_at "go"
        show if false = true then _ else _
        refine w_iteF ?_
        exact ⟨_, _, rfl, fin _ [] [] (fun _ _ _ h => h) (by rw [h2, List.append_nil]) .nil (by rw [Rw.flat])⟩
      | some h1' h2' h3' =>
        show if false = true then _ else _
        refine w_iteF ?_
        walk_at "go"
        refine isiR T (.some h1' h2' h3') (y := "Rounds") (by decide) ?_
        walk_at "go"
        show if false = true then _ else _
        refine w_iteF ?_
        exact ⟨_, _, rfl, fin _ [] [] (fun _ _ _ h => h) (by rw [h2, List.append_nil]) .nil (by rw [Rw.flat])⟩
      | number h1' h2' =>
        show if false = true then _ else _
        refine w_iteF ?_
        walk_at "go"
        refine isiR T (.number h1' h2') (y := "Rounds") (by decide) ?_
        walk_at "go"
        show if false = true then _ else _
        refine w_iteF ?_
        exact ⟨_, _, rfl, fin _ [] [] (fun _ _ _ h => h) (by rw [h2, List.append_nil]) .nil (by rw [Rw.flat])⟩
      | check h1' h2' h3' =>
        show if false = true then _ else _
        refine w_iteF ?_
        walk_at "go"
        refine isiR T (.check h1' h2' h3') (y := "Rounds") (by decide) ?_
        walk_at "go"
        show if false = true then _ else _
        refine w_iteF ?_
        exact ⟨_, _, rfl, fin _ [] [] (fun _ _ _ h => h) (by rw [h2, List.append_nil]) .nil (by rw [Rw.flat])⟩
    · rintro σ H1 ⟨v, v', rfl, e1, zs, h1, hzs⟩
      rw [hx.length, List.take_length] at hzs
      exact q H1 zs e1 h1 hzs
end
end K3
end P7_part
section P8_part
set_option Elab.async false
set_option linter.all false
set_option maxRecDepth 100000
set_option maxHeartbeats 1000000
set_option pp.deepTerms true
open PySem PySem.Spec PyProof.Rows L2
/-- go on as far as nothing is open -/
local macro_rules | `(tactic| walk_at "go") => `(tactic| repeat (first
  | with_reducible refine w_seq ?_ | with_reducible refine w_next ?_ | with_reducible refine w_set ?_ | with_reducible refine w_drop ?_ | with_reducible refine w_ret ?_ | with_reducible refine w_retN ?_
  | with_reducible refine w_if ?_ | ((with_reducible refine' w_var ?hv ?_); (case hv => exact rfl)) | with_reducible refine w_c ?_ | with_reducible refine w_nil ?_ | with_reducible refine w_cons ?_ | with_reducible refine w_op ?_ | with_reducible refine w_un ?_
  | with_reducible refine w_test ?_ | with_reducible refine w_tB ?_ | with_reducible refine w_not ?_ | with_reducible refine w_and ?_ | with_reducible refine w_or ?_ | with_reducible refine w_bl ?_
  | with_reducible refine w_andV ?_ | with_reducible refine w_orV ?_ | with_reducible refine w_notV ?_ | with_reducible refine w_ifE ?_ | with_reducible refine w_chain ?_ | with_reducible refine w_i0 ?_
  | with_reducible refine w_call ?_ | with_reducible refine w_callS ?_ | with_reducible refine w_cB ?_ | with_reducible refine w_tup ?_ | with_reducible refine w_lst ?_ | with_reducible refine w_fldV ?_
  | with_reducible refine w_neF ?_ | with_reducible refine w_neT ?_ | with_reducible refine w_notN ?_ | with_reducible refine w_isN ?_ | with_reducible refine w_gname ?_ | with_reducible refine w_gsub ?_ | with_reducible refine w_asg ?_ | with_reducible refine w_yes ?_ | with_reducible refine w_nT ?_ | with_reducible refine w_nF ?_ | with_reducible refine w_iteT ?_ | with_reducible refine w_iteF ?_))
namespace K3
def Rw.name : Rw → Str
  | .one n _ _ => n | .some n _ _ => n | .number n _ _ _ => n | .check n _ _ => n | .sect _ _ => "" | .rounds n _ _ => n
/-- the named rows ahead -/
abbrev AL := List (Str × Rw × Option Nat)
def look (L : AL) (z : Str) : Option (Rw × Option Nat) := (L.find? fun e => decide (e.1 = z)).map (·.2)
def quest (L : AL) (z : Str) (ar : Option Nat) : Sum Flt Rw := match look L z with
  | none => .inl (.quest z)
  | some (r, a) => if r.isQ then (if a ≠ none ∧ a ≠ ar then .inl (.quest z) else .inr r) else .inl (.quest z)
def suitsB : Cd → Rw → Bool
  | .is _ o, .one _ os _ => decide (o ∈ os)
  | .is _ _, _ => false
  | .has _ o, .some _ os _ => decide (o ∈ os)
  | .has _ _, _ => false
  | _, .number _ _ _ _ => true
  | _, _ => false
def Cd.name : Cd → Str
  | .is n _ => n | .has n _ => n | .over n _ => n | .under n _ => n | _ => ""
/-- an entry of ahead -/
def EA (K : PySem.W.Frag) (H : Hp) (kv : Key × V) (e : Str × Rw × Option Nat) : Prop := kv.1 = Sum.inr e.1 ∧ ∃ t u, kv.2 = .ref t ∧ H t = some (.tup [u, oV e.2.2]) ∧ RO K H u e.2.1
def AHd (K : PySem.W.Frag) (H : Hp) (d : Addr) (L : AL) : Prop := ∃ kvs, H d = some (.dK kvs) ∧ Paired (EA K H) kvs L
theorem EA.si {K : PySem.W.Frag} {H H' : Hp} (s : SI H H') {kv : Key × V} {e : Str × Rw × Option Nat} (h : EA K H kv e) : EA K H' kv e := let ⟨h1, t, u, h2, h3, h4⟩ := h; ⟨h1, t, u, h2, s _ _ rfl h3, RO.si s h4⟩
theorem AHd.same {K : PySem.W.Frag} {H H' : Hp} (e : Same H H') {d : Addr} {L : AL} (h : AHd K H d L) : AHd K H' d L := let ⟨kvs, h1, h2⟩ := h; ⟨kvs, e _ _ h1, L2.Paired.mapP h2 fun _ _ q => q.si e.si⟩
theorem look_ea {K : PySem.W.Frag} {H : Hp} (z : Str) : ∀ {kvs : List (Key × V)} {L : AL}, Paired (EA K H) kvs L → (valV kvs (Sum.inr z) = none ∧ look L z = none) ∨ ∃ t u r a, valV kvs (Sum.inr z) = some (.ref t) ∧ look L z = some (r, a) ∧ H t = some (.tup [u, oV a]) ∧ RO K H u r
  | _, _, .nil => .inl ⟨rfl, rfl⟩
  | _, _, .cons (a := kv) (b := e) h t => by
    obtain ⟨h1, x, u, h2, h3, h4⟩ := h
    by_cases c : e.1 = z
    · refine .inr ⟨x, u, e.2.1, e.2.2, ?_, ?_, h3, h4⟩
      · rw [valV_pos (p := kv) (by rw [h1, c]), h2]
      · unfold look
        rw [List.find?_cons, decide_eq_true c] <;> rfl
    · have ih := look_ea z t
      have e1 : ¬ kv.1 = Sum.inr z := by rw [h1]; exact fun q => c (Sum.inr.inj q)
      rw [valV_neg e1]
      have e2 : ∀ l : AL, look (e :: l) z = look l z := fun l => by
        unfold look
        rw [List.find?_cons, decide_eq_false c]
      rw [e2]
      exact ih
def EndQ (K : PySem.W.Frag) (s : Sum Flt Rw) (H : Hp) (Q : VK) (E : XK) : Prop := match s with
  | .inl f => ∀ cls dd H', Same H H' → IsF K f cls dd H' → E cls dd H'
  | .inr r => ∀ v H', Same H H' → RO K H' v r → Q v H'
def spQA (K : PySem.W.Frag) : Sp := fun vs H Q E => ∃ (z : Str) (ar : Option Nat) (d : Addr) (L : AL), vs = [.str z, oV ar, .ref d] ∧ AHd K H d L ∧ EndQ K (quest L z ar) H Q E
theorem quest_none {L : AL} {z : Str} {ar : Option Nat} (h : look L z = none) : quest L z ar = .inl (.quest z) := by unfold quest; rw [h]
theorem quest_no {L : AL} {z : Str} {ar a : Option Nat} {r : Rw} (h : look L z = some (r, a)) (hq : r.isQ = false) : quest L z ar = .inl (.quest z) := by
  unfold quest; rw [h]
  show (if r.isQ = true then _ else _) = _
  rw [hq] <;> rfl
theorem quest_far {L : AL} {z : Str} {ar a : Option Nat} {r : Rw} (h : look L z = some (r, a)) (hq : r.isQ = true) (c : a ≠ none ∧ a ≠ ar) : quest L z ar = .inl (.quest z) := by
  unfold quest; rw [h]
  show (if r.isQ = true then (if a ≠ none ∧ a ≠ ar then _ else _) else _) = _
  rw [if_pos hq, if_pos c]
theorem quest_ok {L : AL} {z : Str} {ar a : Option Nat} {r : Rw} (h : look L z = some (r, a)) (hq : r.isQ = true) (c : ¬ (a ≠ none ∧ a ≠ ar)) : quest L z ar = .inr r := by
  unfold quest; rw [h]
  show (if r.isQ = true then (if a ≠ none ∧ a ≠ ar then _ else _) else _) = _
  rw [if_pos hq, if_neg c]
def spSuits (K : PySem.W.Frag) : Sp := fun vs H Q _ => ∃ (v u : V) (c : Cd) (r : Rw), vs = [v, u] ∧ CO K H v c ∧ RO K H u r ∧ ∀ H', Same H H' → Q (.bl (suitsB c r)) H'
theorem inV_strs {o : Str} {os : List Str} : inV (.str o) (os.map V.str) = decide (o ∈ os) := by
  unfold inV
  rw [List.any_map]
  induction os with
  | nil => simp
  | cons a r ih =>
    rw [List.any_cons, ih]
    show ((a == o) || _) = _
    by_cases h : a = o
    · subst h
      simp
    · rw [beq_eq_false_iff_ne.mpr h, Bool.false_or]
      by_cases h2 : o ∈ r
      · simp [h2]
      · simp [h2, Ne.symm h]
theorem flat_strs (os : List Str) : (os.map V.str).all flatV = true := by
  rw [List.all_map, List.all_eq_true]
  intro x _
  rfl
theorem oV_eq {a b : Option Nat} : decide (oV a = oV b) = decide (a = b) := by
  cases a <;> cases b <;> simp [oV]
  omega
theorem oV_scal (a b : Option Nat) : scal (oV a) (oV b) = true := by cases a <;> cases b <;> rfl
section
variable {P : Program} {w : World} {K : PySem.W.Frag} {mg : Str → Option Value} {base : Heap}
theorem ro_name (T : Tx K mg) {H : Hp} {v : V} {r : Rw} (h : RO K H v r) (hn : r.isN = true) : ∃ a dx fs, v = .ref a ∧ H a = some (.ins (He.ga K r.nm) dx fs) ∧ Cls K (He.ga K r.nm) ∧ NoAttr K (He.ga K r.nm) "name" ∧ fs.lookup ("name" : Str) = some (.str r.name) := by
  cases h with
  | one h _ w => obtain ⟨dx, h⟩ := h; exact ⟨_, dx, _, rfl, h, T.cl_One, T.n_One_name, rfl⟩
  | some h _ w => obtain ⟨dx, h⟩ := h; exact ⟨_, dx, _, rfl, h, T.cl_Some, T.n_Some_name, rfl⟩
  | number h w => obtain ⟨dx, h⟩ := h; exact ⟨_, dx, _, rfl, h, T.cl_Number, T.n_Number_name, rfl⟩
  | check h _ w => obtain ⟨dx, h⟩ := h; exact ⟨_, dx, _, rfl, h, T.cl_Check, T.n_Check_name, rfl⟩
  | sect h _ _ w => cases hn
  | rounds h _ _ w => cases hn
theorem sc_question_ahead : FnScope ["name", "around", "ahead", "question", "rounds"] ["name", "around", "ahead"] (defScope s_question_ahead) := ⟨rfl, rfl, rfl, by decide +kernel, rfl, by decide +kernel, by decide +kernel⟩
theorem ok_question_ahead (T : Tx K mg) : Ok P w K mg base 3 (He.ga K "question_ahead") ["name", "around", "ahead"] (spQA K) := by
  obtain ⟨fd, F⟩ := T.f_question_ahead
  refine ⟨fd, F.ok sc_question_ahead (fun vs H Q E h => ?_) (fun cdv A outer s H vs Q E hr h => ?_), F.bindsN fun _ _ _ _ _ _ us hl => match us, hl with | [_, _, _], _ => rfl, F.kp⟩
  · obtain ⟨z, ar, d, L, rfl, _⟩ := h
    rfl
  obtain ⟨z, ar, d, L, rfl, hL, q⟩ := h
  have err := fun {D : Ends} {σ : L2.St} {H1 : Hp} => @gErr1_of K "NoQuestion" "name" (.str z) H1
  refine ⟨_, pss_cons (ps_if (pt_cmp (pc_dnotin (hu_of hr) (pv 0) (pv 2))) (pss_one (ps_err1 (T.err (x := "NoQuestion") (by decide)) T.m_NoQuestion_init (ok_NoQuestion T) hr T.g_NoQuestion (takes_of rfl rfl rfl rfl) (pv 0))) pss_nil)
    (pss_cons (ps_asg (pe_dget (hu_of hr) (pv 2) (pv 0) (fun _ _ => rfl)) (pg_tup rfl (pgs_cons (pg_name (i := 3) sc_question_ahead.nd rfl (Or.inl rfl)) (pgs_cons (pg_name (i := 4) sc_question_ahead.nd rfl (Or.inl rfl)) pgs_nil))))
    (pss_cons (ps_if (pt_not (pt_val (pe_f (ok_is_question T) (hr.mono (by decide)) T.g_is_question (pa_cons (pv 3) pa_nil)))) (pss_one (ps_err1 (T.err (x := "NoQuestion") (by decide)) T.m_NoQuestion_init (ok_NoQuestion T) hr T.g_NoQuestion (takes_of rfl rfl rfl rfl) (pv 0))) pss_nil)
    (pss_cons (ps_if (pw_and (pt_cmp (pc_notN (pv 4))) (pw_and1 (pt_cmpR op_ne (pv 4) (pv 1) (nomark _)))).pt (pss_one (ps_err1 (T.err (x := "NoQuestion") (by decide)) T.m_NoQuestion_init (ok_NoQuestion T) hr T.g_NoQuestion (takes_of rfl rfl rfl rfl) (pv 0))) pss_nil)
    (pss_one (ps_ret (pv 3)))))), ?_⟩
  obtain ⟨kvs, hd, hp⟩ := hL
  walk_at "go"
  refine ⟨_, rfl, _, rfl, d, _, rfl, DGet.k (k := Sum.inr z) hd, ?_⟩
  walk_at "go"
  rcases look_ea z hp with ⟨h1, h2⟩ | ⟨t, u, r, a, h1, h2, h3, h4⟩
  · rw [h1]
    rw [quest_none h2] at q
    walk_at "go"
    show if true = true then _ else _
    walk_at "go"
    refine w_err1 ?_
    walk_at "go"
    exact gErr1_of fun dd H2 e2 h2 => q _ _ H2 e2 ⟨rfl, dd, rfl, h2⟩
  · rw [h1]
    walk_at "go"
    show if false = true then _ else _
    walk_at "go"
    refine ⟨_, rfl, _, rfl, d, _, rfl, by rw [← h1]; exact DGet.k (k := Sum.inr z) hd, ?_⟩
    refine ⟨t, _, rfl, SqT.of h3, rfl, _, _, rfl, ?_⟩
    walk_at "go"
    refine ⟨_, _, rfl, ?_⟩
    walk_at "go"
    refine ⟨rfl, ?_⟩
    walk_at "go"
    refine ⟨u, r, rfl, h4, fun H1 e1 => ?_⟩
    cases hq : r.isQ with
    | false =>
      rw [quest_no h2 hq] at q
      walk_at "go"
      refine w_err1 ?_
      walk_at "go"
      exact gErr1_of fun dd H2 e2 h2 => q _ _ H2 (e1.trans e2) ⟨rfl, dd, rfl, h2⟩
    | true =>
      walk_at "go"
      have ne1 : decide (oV a = V.non) = decide (a = none) := oV_eq (b := none)
      by_cases c1 : a = none
      · rw [quest_ok h2 hq (fun z => z.1 c1)] at q
        rw [ne1, decide_eq_true c1]
        walk_at "go"
        exact q u H1 e1 (h4.same e1)
      · rw [ne1, decide_eq_false c1]
        walk_at "go"
        refine ⟨oV_scal _ _, ?_⟩
        walk_at "go"
        rw [oV_eq]
        by_cases c2 : a = ar
        · rw [quest_ok h2 hq (fun z => z.2 c2)] at q
          rw [decide_eq_true c2]
          walk_at "go"
          exact q u H1 e1 (h4.same e1)
        · rw [quest_far h2 hq ⟨c1, c2⟩] at q
          rw [decide_eq_false c2]
          walk_at "go"
          refine w_err1 ?_
          walk_at "go"
          exact gErr1_of fun dd H2 e2 h2 => q _ _ H2 (e1.trans e2) ⟨rfl, dd, rfl, h2⟩
theorem sc_suits : FnScope ["condition", "question"] ["condition", "question"] (defScope s_suits) := ⟨rfl, rfl, rfl, by decide +kernel, rfl, by decide +kernel, by decide +kernel⟩
theorem ok_suits (T : Tx K mg) : Ok P w K mg base 1 (He.ga K "suits") ["condition", "question"] (spSuits K) := by
  obtain ⟨fd, F⟩ := T.f_suits
  refine ⟨fd, F.ok sc_suits (fun vs H Q E h => ?_) (fun cdv A outer s H vs Q E hr h => ?_), F.bindsN fun _ _ _ _ _ _ us hl => match us, hl with | [_, _], _ => rfl, F.kp⟩
  · obtain ⟨v, u, c, r, rfl, _⟩ := h
    rfl
  obtain ⟨v, u, c, r, rfl, hc, hu, q⟩ := h
  refine ⟨_, pss_cons (ps_if (pt_val (pe_callB call_isi (by rfl) T.z_isinstance (by decide +kernel) (pa_cons (pv 0) (pa_cons (pe_gref T.g_Is) pa_nil))))
      (pss_one (ps_ret (pe_and (pe_callB call_isi (by rfl) T.z_isinstance (by decide +kernel) (pa_cons (pv 1) (pa_cons (pe_gref T.g_One) pa_nil))) (pe_one (pe_cmpR op_in_seq (pe_fld (pv 0) rfl) (pe_fld (pv 1) rfl) rfl))))) pss_nil)
    (pss_cons (ps_if (pt_val (pe_callB call_isi (by rfl) T.z_isinstance (by decide +kernel) (pa_cons (pv 0) (pa_cons (pe_gref T.g_Has) pa_nil))))
      (pss_one (ps_ret (pe_and (pe_callB call_isi (by rfl) T.z_isinstance (by decide +kernel) (pa_cons (pv 1) (pa_cons (pe_gref T.g_Some) pa_nil))) (pe_one (pe_cmpR op_in_seq (pe_fld (pv 0) rfl) (pe_fld (pv 1) rfl) rfl))))) pss_nil)
    (pss_one (ps_ret (pe_callB call_isi (by rfl) T.z_isinstance (by decide +kernel) (pa_cons (pv 1) (pa_cons (pe_gref T.g_Number) pa_nil)))))), ?_⟩
  walk_at "go"
  refine isiC T hc (y := "Is") (by decide) ?_
  walk_at "go"
  cases hc with
  | @is a n o h =>
    show if true = true then _ else _
    walk_at "go"
    refine isiR T hu (y := "One") (by decide) ?_
    walk_at "go"
    cases hu with
    | @one b t n2 os w2 wv h2 ht hw =>
      show if true = true then _ else _
      walk_at "go"
      obtain ⟨dx, h⟩ := h
      obtain ⟨dx2, h2⟩ := h2
      refine ⟨a, _, dx, _, _, rfl, h, T.cl_Is, T.n_Is_option, rfl, ?_⟩
      walk_at "go"
      refine ⟨b, _, dx2, _, _, rfl, h2, T.cl_One, T.n_One_options, rfl, ?_⟩
      walk_at "go"
      refine ⟨t, _, rfl, .inr ht, rfl, flat_strs _, ?_⟩
      have := q H (Same.refl _)
      show Q (.bl (inV (.str o) (os.map V.str))) H
      rw [inV_strs]
      exact this
    | _ =>
      show if false = true then _ else _
      refine w_iteF ?_
      exact q H (Same.refl _)
  | @has a n o h =>
    show if false = true then _ else _
    refine w_iteF ?_
    walk_at "go"
    refine isiC T (.has h) (y := "Has") (by decide) ?_
    walk_at "go"
    show if true = true then _ else _
    walk_at "go"
    refine isiR T hu (y := "Some") (by decide) ?_
    walk_at "go"
    cases hu with
    | @some b t n2 os w2 wv h2 ht hw =>
      show if true = true then _ else _
      walk_at "go"
      obtain ⟨dx, h⟩ := h
      obtain ⟨dx2, h2⟩ := h2
      refine ⟨a, _, dx, _, _, rfl, h, T.cl_Has, T.n_Has_option, rfl, ?_⟩
      walk_at "go"
      refine ⟨b, _, dx2, _, _, rfl, h2, T.cl_Some, T.n_Some_options, rfl, ?_⟩
      walk_at "go"
      refine ⟨t, _, rfl, .inr ht, rfl, flat_strs _, ?_⟩
      have := q H (Same.refl _)
      show Q (.bl (inV (.str o) (os.map V.str))) H
      rw [inV_strs]
      exact this
    | _ =>
      show if false = true then _ else _
      refine w_iteF ?_
      exact q H (Same.refl _)
  | over h =>
    show if false = true then _ else _
    refine w_iteF ?_
    walk_at "go"
    refine isiC T (.over h) (y := "Has") (by decide) ?_
    walk_at "go"
    show if false = true then _ else _
    refine w_iteF ?_
    walk_at "go"
    refine isiR T hu (y := "Number") (by decide) ?_
    cases r <;> exact q H (Same.refl _)
  | under h =>
    show if false = true then _ else _
    refine w_iteF ?_
    walk_at "go"
    refine isiC T (.under h) (y := "Has") (by decide) ?_
    walk_at "go"
    show if false = true then _ else _
    refine w_iteF ?_
    walk_at "go"
    refine isiR T hu (y := "Number") (by decide) ?_
    cases r <;> exact q H (Same.refl _)
  | no h h2 =>
    show if false = true then _ else _
    refine w_iteF ?_
    walk_at "go"
    refine isiC T (.no h h2) (y := "Has") (by decide) ?_
    walk_at "go"
    show if false = true then _ else _
    refine w_iteF ?_
    walk_at "go"
    refine isiR T hu (y := "Number") (by decide) ?_
    cases r <;> exact q H (Same.refl _)
  | both h h2 h3 =>
    show if false = true then _ else _
    refine w_iteF ?_
    walk_at "go"
    refine isiC T (.both h h2 h3) (y := "Has") (by decide) ?_
    walk_at "go"
    show if false = true then _ else _
    refine w_iteF ?_
    walk_at "go"
    refine isiR T hu (y := "Number") (by decide) ?_
    cases r <;> exact q H (Same.refl _)
  | either h h2 h3 =>
    show if false = true then _ else _
    refine w_iteF ?_
    walk_at "go"
    refine isiC T (.either h h2 h3) (y := "Has") (by decide) ?_
    walk_at "go"
    show if false = true then _ else _
    refine w_iteF ?_
    walk_at "go"
    refine isiR T hu (y := "Number") (by decide) ?_
    cases r <;> exact q H (Same.refl _)
end
end K3
end P8_part
section P9_part
set_option Elab.async false
set_option linter.all false
set_option maxRecDepth 100000
set_option maxHeartbeats 1000000
set_option pp.deepTerms true
open PySem PySem.Spec PyProof.Rows L2
/-- go on as far as nothing is open -/
local macro_rules | `(tactic| walk_at "go") => `(tactic| repeat (first
  | with_reducible refine w_seq ?_ | with_reducible refine w_next ?_ | with_reducible refine w_set ?_ | with_reducible refine w_drop ?_ | with_reducible refine w_ret ?_ | with_reducible refine w_retN ?_
  | with_reducible refine w_if ?_ | ((with_reducible refine' w_var ?hv ?_); (case hv => exact rfl)) | with_reducible refine w_c ?_ | with_reducible refine w_nil ?_ | with_reducible refine w_cons ?_ | with_reducible refine w_op ?_ | with_reducible refine w_un ?_
  | with_reducible refine w_test ?_ | with_reducible refine w_tB ?_ | with_reducible refine w_not ?_ | with_reducible refine w_and ?_ | with_reducible refine w_or ?_ | with_reducible refine w_bl ?_
  | with_reducible refine w_andV ?_ | with_reducible refine w_orV ?_ | with_reducible refine w_notV ?_ | with_reducible refine w_ifE ?_ | with_reducible refine w_chain ?_ | with_reducible refine w_i0 ?_
  | with_reducible refine w_call ?_ | with_reducible refine w_callS ?_ | with_reducible refine w_cB ?_ | with_reducible refine w_tup ?_ | with_reducible refine w_lst ?_ | with_reducible refine w_fldV ?_
  | with_reducible refine w_neF ?_ | with_reducible refine w_neT ?_ | with_reducible refine w_notN ?_ | with_reducible refine w_isN ?_ | with_reducible refine w_gname ?_ | with_reducible refine w_gsub ?_ | with_reducible refine w_asg ?_ | with_reducible refine w_yes ?_ | with_reducible refine w_nT ?_ | with_reducible refine w_nF ?_ | with_reducible refine w_iteT ?_ | with_reducible refine w_iteF ?_))
namespace K3
def thenF : Option Flt → Option Flt → Option Flt
  | some f, _ => some f
  | none, g => g
theorem End_seq {K : PySem.W.Frag} {a b : Option Flt} {H : Hp} {Q Q' : VK} {E : XK} (q : End K (thenF a b) H Q E) (k : ∀ H', Same H H' → End K b H' Q E → Q' .non H') : End K a H Q' E := by
  cases a with
  | some f => exact q
  | none => exact fun H' e => k H' e (q.mono e)
theorem thenF_none (a : Option Flt) : thenF a none = a := by cases a <;> rfl
def namesF : List Str → Option Flt
  | [] => none
  | z :: r => thenF (nameF z) (namesF r)
def optF (os : List Str) (most : Nat) : Option Flt := if 1 ≤ os.length ∧ os.length ≤ most then thenF (namesF os) (dupF os) else some (.count "options" os.length)
def ckName (L : AL) (r : Rw) : Option Flt := if r.isN then thenF (nameF r.name) (if (look L r.name).isSome then some (.twice r.name) else none) else none
def ckOpt : Rw → Option Flt
  | .one _ os _ => optF os 6
  | .some _ os _ => optF os 4
  | _ => none
def ckBound : Rw → Option Flt
  | .number _ lo hi _ => if hi < lo then some (.count "bounds" hi) else none
  | _ => none
def ckInner (r : Rw) (ar : Option Nat) : Option Flt := match r with
  | .sect rs _ => if rs.length = 0 then some (.count "rows" 0) else none
  | .rounds _ rs _ => if rs.length = 0 then some (.count "rows" 0) else if ar = none then none else some (.count "rounds" 2)
  | _ => none
def fitN (q : Rw) : Option Flt := match q with
  | .number n lo hi _ => if lo < 0 then some (.fit n) else if 4 < hi then some (.fit n) else none
  | q => some (.fit q.name)
def ckCount (L : AL) (r : Rw) (ar : Option Nat) : Option Flt := match r with
  | .rounds n _ _ => (match quest L n ar with
    | .inl f => some f
    | .inr q => fitN q)
  | _ => none
def ckCond (L : AL) (ar : Option Nat) (c : Cd) : Option Flt := match quest L c.name ar with
  | .inl f => some f
  | .inr q => if suitsB c q then none else some (.fit q.name)
def ckConds (L : AL) (ar : Option Nat) : List Cd → Option Flt
  | [] => none
  | c :: r => thenF (ckCond L ar c) (ckConds L ar r)
def ckRow (L : AL) (r : Rw) (ar : Option Nat) : Option Flt := thenF (ckName L r) (thenF (ckOpt r) (thenF (ckBound r) (thenF (ckInner r ar) (thenF (ckCount L r ar) (ckConds L ar r.conds)))))
def Rw.opts : Rw → List Str
  | .one _ os _ => os | .some _ os _ => os | _ => []
structure RwB (n : Nat) (r : Rw) : Prop where
  cd : r.cdep < n
  c1 : (owh r.wh).length ≤ 1000
  c2 : r.mu.length ≤ 1000
  nm : r.name.length ≤ 1000
  ol : r.opts.length ≤ 1000
  os : ∀ o ∈ r.opts, o.length ≤ 1000
def Cd.isS : Cd → Bool
  | .no _ => false | .both _ _ => false | .either _ _ => false | _ => true
theorem simp_isS : ∀ (c : Cd), ∀ d ∈ c.simp, d.isS = true
  | .no c, d, h => simp_isS c d h
  | .both a b, d, h => by
    rcases List.mem_append.mp (show d ∈ a.simp ++ b.simp from h) with h | h
    · exact simp_isS a d h
    · exact simp_isS b d h
  | .either a b, d, h => by
    rcases List.mem_append.mp (show d ∈ a.simp ++ b.simp from h) with h | h
    · exact simp_isS a d h
    · exact simp_isS b d h
  | .is n o, d, h => by rw [List.mem_singleton.mp (show d ∈ [Cd.is n o] from h)] <;> rfl
  | .has n o, d, h => by rw [List.mem_singleton.mp (show d ∈ [Cd.has n o] from h)] <;> rfl
  | .over n o, d, h => by rw [List.mem_singleton.mp (show d ∈ [Cd.over n o] from h)] <;> rfl
  | .under n o, d, h => by rw [List.mem_singleton.mp (show d ∈ [Cd.under n o] from h)] <;> rfl
theorem conds_isS (r : Rw) : ∀ d ∈ r.conds, d.isS = true := fun d h => by
  rcases List.mem_append.mp (show d ∈ owh r.wh ++ r.mu from h) with h | h
  · cases e : r.wh with
    | none => rw [e] at h; cases h
    | some c => rw [e] at h; exact simp_isS c d h
  · cases r with
    | check n m w => exact simp_isS m d h
    | _ => cases h
/-- a def that checks: vs, and what it refuses -/
def spCk (K : PySem.W.Frag) (n : Nat) (f : Rw → Option Flt) : Sp := fun vs H Q E => ∃ (v : V) (r : Rw), vs = [v] ∧ RO K H v r ∧ RwB n r ∧ End K (f r) H Q E
def spCkL (K : PySem.W.Frag) (n : Nat) (f : AL → Rw → Option Flt) : Sp := fun vs H Q E => ∃ (v : V) (r : Rw) (d : Addr) (L : AL), vs = [v, .ref d] ∧ RO K H v r ∧ RwB n r ∧ AHd K H d L ∧ End K (f L r) H Q E
def spCkA (K : PySem.W.Frag) (n : Nat) (f : Rw → Option Nat → Option Flt) : Sp := fun vs H Q E => ∃ (v : V) (r : Rw) (ar : Option Nat), vs = [v, oV ar] ∧ RO K H v r ∧ RwB n r ∧ End K (f r ar) H Q E
def spCkLA (K : PySem.W.Frag) (n : Nat) (f : AL → Rw → Option Nat → Option Flt) : Sp := fun vs H Q E => ∃ (v : V) (r : Rw) (ar : Option Nat) (d : Addr) (L : AL), vs = [v, oV ar, .ref d] ∧ RO K H v r ∧ RwB n r ∧ AHd K H d L ∧ End K (f L r ar) H Q E
def spOpt (K : PySem.W.Frag) : Sp := fun vs H Q E => ∃ (a : Addr) (os : List Str) (most : Nat), vs = [.ref a, .int (most : Int)] ∧ SqT K H a (os.map V.str) ∧ os.length ≤ 1000 ∧ (∀ o ∈ os, o.length ≤ 1000) ∧ End K (optF os most) H Q E
theorem namesF_take {os : List Str} : ∀ {i : Nat} {z : Str}, os[i]? = some z → namesF (os.take i) = none → (nameF z = none → namesF (os.take (i + 1)) = none) ∧ (∀ f, nameF z = some f → namesF os = some f) := by
  induction os with
  | nil => intro i z h; simp at h
  | cons a r ih =>
    intro i z h hn
    cases i with
    | zero =>
      have e : a = z := by simpa using h
      subst e
      refine ⟨fun h => ?_, fun f h => ?_⟩
      · show thenF (nameF a) none = none
        rw [h] <;> rfl
      · show thenF (nameF a) _ = _
        rw [h] <;> rfl
    | succ i =>
      have hn' : thenF (nameF a) (namesF (r.take i)) = none := hn
      cases ha : nameF a with
      | some f => rw [ha] at hn'; cases hn'
      | none =>
        rw [ha] at hn'
        have q := ih (i := i) (z := z) (by simpa using h) hn'
        refine ⟨fun h => ?_, fun f h => ?_⟩
        · show thenF (nameF a) (namesF (r.take (i + 1))) = none
          rw [ha]
          exact q.1 h
        · show thenF (nameF a) (namesF r) = some f
          rw [ha]
          exact q.2 f h
theorem map_get {os : List Str} {i : Nat} {x : V} (hi : (os.map V.str)[i]? = some x) : ∃ z, os[i]? = some z ∧ x = V.str z := by
  rw [List.getElem?_map] at hi
  cases e : os[i]? with
  | none => rw [e] at hi; cases hi
  | some z => rw [e] at hi; exact ⟨z, rfl, (Option.some.inj hi).symm⟩
section
variable {P : Program} {w : World} {K : PySem.W.Frag} {mg : Str → Option Value} {base : Heap}
theorem sc_refuse_options : FnScope ["options", "most", "option"] ["options", "most"] (defScope s_refuse_options) := ⟨rfl, rfl, rfl, by decide +kernel, rfl, by decide +kernel, by decide +kernel⟩
theorem ok_refuse_options (T : Tx K mg) : Ok P w K mg base 4 (He.ga K "refuse_options") ["options", "most"] (spOpt K) := by
  obtain ⟨fd, F⟩ := T.f_refuse_options
  refine ⟨fd, F.ok sc_refuse_options (fun vs H Q E h => ?_) (fun cdv A outer s H vs Q E hr h => ?_), F.bindsN fun _ _ _ _ _ _ us hl => match us, hl with | [_, _], _ => rfl, F.kp⟩
  · obtain ⟨a, os, most, rfl, _⟩ := h
    rfl
  obtain ⟨a, os, most, rfl, ha, hz, ho, q⟩ := h
  refine ⟨_, pss_cons (ps_if (pt_not (pt_chain op_le op_le pe_int (pe_callB call_len_seq (by rfl) T.z_len PySem.boot_len (pa_cons (pv 0) pa_nil)) (pv 1))) (pss_one (ps_err2 (T.err (x := "BadCount") (by decide)) T.m_BadCount_init (ok_BadCount T) (hr.mono (by decide)) T.g_BadCount (takes_of rfl rfl rfl rfl) pe_str (pe_callB call_len_seq (by rfl) T.z_len PySem.boot_len (pa_cons (pv 0) pa_nil)))) pss_nil)
    (pss_cons (ps_for (passes_of rfl) rfl (pi_tup (pv 0)) (pg_name (i := 2) sc_refuse_options.nd rfl (Or.inl rfl)) (pss_one (ps_expr (pe_fE (takes_of rfl rfl rfl rfl) (ok_refuse_no_name T) (hr.mono (by decide)) T.g_refuse_no_name (pa_cons (pv 2) pa_nil)))))
    (pss_one (ps_expr (pe_fE (takes_of rfl rfl rfl rfl) (ok_refuse_twice T) (hr.mono (by decide)) T.g_refuse_twice (pa_cons (pv 0) pa_nil))))), ?_⟩
  have hlen : (os.map V.str).length = os.length := List.length_map _
  walk_at "go"
  refine ⟨a, _, rfl, .inr ha, ?_⟩
  walk_at "go"
  rw [hlen]
  have bad : ¬ (1 ≤ os.length ∧ os.length ≤ most) → gErr2 K "BadCount" "what" "count" (.str "options") (.int (os.length : Int)) H fun cls d H' => E cls d H' := fun c => by
    unfold optF at q
    rw [if_neg c] at q
    exact gErr2_of fun dd H2 e2 h2 => q _ _ H2 e2 ⟨rfl, dd, rfl, h2⟩
  have good : (1 ≤ os.length ∧ os.length ≤ most) → End K (thenF (namesF os) (dupF os)) H Q E := fun c => by
    unfold optF at q
    rw [if_pos c] at q
    exact q
  by_cases c1 : (1 : Int) ≤ (os.length : Int)
  · rw [decide_eq_true c1]
    walk_at "go"
    by_cases c2 : (os.length : Int) ≤ (most : Int)
    · rw [decide_eq_true c2]
      walk_at "go"
      have q := good ⟨by omega, by omega⟩
      refine ⟨_, rfl, a, rfl, ⟨_, ha⟩, ?_⟩
      refine for_tup (K := K) (a := a) (xs := os.map V.str) (fun (i : Nat) σ H' => ∃ v : Option V, σ = [some (.ref a), some (.int (most : Int)), v] ∧ Same H H' ∧ namesF (os.take i) = none) ⟨none, rfl, Same.refl _, rfl⟩ (fun i σ H' _ ⟨_, _, e, _⟩ => e.sqt ha) ?_ ?_
      · rintro i x σ H1 hi ⟨v, rfl, e1, hn⟩
        obtain ⟨z, hz1, rfl⟩ := map_get hi
        have nt := namesF_take hz1 hn
        walk_at "go"
        refine ⟨z, rfl, ho z (List.mem_of_getElem? hz1), ?_⟩
        cases hf : nameF z with
        | none => exact fun H2 e2 => ⟨some (.str z), rfl, e1.trans e2, nt.1 hf⟩
        | some f =>
          intro cls d H2 e2 h2
          have q' := q
          rw [nt.2 f hf] at q'
          exact q' cls d H2 (e1.trans e2) h2
      · rintro σ H1 ⟨v, rfl, e1, hn⟩
        rw [hlen, List.take_length] at hn
        rw [hn] at q
        walk_at "go"
        exact ⟨a, os, rfl, ⟨true, e1.sqt ha⟩, hz, q.mono e1⟩
    · rw [decide_eq_false c2]
      walk_at "go"
      refine w_err2 ?_
      walk_at "go"
      refine ⟨a, _, rfl, .inr ha, ?_⟩
      rw [hlen]
      exact bad (by omega)
  · rw [decide_eq_false c1]
    walk_at "go"
    refine w_err2 ?_
    walk_at "go"
    refine ⟨a, _, rfl, .inr ha, ?_⟩
    rw [hlen]
    exact bad (by omega)
end
end K3
end P9_part
section P10_part
set_option Elab.async false
set_option linter.all false
set_option maxRecDepth 100000
set_option maxHeartbeats 1000000
set_option pp.deepTerms true
open PySem PySem.Spec PyProof.Rows L2
/-- go on as far as nothing is open -/
local macro_rules | `(tactic| walk_at "go") => `(tactic| repeat (first
  | with_reducible refine w_seq ?_ | with_reducible refine w_next ?_ | with_reducible refine w_set ?_ | with_reducible refine w_drop ?_ | with_reducible refine w_ret ?_ | with_reducible refine w_retN ?_
  | with_reducible refine w_if ?_ | ((with_reducible refine' w_var ?hv ?_); (case hv => exact rfl)) | with_reducible refine w_c ?_ | with_reducible refine w_nil ?_ | with_reducible refine w_cons ?_ | with_reducible refine w_op ?_ | with_reducible refine w_un ?_
  | with_reducible refine w_test ?_ | with_reducible refine w_tB ?_ | with_reducible refine w_not ?_ | with_reducible refine w_and ?_ | with_reducible refine w_or ?_ | with_reducible refine w_bl ?_
  | with_reducible refine w_andV ?_ | with_reducible refine w_orV ?_ | with_reducible refine w_notV ?_ | with_reducible refine w_ifE ?_ | with_reducible refine w_chain ?_ | with_reducible refine w_i0 ?_
  | with_reducible refine w_call ?_ | with_reducible refine w_callS ?_ | with_reducible refine w_cB ?_ | with_reducible refine w_tup ?_ | with_reducible refine w_lst ?_ | with_reducible refine w_fldV ?_
  | with_reducible refine w_neF ?_ | with_reducible refine w_neT ?_ | with_reducible refine w_notN ?_ | with_reducible refine w_isN ?_ | with_reducible refine w_gname ?_ | with_reducible refine w_gsub ?_ | with_reducible refine w_asg ?_ | with_reducible refine w_yes ?_ | with_reducible refine w_nT ?_ | with_reducible refine w_nF ?_ | with_reducible refine w_iteT ?_ | with_reducible refine w_iteF ?_))
namespace K3
section
variable {P : Program} {w : World} {K : PySem.W.Frag} {mg : Str → Option Value} {base : Heap}
theorem sc_check_name : FnScope ["row", "ahead"] ["row", "ahead"] (defScope s_check_name) := ⟨rfl, rfl, rfl, by decide +kernel, rfl, by decide +kernel, by decide +kernel⟩
theorem ok_check_name (T : Tx K mg) (n : Nat) : Ok P w K mg base 4 (He.ga K "check_name") ["row", "ahead"] (spCkL K n ckName) := by
  obtain ⟨fd, F⟩ := T.f_check_name
  refine ⟨fd, F.ok sc_check_name (fun vs H Q E h => ?_) (fun cdv A outer s H vs Q E hr h => ?_), F.bindsN fun _ _ _ _ _ _ us hl => match us, hl with | [_, _], _ => rfl, F.kp⟩
  · obtain ⟨v, r, d, L, rfl, _⟩ := h
    rfl
  obtain ⟨v, r, d, L, rfl, hv, hB, hL, q⟩ := h
  refine ⟨_, pss_cons (ps_if (pt_not (pt_val (pe_f (ok_is_named T) (hr.mono (by decide)) T.g_is_named (pa_cons (pv 0) pa_nil)))) (pss_one ps_retN) pss_nil)
    (pss_cons (ps_expr (pe_fE (takes_of rfl rfl rfl rfl) (ok_refuse_no_name T) (hr.mono (by decide)) T.g_refuse_no_name (pa_cons (pe_fld (pv 0) rfl) pa_nil)))
    (pss_one (ps_if (pt_cmp (pc_din (hu_of hr) (pe_fld (pv 0) rfl) (pv 1))) (pss_one (ps_err1 (T.err (x := "Twice") (by decide)) T.m_Twice_init (ok_Twice T) (hr.mono (by decide)) T.g_Twice (takes_of rfl rfl rfl rfl) (pe_fld (pv 0) rfl))) pss_nil))), ?_⟩
  walk_at "go"
  refine ⟨v, r, rfl, hv, fun H1 e1 => ?_⟩
  have hL1 := hL.same e1
  have hv1 := hv.same e1
  have q1 := q.mono e1
  unfold ckName at q1
  cases hn : r.isN with
  | false =>
    rw [hn] at q1
    walk_at "go"
    exact q1 H1 (Same.refl _)
  | true =>
    rw [hn, if_pos rfl] at q1
    obtain ⟨a, dx, fs, rfl, hi, hcl, hna, hlk⟩ := ro_name T hv1 hn
    walk_at "go"
    refine ⟨a, _, dx, fs, _, rfl, hi, hcl, hna, hlk, ?_⟩
    walk_at "go"
    refine ⟨r.name, rfl, hB.nm, End_seq q1 fun H2 e2 q2 => ?_⟩
    walk_at "go"
    refine ⟨_, rfl, a, _, dx, fs, _, rfl, e2 _ _ hi, hcl, hna, hlk, ?_⟩
    obtain ⟨kvs, hd, hp⟩ := hL1.same e2
    refine ⟨_, rfl, d, _, rfl, DGet.k (k := Sum.inr r.name) hd, ?_⟩
    walk_at "go"
    rcases look_ea r.name hp with ⟨h1, h2⟩ | ⟨t, u, r', a', h1, h2, h3, h4⟩
    · rw [h1]
      rw [h2] at q2
      show if false = true then _ else _
      walk_at "go"
      exact q2 H2 (Same.refl _)
    · rw [h1]
      rw [h2] at q2
      show if true = true then _ else _
      walk_at "go"
      refine w_err1 ?_
      walk_at "go"
      refine ⟨a, _, dx, fs, _, rfl, e2 _ _ hi, hcl, hna, hlk, ?_⟩
      exact gErr1_of fun dd H3 e3 h5 => q2 _ _ H3 e3 ⟨rfl, dd, rfl, h5⟩
theorem sc_check_options : FnScope ["row"] ["row"] (defScope s_check_options) := ⟨rfl, rfl, rfl, by decide +kernel, rfl, by decide +kernel, by decide +kernel⟩
theorem ok_check_options (T : Tx K mg) (n : Nat) : Ok P w K mg base 5 (He.ga K "check_options") ["row"] (spCk K n ckOpt) := by
  obtain ⟨fd, F⟩ := T.f_check_options
  refine ⟨fd, F.ok sc_check_options (fun vs H Q E h => ?_) (fun cdv A outer s H vs Q E hr h => ?_), F.bindsN fun _ _ _ _ _ _ us hl => match us, hl with | [_], _ => rfl, F.kp⟩
  · obtain ⟨v, r, rfl, _⟩ := h
    rfl
  obtain ⟨v, r, rfl, hv, hB, q⟩ := h
  refine ⟨_, pss_cons (ps_if (pt_val (pe_callB call_isi (by rfl) T.z_isinstance (by decide +kernel) (pa_cons (pv 0) (pa_cons (pe_gref T.g_One) pa_nil)))) (pss_one (ps_expr (pe_fE (takes_of rfl rfl rfl rfl) (ok_refuse_options T) hr T.g_refuse_options (pa_cons (pe_fld (pv 0) rfl) (pa_cons (pe_gint T.i_MOST_OPTIONS_OF_ONE) pa_nil))))) pss_nil)
    (pss_one (ps_if (pt_val (pe_callB call_isi (by rfl) T.z_isinstance (by decide +kernel) (pa_cons (pv 0) (pa_cons (pe_gref T.g_Some) pa_nil)))) (pss_one (ps_expr (pe_fE (takes_of rfl rfl rfl rfl) (ok_refuse_options T) hr T.g_refuse_options (pa_cons (pe_fld (pv 0) rfl) (pa_cons (pe_gint T.i_MOST_OPTIONS_OF_SOME) pa_nil))))) pss_nil)), ?_⟩
  walk_at "go"
  refine isiR T hv (y := "One") (by decide) ?_
  walk_at "go"
  cases hv with
  | @one a t nn os w2 wv h ht hw =>
    show if true = true then _ else _
    walk_at "go"
    obtain ⟨dx, h⟩ := id h
    refine ⟨a, _, dx, _, _, rfl, h, T.cl_One, T.n_One_options, rfl, ?_⟩
    walk_at "go"
    refine ⟨t, os, 6, rfl, ht, hB.ol, hB.os, End_seq (b := none) (by rw [show thenF (optF os 6) none = optF os 6 by cases optF os 6 <;> rfl]; exact q) fun H1 e1 q1 => ?_⟩
    walk_at "go"
    refine isiR T (RO.same e1 (.one ⟨dx, h⟩ ht hw)) (y := "Some") (by decide) ?_
    walk_at "go"
    show if false = true then _ else _
    walk_at "go"
    exact q1 H1 (Same.refl _)
  | @some a t nn os w2 wv h ht hw =>
    show if false = true then _ else _
    refine w_iteF ?_
    walk_at "go"
    refine isiR T (.some h ht hw) (y := "Some") (by decide) ?_
    walk_at "go"
    show if true = true then _ else _
    walk_at "go"
    obtain ⟨dx, h⟩ := id h
    refine ⟨a, _, dx, _, _, rfl, h, T.cl_Some, T.n_Some_options, rfl, ?_⟩
    walk_at "go"
    refine ⟨t, os, 4, rfl, ht, hB.ol, hB.os, ?_⟩
    exact q
  | number h h2 =>
    show if false = true then _ else _
    refine w_iteF ?_
    walk_at "go"
    refine isiR T (.number h h2) (y := "Some") (by decide) ?_
    walk_at "go"
    show if false = true then _ else _
    walk_at "go"
    exact q H (Same.refl _)
  | check h h2 h3 =>
    show if false = true then _ else _
    refine w_iteF ?_
    walk_at "go"
    refine isiR T (.check h h2 h3) (y := "Some") (by decide) ?_
    walk_at "go"
    show if false = true then _ else _
    walk_at "go"
    exact q H (Same.refl _)
  | sect h h2 h3 h4 =>
    show if false = true then _ else _
    refine w_iteF ?_
    walk_at "go"
    refine isiR T (.sect h h2 h3 h4) (y := "Some") (by decide) ?_
    walk_at "go"
    show if false = true then _ else _
    walk_at "go"
    exact q H (Same.refl _)
  | rounds h h2 h3 h4 =>
    show if false = true then _ else _
    refine w_iteF ?_
    walk_at "go"
    refine isiR T (.rounds h h2 h3 h4) (y := "Some") (by decide) ?_
    walk_at "go"
    show if false = true then _ else _
    walk_at "go"
    exact q H (Same.refl _)
theorem sc_check_bounds : FnScope ["row"] ["row"] (defScope s_check_bounds) := ⟨rfl, rfl, rfl, by decide +kernel, rfl, by decide +kernel, by decide +kernel⟩
theorem ok_check_bounds (T : Tx K mg) (n : Nat) : Ok P w K mg base 3 (He.ga K "check_bounds") ["row"] (spCk K n ckBound) := by
  obtain ⟨fd, F⟩ := T.f_check_bounds
  refine ⟨fd, F.ok sc_check_bounds (fun vs H Q E h => ?_) (fun cdv A outer s H vs Q E hr h => ?_), F.bindsN fun _ _ _ _ _ _ us hl => match us, hl with | [_], _ => rfl, F.kp⟩
  · obtain ⟨v, r, rfl, _⟩ := h
    rfl
  obtain ⟨v, r, rfl, hv, hB, q⟩ := h
  refine ⟨_, pss_one (ps_if (pw_and (pt_val (pe_callB call_isi (by rfl) T.z_isinstance (by decide +kernel) (pa_cons (pv 0) (pa_cons (pe_gref T.g_Number) pa_nil)))) (pw_and1 (pt_cmpR op_gt (pe_fld (pv 0) rfl) (pe_fld (pv 0) rfl) (nomark _)))).pt
    (pss_one (ps_err2 (T.err (x := "BadCount") (by decide)) T.m_BadCount_init (ok_BadCount T) hr T.g_BadCount (takes_of rfl rfl rfl rfl) pe_str (pe_fld (pv 0) rfl))) pss_nil), ?_⟩
  walk_at "go"
  refine isiR T hv (y := "Number") (by decide) ?_
  walk_at "go"
  cases hv with
  | @number a nn lo hi w2 wv h hw =>
    obtain ⟨dx, h⟩ := h
    show if true = true then _ else _
    walk_at "go"
    refine ⟨a, _, dx, _, _, rfl, h, T.cl_Number, T.n_Number_low, rfl, ?_⟩
    walk_at "go"
    refine ⟨a, _, dx, _, _, rfl, h, T.cl_Number, T.n_Number_high, rfl, ?_⟩
    walk_at "go"
    by_cases c : hi < lo
    · have q' : End K (some (.count "bounds" hi)) H Q E := by
        have : ckBound (.number nn lo hi w2) = some (.count "bounds" hi) := if_pos c
        rw [← this]
        exact q
      rw [decide_eq_true c]
      walk_at "go"
      refine w_err2 ?_
      walk_at "go"
      refine ⟨a, _, dx, _, _, rfl, h, T.cl_Number, T.n_Number_high, rfl, ?_⟩
      exact gErr2_of fun dd H3 e3 h5 => q' _ _ H3 e3 ⟨rfl, dd, rfl, h5⟩
    · have q' : End K none H Q E := by
        have : ckBound (.number nn lo hi w2) = none := if_neg c
        rw [← this]
        exact q
      rw [decide_eq_false c]
      walk_at "go"
      exact q' H (Same.refl _)
  | _ =>
    show if false = true then _ else _
    walk_at "go"
    exact q H (Same.refl _)
theorem sc_check_inner_rows : FnScope ["row", "around"] ["row", "around"] (defScope s_check_inner_rows) := ⟨rfl, rfl, rfl, by decide +kernel, rfl, by decide +kernel, by decide +kernel⟩
theorem ok_check_inner_rows (T : Tx K mg) (n : Nat) : Ok P w K mg base 3 (He.ga K "check_inner_rows") ["row", "around"] (spCkA K n ckInner) := by
  obtain ⟨fd, F⟩ := T.f_check_inner_rows
  refine ⟨fd, F.ok sc_check_inner_rows (fun vs H Q E h => ?_) (fun cdv A outer s H vs Q E hr h => ?_), F.bindsN fun _ _ _ _ _ _ us hl => match us, hl with | [_, _], _ => rfl, F.kp⟩
  · obtain ⟨v, r, ar, rfl, _⟩ := h
    rfl
  obtain ⟨v, r, ar, rfl, hv, hB, q⟩ := h
  refine ⟨_, pss_cons (ps_if (pw_and (pt_val (pe_callB call_isiT (by rfl) T.z_isinstance (by decide +kernel) (pa_cons (pv 0) (pa_cons (pe_tup (pa_cons (pe_gref T.g_Section) (pa_cons (pe_gref T.g_Rounds) pa_nil))) pa_nil)))) (pw_and1 (pt_cmpR op_eq (pe_callB call_len_seq (by rfl) T.z_len PySem.boot_len (pa_cons (pe_fld (pv 0) rfl) pa_nil)) pe_int (nomark _)))).pt
      (pss_one (ps_err2 (T.err (x := "BadCount") (by decide)) T.m_BadCount_init (ok_BadCount T) hr T.g_BadCount (takes_of rfl rfl rfl rfl) pe_str pe_int)) pss_nil)
    (pss_one (ps_if (pw_and (pt_val (pe_callB call_isi (by rfl) T.z_isinstance (by decide +kernel) (pa_cons (pv 0) (pa_cons (pe_gref T.g_Rounds) pa_nil)))) (pw_and1 (pt_cmp (pc_notN (pv 1))))).pt
      (pss_one (ps_err2 (T.err (x := "BadCount") (by decide)) T.m_BadCount_init (ok_BadCount T) hr T.g_BadCount (takes_of rfl rfl rfl rfl) pe_str pe_int)) pss_nil)), ?_⟩
  walk_at "go"
  refine ⟨(by show 2 ≤ sizeLine; decide), fun p hp => ?_⟩
  have e0 : Same H (upd H p (.tup [.ref (He.ga K "Section"), .ref (He.ga K "Rounds")])) := Same.new hp _
  have hv0 := hv.same e0
  have q0 := q.mono e0
  have hp0 : (upd H p (.tup [.ref (He.ga K "Section"), .ref (He.ga K "Rounds")])) p = some (.tup [.ref (He.ga K "Section"), .ref (He.ga K "Rounds")]) := upd_same
  walk_at "go"
  generalize upd H p (.tup [.ref (He.ga K "Section"), .ref (He.ga K "Rounds")]) = H0 at e0 hv0 q0 hp0
  refine isiR2 T hv0 (y := "Section") (z := "Rounds") hp0 (by decide) (by decide) ?_
  walk_at "go"
  have lenz : ∀ (k : Nat), decide (V.int (k : Int) = V.int 0) = decide (k = 0) := fun k => by simp
  cases hv0 with
  | @sect a t xs rs w2 wv h ht hrs hw =>
    obtain ⟨dx, h⟩ := id h
    show if true = true then _ else _
    walk_at "go"
    refine ⟨a, _, dx, _, _, rfl, h, T.cl_Section, T.n_Section_rows, rfl, ?_⟩
    walk_at "go"
    refine ⟨t, xs, rfl, .inr ht, ?_⟩
    walk_at "go"
    refine ⟨rfl, ?_⟩
    walk_at "go"
    rw [lenz, hrs.length]
    by_cases c : rs.length = 0
    · have q' : End K (some (.count "rows" 0)) H0 Q E := by
        have : ckInner (.sect rs w2) ar = some (.count "rows" 0) := if_pos c
        rw [← this]
        exact q0
      rw [decide_eq_true c]
      walk_at "go"
      refine w_err2 ?_
      walk_at "go"
      exact gErr2_of fun dd H3 e3 h5 => q' _ _ H3 e3 ⟨rfl, dd, rfl, h5⟩
    · have q' : End K none H0 Q E := by
        have : ckInner (.sect rs w2) ar = none := if_neg c
        rw [← this]
        exact q0
      rw [decide_eq_false c]
      walk_at "go"
      refine isiR T (.sect ⟨dx, h⟩ ht hrs hw) (y := "Rounds") (by decide) ?_
      walk_at "go"
      show if false = true then _ else _
      walk_at "go"
      exact q' H0 (Same.refl _)
  | @rounds a t nn xs rs w2 wv h ht hrs hw =>
    obtain ⟨dx, h⟩ := id h
    show if true = true then _ else _
    walk_at "go"
    refine ⟨a, _, dx, _, _, rfl, h, T.cl_Rounds, T.n_Rounds_rows, rfl, ?_⟩
    walk_at "go"
    refine ⟨t, xs, rfl, .inr ht, ?_⟩
    walk_at "go"
    refine ⟨rfl, ?_⟩
    walk_at "go"
    rw [lenz, hrs.length]
    by_cases c : rs.length = 0
    · have q' : End K (some (.count "rows" 0)) H0 Q E := by
        have : ckInner (.rounds nn rs w2) ar = some (.count "rows" 0) := if_pos c
        rw [← this]
        exact q0
      rw [decide_eq_true c]
      walk_at "go"
      refine w_err2 ?_
      walk_at "go"
      exact gErr2_of fun dd H3 e3 h5 => q' _ _ H3 e3 ⟨rfl, dd, rfl, h5⟩
    · rw [decide_eq_false c]
      walk_at "go"
      refine isiR T (.rounds ⟨dx, h⟩ ht hrs hw) (y := "Rounds") (by decide) ?_
      walk_at "go"
      show if true = true then _ else _
      walk_at "go"
      have q1 : End K (if ar = none then none else some (.count "rounds" 2)) H0 Q E := by
        have : ckInner (.rounds nn rs w2) ar = if ar = none then none else some (.count "rounds" 2) := if_neg c
        rw [← this]
        exact q0
      rw [show decide (oV ar = V.non) = decide (ar = none) from oV_eq (b := none)]
      by_cases c2 : ar = none
      · rw [if_pos c2] at q1
        rw [decide_eq_true c2]
        walk_at "go"
        exact q1 H0 (Same.refl _)
      · rw [if_neg c2] at q1
        rw [decide_eq_false c2]
        walk_at "go"
        refine w_err2 ?_
        walk_at "go"
        exact gErr2_of fun dd H3 e3 h5 => q1 _ _ H3 e3 ⟨rfl, dd, rfl, h5⟩
  | one h1' h2' h3' =>
    show if false = true then _ else _
    walk_at "go"
    refine isiR T (.one h1' h2' h3') (y := "Rounds") (by decide) ?_
    walk_at "go"
    show if false = true then _ else _
    walk_at "go"
    exact q0 H0 (Same.refl _)
  | some h1' h2' h3' =>
    show if false = true then _ else _
    walk_at "go"
    refine isiR T (.some h1' h2' h3') (y := "Rounds") (by decide) ?_
    walk_at "go"
    show if false = true then _ else _
    walk_at "go"
    exact q0 H0 (Same.refl _)
  | number h1' h2' =>
    show if false = true then _ else _
    walk_at "go"
    refine isiR T (.number h1' h2') (y := "Rounds") (by decide) ?_
    walk_at "go"
    show if false = true then _ else _
    walk_at "go"
    exact q0 H0 (Same.refl _)
  | check h1' h2' h3' =>
    show if false = true then _ else _
    walk_at "go"
    refine isiR T (.check h1' h2' h3') (y := "Rounds") (by decide) ?_
    walk_at "go"
    show if false = true then _ else _
    walk_at "go"
    exact q0 H0 (Same.refl _)
end
end K3
end P10_part
section P11_part
set_option Elab.async false
set_option linter.all false
set_option maxRecDepth 100000
set_option maxHeartbeats 1000000
set_option pp.deepTerms true
open PySem PySem.Spec PyProof.Rows L2
/-- go on as far as nothing is open -/
local macro_rules | `(tactic| walk_at "go") => `(tactic| repeat (first
  | with_reducible refine w_seq ?_ | with_reducible refine w_next ?_ | with_reducible refine w_set ?_ | with_reducible refine w_drop ?_ | with_reducible refine w_ret ?_ | with_reducible refine w_retN ?_
  | with_reducible refine w_if ?_ | ((with_reducible refine' w_var ?hv ?_); (case hv => exact rfl)) | with_reducible refine w_c ?_ | with_reducible refine w_nil ?_ | with_reducible refine w_cons ?_ | with_reducible refine w_op ?_ | with_reducible refine w_un ?_
  | with_reducible refine w_test ?_ | with_reducible refine w_tB ?_ | with_reducible refine w_not ?_ | with_reducible refine w_and ?_ | with_reducible refine w_or ?_ | with_reducible refine w_bl ?_
  | with_reducible refine w_andV ?_ | with_reducible refine w_orV ?_ | with_reducible refine w_notV ?_ | with_reducible refine w_ifE ?_ | with_reducible refine w_chain ?_ | with_reducible refine w_i0 ?_
  | with_reducible refine w_call ?_ | with_reducible refine w_callS ?_ | with_reducible refine w_cB ?_ | with_reducible refine w_tup ?_ | with_reducible refine w_lst ?_ | with_reducible refine w_fldV ?_
  | with_reducible refine w_neF ?_ | with_reducible refine w_neT ?_ | with_reducible refine w_notN ?_ | with_reducible refine w_isN ?_ | with_reducible refine w_gname ?_ | with_reducible refine w_gsub ?_ | with_reducible refine w_asg ?_ | with_reducible refine w_yes ?_ | with_reducible refine w_nT ?_ | with_reducible refine w_nF ?_ | with_reducible refine w_iteT ?_ | with_reducible refine w_iteF ?_))
namespace K3
section
variable {P : Program} {w : World} {K : PySem.W.Frag} {mg : Str → Option Value} {base : Heap}
theorem isQ_isN {r : Rw} (h : r.isQ = true) : r.isN = true := by cases r <;> first | rfl | cases h
theorem quest_isQ {L : AL} {z : Str} {ar : Option Nat} {r : Rw} (h : quest L z ar = .inr r) : r.isQ = true := by
  unfold quest at h
  split at h
  · cases h
  · split at h
    · split at h
      · cases h
      · cases h
        assumption
    · cases h
theorem sc_check_count : FnScope ["row", "around", "ahead", "question"] ["row", "around", "ahead"] (defScope s_check_count) := ⟨rfl, rfl, rfl, by decide +kernel, rfl, by decide +kernel, by decide +kernel⟩
theorem ok_check_count (T : Tx K mg) (n : Nat) : Ok P w K mg base 4 (He.ga K "check_count") ["row", "around", "ahead"] (spCkLA K n ckCount) := by
  obtain ⟨fd, F⟩ := T.f_check_count
  refine ⟨fd, F.ok sc_check_count (fun vs H Q E h => ?_) (fun cdv A outer s H vs Q E hr h => ?_), F.bindsN fun _ _ _ _ _ _ us hl => match us, hl with | [_, _, _], _ => rfl, F.kp⟩
  · obtain ⟨v, r, ar, d, L, rfl, _⟩ := h
    rfl
  obtain ⟨v, r, ar, d, L, rfl, hv, hB, hL, q⟩ := h
  refine ⟨_, pss_cons (ps_if (pt_not (pt_val (pe_callB call_isi (by rfl) T.z_isinstance (by decide +kernel) (pa_cons (pv 0) (pa_cons (pe_gref T.g_Rounds) pa_nil))))) (pss_one ps_retN) pss_nil)
    (pss_cons (ps_set (i := 3) sc_check_count.nd rfl (Or.inl rfl) (pe_fE (takes_of rfl rfl rfl rfl) (ok_question_ahead T) hr T.g_question_ahead (pa_cons (pe_fld (pv 0) rfl) (pa_cons (pv 1) (pa_cons (pv 2) pa_nil)))))
    (pss_one (ps_if (pw_or (pt_not (pt_val (pe_callB call_isi (by rfl) T.z_isinstance (by decide +kernel) (pa_cons (pv 3) (pa_cons (pe_gref T.g_Number) pa_nil))))) (pw_or (pt_cmpR op_lt (pe_fld (pv 3) rfl) pe_int (nomark _)) (pw_or1 (pt_cmpR op_gt (pe_fld (pv 3) rfl) (pe_gint T.i_MOST_ROUNDS) (nomark _))))).pt
      (pss_one (ps_err1 (T.err (x := "NoFit") (by decide)) T.m_NoFit_init (ok_NoFit T) (hr.mono (by decide)) T.g_NoFit (takes_of rfl rfl rfl rfl) (pe_fld (pv 3) rfl))) pss_nil))), ?_⟩
  walk_at "go"
  refine isiR T hv (y := "Rounds") (by decide) ?_
  walk_at "go"
  cases hv with
  | @rounds a t nn xs rs w2 wv h ht hrs hw =>
    obtain ⟨dx, h⟩ := h
    show if (!true) = true then _ else _
    walk_at "go"
    refine ⟨a, _, dx, _, _, rfl, h, T.cl_Rounds, T.n_Rounds_count, rfl, ?_⟩
    walk_at "go"
    refine ⟨nn, ar, d, L, rfl, hL, ?_⟩
    have ec : ckCount L (.rounds nn rs w2) ar = match quest L nn ar with
      | .inl f => some f
      | .inr q => fitN q := rfl
    rw [ec] at q
    cases hq : quest L nn ar with
    | inl f =>
      rw [hq] at q
      exact q
    | inr r2 =>
      rw [hq] at q
      have q : End K (fitN r2) H Q E := q
      intro u H1 e1 hu
      have q1 := q.mono e1
      have hN := isQ_isN (quest_isQ hq)
      obtain ⟨a2, dx2, fs2, rfl, hi2, hcl2, hna2, hlk2⟩ := ro_name T hu hN
      have fit : ∀ (Q' : VK) (W : WX) (σ : L2.St) (D : Ends), σ[3]? = some (some (.ref a2)) → End K (some (.fit r2.name)) H1 Q E → tErr1 K "NoFit" "name" (tFld K (tVar 3) "name") (fun cls d _ H => E cls d H) D σ H1 := by
        intro Q' W σ D hσ qf
        refine w_err1 ?_
        refine ⟨_, hσ, a2, _, dx2, fs2, _, rfl, hi2, hcl2, hna2, hlk2, ?_⟩
        exact gErr1_of fun dd H3 e3 h5 => qf _ _ H3 e3 ⟨rfl, dd, rfl, h5⟩
      walk_at "go"
      refine isiR T hu (y := "Number") (by decide) ?_
      walk_at "go"
      cases hu with
      | @number a3 n3 lo hi w3 wv3 h3 hw3 =>
        obtain ⟨dx3, h3⟩ := h3
        show if (!true) = true then _ else _
        walk_at "go"
        refine ⟨a2, _, dx3, _, _, rfl, h3, T.cl_Number, T.n_Number_low, rfl, ?_⟩
        walk_at "go"
        have ef : fitN (.number n3 lo hi w3) = if lo < 0 then some (.fit n3) else if 4 < hi then some (.fit n3) else none := rfl
        rw [ef] at q1
        by_cases c1 : lo < 0
        · rw [if_pos c1] at q1
          rw [decide_eq_true c1]
          walk_at "go"
          exact fit (fun _ _ => True) (fun _ _ _ _ => True) _ _ rfl q1
        · rw [if_neg c1] at q1
          rw [decide_eq_false c1]
          walk_at "go"
          refine ⟨a2, _, dx3, _, _, rfl, h3, T.cl_Number, T.n_Number_high, rfl, ?_⟩
          walk_at "go"
          by_cases c2 : 4 < hi
          · rw [if_pos c2] at q1
            rw [decide_eq_true c2]
            walk_at "go"
            exact fit (fun _ _ => True) (fun _ _ _ _ => True) _ _ rfl q1
          · rw [if_neg c2] at q1
            rw [decide_eq_false c2]
            walk_at "go"
            exact q1 H1 (Same.refl _)
      | _ =>
        show if (!false) = true then _ else _
        walk_at "go"
        exact fit (fun _ _ => True) (fun _ _ _ _ => True) _ _ rfl q1
  | _ =>
    show if (!false) = true then _ else _
    walk_at "go"
    exact q H (Same.refl _)
theorem co_name (T : Tx K mg) {H : Hp} {v : V} {c : Cd} (h : CO K H v c) (hn : c.isS = true) : ∃ a dx fs, v = .ref a ∧ H a = some (.ins (He.ga K c.nm) dx fs) ∧ Cls K (He.ga K c.nm) ∧ NoAttr K (He.ga K c.nm) "name" ∧ fs.lookup ("name" : Str) = some (.str c.name) := by
  cases h with
  | is h => obtain ⟨dx, h⟩ := h; exact ⟨_, dx, _, rfl, h, T.cl_Is, T.n_Is_name, rfl⟩
  | has h => obtain ⟨dx, h⟩ := h; exact ⟨_, dx, _, rfl, h, T.cl_Has, T.n_Has_name, rfl⟩
  | over h => obtain ⟨dx, h⟩ := h; exact ⟨_, dx, _, rfl, h, T.cl_Above, T.n_Above_name, rfl⟩
  | under h => obtain ⟨dx, h⟩ := h; exact ⟨_, dx, _, rfl, h, T.cl_Below, T.n_Below_name, rfl⟩
  | no h _ => cases hn
  | both h _ _ => cases hn
  | either h _ _ => cases hn
theorem ckConds_take (L : AL) (ar : Option Nat) {cs : List Cd} : ∀ {i : Nat} {c : Cd}, cs[i]? = some c → ckConds L ar (cs.take i) = none → (ckCond L ar c = none → ckConds L ar (cs.take (i + 1)) = none) ∧ (∀ f, ckCond L ar c = some f → ckConds L ar cs = some f) := by
  induction cs with
  | nil => intro i z h; simp at h
  | cons a r ih =>
    intro i z h hn
    cases i with
    | zero =>
      have e : a = z := by simpa using h
      subst e
      refine ⟨fun h => ?_, fun f h => ?_⟩
      · show thenF (ckCond L ar a) none = none
        rw [h] <;> rfl
      · show thenF (ckCond L ar a) _ = _
        rw [h] <;> rfl
    | succ i =>
      have hn' : thenF (ckCond L ar a) (ckConds L ar (r.take i)) = none := hn
      cases ha : ckCond L ar a with
      | some f => rw [ha] at hn'; cases hn'
      | none =>
        rw [ha] at hn'
        have q := ih (i := i) (c := z) (by simpa using h) hn'
        refine ⟨fun h => ?_, fun f h => ?_⟩
        · show thenF (ckCond L ar a) (ckConds L ar (r.take (i + 1))) = none
          rw [ha]
          exact q.1 h
        · show thenF (ckCond L ar a) (ckConds L ar r) = some f
          rw [ha]
          exact q.2 f h
theorem sc_check_conditions : FnScope ["row", "around", "ahead", "condition", "question"] ["row", "around", "ahead"] (defScope s_check_conditions) := ⟨rfl, rfl, rfl, by decide +kernel, rfl, by decide +kernel, by decide +kernel⟩
theorem ok_check_conditions (T : Tx K mg) (n : Nat) : Ok P w K mg base (n + 4) (He.ga K "check_conditions") ["row", "around", "ahead"] (spCkLA K n fun L r ar => ckConds L ar r.conds) := by
  obtain ⟨fd, F⟩ := T.f_check_conditions
  refine ⟨fd, F.ok (k := n + 3) sc_check_conditions (fun vs H Q E h => ?_) (fun cdv A outer s H vs Q E hr h => ?_), F.bindsN fun _ _ _ _ _ _ us hl => match us, hl with | [_, _, _], _ => rfl, F.kp⟩
  · obtain ⟨v, r, ar, d, L, rfl, _⟩ := h
    rfl
  obtain ⟨v, r, ar, d, L, rfl, hv, hB, hL, q⟩ := h
  refine ⟨_, pss_one (ps_for (passes_of rfl) rfl (pi_list (pe_f (ok_conditions_of T n) (hr.mono (by omega)) T.g_conditions_of (pa_cons (pv 0) pa_nil))) (pg_name (i := 3) sc_check_conditions.nd rfl (Or.inl rfl))
      (pss_cons (ps_set (i := 4) sc_check_conditions.nd rfl (Or.inl rfl) (pe_fE (takes_of rfl rfl rfl rfl) (ok_question_ahead T) (hr.mono (by omega)) T.g_question_ahead (pa_cons (pe_fld (pv 3) rfl) (pa_cons (pv 1) (pa_cons (pv 2) pa_nil)))))
      (pss_one (ps_if (pt_not (pt_val (pe_f (ok_suits T) (hr.mono (by omega)) T.g_suits (pa_cons (pv 3) (pa_cons (pv 4) pa_nil)))))
        (pss_one (ps_err1 (T.err (x := "NoFit") (by decide)) T.m_NoFit_init (ok_NoFit T) (hr.mono (by omega)) T.g_NoFit (takes_of rfl rfl rfl rfl) (pe_fld (pv 4) rfl))) pss_nil)))), ?_⟩
  walk_at "go"
  refine ⟨_, rfl, ?_⟩
  walk_at "go"
  refine ⟨v, r, rfl, hv, hB.cd, hB.c1, hB.c2, fun p H0 xs hp e0 h0 hxs => ?_⟩
  refine ⟨p, rfl, ⟨_, SqL.of h0⟩, ?_⟩
  have q0 : End K (ckConds L ar r.conds) H0 Q E := End.mono q e0
  have hL0 := hL.same e0
  refine for_list (K := K) (a := p) (xs := xs) (fun (i : Nat) σ H' => ∃ v3 v4 : Option V, σ = [some v, some (oV ar), some (.ref d), v3, v4] ∧ Same H0 H' ∧ ckConds L ar (r.conds.take i) = none) ⟨none, none, rfl, Same.refl _, rfl⟩ (fun i σ H' _ ⟨_, _, _, e, _⟩ => e.seq (SqL.of h0)) ?_ ?_
  · rintro i x σ H1 hi ⟨v3, v4, rfl, e1, hn⟩
    obtain ⟨c, hc1, hx⟩ := K3.Paired.get hxs hi
    have hx1 := hx.same e1
    have hS := conds_isS r c (List.mem_of_getElem? hc1)
    have tk := ckConds_take L ar hc1 hn
    obtain ⟨a, dx, fs, rfl, hia, hcl, hna, hlk⟩ := co_name T hx1 hS
    have hL1 := hL0.same e1
    walk_at "go"
    refine ⟨a, _, dx, fs, _, rfl, hia, hcl, hna, hlk, ?_⟩
    walk_at "go"
    refine ⟨c.name, ar, d, L, rfl, hL1, ?_⟩
    cases hq : quest L c.name ar with
    | inl f =>
      intro cls dd H2 e2 h2
      have q1 := q0
      rw [tk.2 f (by unfold ckCond; rw [hq])] at q1
      exact q1 cls dd H2 (e1.trans e2) h2
    | inr r2 =>
      intro u H2 e2 hu
      have hN := isQ_isN (quest_isQ hq)
      have ec : ckCond L ar c = if suitsB c r2 then none else some (.fit r2.name) := by unfold ckCond; rw [hq]
      walk_at "go"
      refine ⟨.ref a, u, c, r2, rfl, hx1.same e2, hu, fun H3 e3 => ?_⟩
      have hu3 := hu.same e3
      obtain ⟨a2, dx2, fs2, rfl, hi2, hcl2, hna2, hlk2⟩ := ro_name T hu3 hN
      cases hs : suitsB c r2 with
      | true =>
        rw [hs] at ec
        walk_at "go"
        exact ⟨_, _, rfl, (e1.trans e2).trans e3, tk.1 ec⟩
      | false =>
        rw [hs] at ec
        walk_at "go"
        refine w_err1 ?_
        walk_at "go"
        refine ⟨a2, _, dx2, fs2, _, rfl, hi2, hcl2, hna2, hlk2, ?_⟩
        have q1 := q0
        rw [tk.2 _ ec] at q1
        exact gErr1_of fun dd H4 e4 h5 => q1 _ _ H4 (((e1.trans e2).trans e3).trans e4) ⟨rfl, dd, rfl, h5⟩
  · rintro σ H1 ⟨v3, v4, rfl, e1, hn⟩
    rw [hxs.length, List.take_length] at hn
    rw [hn] at q0
    exact q0 H1 e1
end
end K3
end P11_part
section P12_part
set_option Elab.async false
set_option linter.all false
set_option maxRecDepth 100000
set_option maxHeartbeats 1000000
set_option pp.deepTerms true
open PySem PySem.Spec PyProof.Rows L2
/-- go on as far as nothing is open -/
local macro_rules | `(tactic| walk_at "go") => `(tactic| repeat (first
  | with_reducible refine w_seq ?_ | with_reducible refine w_next ?_ | with_reducible refine w_set ?_ | with_reducible refine w_drop ?_ | with_reducible refine w_ret ?_ | with_reducible refine w_retN ?_
  | with_reducible refine w_if ?_ | ((with_reducible refine' w_var ?hv ?_); (case hv => exact rfl)) | with_reducible refine w_c ?_ | with_reducible refine w_nil ?_ | with_reducible refine w_cons ?_ | with_reducible refine w_op ?_ | with_reducible refine w_un ?_
  | with_reducible refine w_test ?_ | with_reducible refine w_tB ?_ | with_reducible refine w_not ?_ | with_reducible refine w_and ?_ | with_reducible refine w_or ?_ | with_reducible refine w_bl ?_
  | with_reducible refine w_andV ?_ | with_reducible refine w_orV ?_ | with_reducible refine w_notV ?_ | with_reducible refine w_ifE ?_ | with_reducible refine w_chain ?_ | with_reducible refine w_i0 ?_
  | with_reducible refine w_call ?_ | with_reducible refine w_callS ?_ | with_reducible refine w_cB ?_ | with_reducible refine w_tup ?_ | with_reducible refine w_lst ?_ | with_reducible refine w_fldV ?_
  | with_reducible refine w_neF ?_ | with_reducible refine w_neT ?_ | with_reducible refine w_notN ?_ | with_reducible refine w_isN ?_ | with_reducible refine w_gname ?_ | with_reducible refine w_gsub ?_ | with_reducible refine w_asg ?_ | with_reducible refine w_yes ?_ | with_reducible refine w_nT ?_ | with_reducible refine w_nF ?_ | with_reducible refine w_iteT ?_ | with_reducible refine w_iteF ?_))
namespace K3
def ckRows : AL → List (Rw × Option Nat) → Option Flt
  | _, [] => none
  | L, (r, ar) :: rest => thenF (ckRow L r ar) (ckRows (if r.isN then L ++ [(r.name, r, ar)] else L) rest)
def spCkRows (K : PySem.W.Frag) (n : Nat) : Sp := fun vs H Q E => ∃ (l : Addr) (zs : List V) (F : List (Rw × Option Nat)), vs = [.ref l] ∧ H l = some (.lst zs) ∧ LA K H zs F ∧ (∀ e ∈ F, RwB n e.1) ∧ F.length ≤ 1000 ∧ End K (ckRows [] F) H Q E
theorem ckRow_new {L : AL} {r : Rw} {ar : Option Nat} (h : ckRow L r ar = none) (hn : r.isN = true) : look L r.name = none := by
  unfold ckRow at h
  have h1 : ckName L r = none := by
    cases e : ckName L r with
    | none => rfl
    | some f => rw [e] at h; cases h
  unfold ckName at h1
  rw [hn, if_pos rfl] at h1
  cases e : look L r.name with
  | none => rfl
  | some x =>
    rw [e] at h1
    cases e2 : nameF r.name with
    | some f => rw [e2] at h1; cases h1
    | none => rw [e2] at h1; cases h1
section
variable {P : Program} {w : World} {K : PySem.W.Frag} {mg : Str → Option Value} {base : Heap}
theorem sc_check_row : FnScope ["row", "around", "ahead"] ["row", "around", "ahead"] (defScope s_check_row) := ⟨rfl, rfl, rfl, by decide +kernel, rfl, by decide +kernel, by decide +kernel⟩
theorem ok_check_row (T : Tx K mg) (n : Nat) : Ok P w K mg base (n + 6) (He.ga K "check_row") ["row", "around", "ahead"] (spCkLA K n ckRow) := by
  obtain ⟨fd, F⟩ := T.f_check_row
  refine ⟨fd, F.ok (k := n + 5) sc_check_row (fun vs H Q E h => ?_) (fun cdv A outer s H vs Q E hr h => ?_), F.bindsN fun _ _ _ _ _ _ us hl => match us, hl with | [_, _, _], _ => rfl, F.kp⟩
  · obtain ⟨v, r, ar, d, L, rfl, _⟩ := h
    rfl
  obtain ⟨v, r, ar, d, L, rfl, hv, hB, hL, q⟩ := h
  refine ⟨_, pss_cons (ps_expr (pe_fE (takes_of rfl rfl rfl rfl) (ok_check_name T n) (hr.mono (by omega)) T.g_check_name (pa_cons (pv 0) (pa_cons (pv 2) pa_nil))))
    (pss_cons (ps_expr (pe_fE (takes_of rfl rfl rfl rfl) (ok_check_options T n) (hr.mono (by omega)) T.g_check_options (pa_cons (pv 0) pa_nil)))
    (pss_cons (ps_expr (pe_fE (takes_of rfl rfl rfl rfl) (ok_check_bounds T n) (hr.mono (by omega)) T.g_check_bounds (pa_cons (pv 0) pa_nil)))
    (pss_cons (ps_expr (pe_fE (takes_of rfl rfl rfl rfl) (ok_check_inner_rows T n) (hr.mono (by omega)) T.g_check_inner_rows (pa_cons (pv 0) (pa_cons (pv 1) pa_nil))))
    (pss_cons (ps_expr (pe_fE (takes_of rfl rfl rfl rfl) (ok_check_count T n) (hr.mono (by omega)) T.g_check_count (pa_cons (pv 0) (pa_cons (pv 1) (pa_cons (pv 2) pa_nil)))))
    (pss_one (ps_expr (pe_fE (takes_of rfl rfl rfl rfl) (ok_check_conditions T n) (hr.mono (by omega)) T.g_check_conditions (pa_cons (pv 0) (pa_cons (pv 1) (pa_cons (pv 2) pa_nil)))))))))), ?_⟩
  unfold ckRow at q
  walk_at "go"
  refine ⟨v, r, d, L, rfl, hv, hB, hL, End_seq q fun H1 e1 q1 => ?_⟩
  walk_at "go"
  refine ⟨v, r, rfl, hv.same e1, hB, End_seq q1 fun H2 e2 q2 => ?_⟩
  walk_at "go"
  refine ⟨v, r, rfl, (hv.same e1).same e2, hB, End_seq q2 fun H3 e3 q3 => ?_⟩
  have e13 := (e1.trans e2).trans e3
  walk_at "go"
  refine ⟨v, r, ar, rfl, hv.same e13, hB, End_seq q3 fun H4 e4 q4 => ?_⟩
  have e14 := e13.trans e4
  walk_at "go"
  refine ⟨v, r, ar, d, L, rfl, hv.same e14, hB, hL.same e14, End_seq q4 fun H5 e5 q5 => ?_⟩
  have e15 := e14.trans e5
  walk_at "go"
  exact ⟨v, r, ar, d, L, rfl, hv.same e15, hB, hL.same e15, q5⟩
theorem sc_check_rows : FnScope ["laid", "ahead", "row", "around"] ["laid"] (defScope s_check_rows) := ⟨rfl, rfl, rfl, by decide +kernel, rfl, by decide +kernel, by decide +kernel⟩
theorem ok_check_rows (T : Tx K mg) (n : Nat) : Ok P w K mg base (n + 7) (He.ga K "check_rows") ["laid"] (spCkRows K n) := by
  obtain ⟨fd, F⟩ := T.f_check_rows
  refine ⟨fd, F.ok (k := n + 6) sc_check_rows (fun vs H Q E h => ?_) (fun cdv A outer s H vs Q E hr h => ?_), F.bindsN fun _ _ _ _ _ _ us hl => match us, hl with | [_], _ => rfl, F.kp⟩
  · obtain ⟨l, zs, F, rfl, _⟩ := h
    rfl
  obtain ⟨l, zs, F, rfl, hl, hF, hB, hz, q⟩ := h
  refine ⟨_, pss_cons (ps_set (i := 1) sc_check_rows.nd rfl (Or.inl rfl) pe_dnewK)
    (pss_one (ps_for (passes_of rfl) rfl (pi_list (pv 0)) (pg_tup rfl (pgs_cons (pg_name (i := 2) sc_check_rows.nd rfl (Or.inl rfl)) (pgs_cons (pg_name (i := 3) sc_check_rows.nd rfl (Or.inl rfl)) pgs_nil)))
      (pss_cons (ps_expr (pe_fE (takes_of rfl rfl rfl rfl) (ok_check_row T n) hr T.g_check_row (pa_cons (pv 2) (pa_cons (pv 3) (pa_cons (pv 1) pa_nil)))))
      (pss_one (ps_if (pt_val (pe_f (ok_is_named T) (hr.mono (by omega)) T.g_is_named (pa_cons (pv 2) pa_nil))) (pss_one (ps_dput (hu_of hr) (pv 1) (pe_fld (pv 2) rfl) (pe_tup (pa_cons (pv 2) (pa_cons (pv 3) pa_nil))) rfl)) pss_nil))))), ?_⟩
  walk_at "go"
  intro d hd
  walk_at "go"
  refine ⟨_, rfl, l, rfl, ⟨_, SqL.of (Same.new hd _ _ _ hl)⟩, ?_⟩
  have lF := hF.length
  refine for_list (K := K) (a := l) (xs := zs) (fun (i : Nat) σ H' => ∃ (v2 v3 : Option V) (L : AL), σ = [some (.ref l), some (.ref d), v2, v3] ∧ Same H H' ∧ AHd K H' d L ∧ L.length ≤ i ∧ ckRows [] F = ckRows L (F.drop i))
    ⟨none, none, [], rfl, Same.new hd _, ⟨[], upd_same, .nil⟩, Nat.le_refl _, rfl⟩ (fun i σ H' _ ⟨_, _, _, _, e, _⟩ => SqL.of (e _ _ hl)) ?_ ?_
  · rintro i x σ H1 hi ⟨v2, v3, L, rfl, e1, hL, hli, hck⟩
    obtain ⟨⟨r, ar⟩, hc1, t, u, rfl, ht, hu⟩ := K3.Paired.get hF hi
    have hlt : i < F.length := (List.getElem?_eq_some_iff.mp hc1).1
    have hdr : F.drop i = (r, ar) :: F.drop (i + 1) := by
      have := List.drop_eq_getElem_cons hlt
      rw [this, (List.getElem?_eq_some_iff.mp hc1).2]
    rw [hdr] at hck
    have q1 := q.mono e1
    rw [hck] at q1
    have q1 : End K (thenF (ckRow L r ar) (ckRows (if r.isN then L ++ [(r.name, r, ar)] else L) (F.drop (i + 1)))) H1 Q E := q1
    refine ⟨t, _, rfl, SqT.of (e1 _ _ ht), rfl, _, _, rfl, ?_⟩
    walk_at "go"
    refine ⟨_, _, rfl, ?_⟩
    walk_at "go"
    refine ⟨rfl, ?_⟩
    walk_at "go"
    have hu1 : RO K H1 u r := RO.same e1 hu
    refine ⟨u, r, ar, d, L, rfl, hu1, hB _ (List.mem_of_getElem? hc1), hL, ?_⟩
    cases hcr : ckRow L r ar with
    | some f =>
      rw [hcr] at q1
      exact q1
    | none =>
      rw [hcr] at q1
      intro H2 e2
      have hu2 := RO.same e2 hu1
      walk_at "go"
      refine ⟨u, r, rfl, hu2, fun H3 e3 => ?_⟩
      have hu3 := RO.same e3 hu2
      have hL3 := (hL.same e2).same e3
      have e13 := (e1.trans e2).trans e3
      cases hn : r.isN with
      | false =>
        walk_at "go"
        refine ⟨_, _, L, rfl, e13, hL3, by omega, ?_⟩
        rw [hck]
        show thenF (ckRow L r ar) (ckRows (if r.isN then _ else L) _) = _
        rw [hcr, hn] <;> rfl
      | true =>
        have hlk := ckRow_new hcr hn
        obtain ⟨a, dx, fs, rfl, hi2, hcl, hna, hlk2⟩ := ro_name T hu3 hn
        obtain ⟨kvs, hd3, hp⟩ := hL3
        have lk := hp.length
        walk_at "go"
        refine ⟨_, rfl, _, rfl, (by show 2 ≤ sizeLine; decide), fun t2 ht2 => ?_⟩
        have e4 : Same H3 (upd H3 t2 (.tup [.ref a, oV ar])) := Same.new ht2 _
        refine ⟨_, rfl, _, rfl, a, _, dx, fs, _, rfl, e4 _ _ hi2, hcl, hna, hlk2, ?_⟩
        have hv : valV kvs (Sum.inr r.name) = none := by
          rcases look_ea r.name hp with ⟨h1, _⟩ | ⟨_, _, _, _, _, h2, _⟩
          · exact h1
          · rw [hlk] at h2; cases h2
        have hput : putK kvs (Sum.inr r.name) (.ref t2) = kvs ++ [(Sum.inr r.name, .ref t2)] := by
          unfold putK
          rw [valV_any, hv, if_neg (by decide)]
        refine ⟨d, _, rfl, DPut.k (k := Sum.inr r.name) (e4 _ _ hd3) (Nat.lt_of_le_of_lt (show kvs.length ≤ 1000 by omega) (by decide)), ?_⟩
        rw [hput]
        have si : SI H3 (upd (upd H3 t2 (.tup [.ref a, oV ar])) d (.dK (kvs ++ [(Sum.inr r.name, .ref t2)]))) := e4.si.trans (SI.upd (e4 _ _ hd3) rfl _)
        refine ⟨_, _, L ++ [(r.name, r, ar)], rfl, (e13.trans e4).mut hd, ⟨_, upd_same, ?_⟩, by rw [List.length_append]; exact Nat.succ_le_succ hli, ?_⟩
        · refine K3.Paired.app (L2.Paired.mapP hp fun _ _ z => z.si si) (.cons ⟨rfl, t2, .ref a, rfl, ?_, RO.si si hu3⟩ .nil)
          rw [upd_ne (fun z => by rw [← z, ht2] at hd3; cases hd3)]
          exact upd_same
        · rw [hck]
          show thenF (ckRow L r ar) (ckRows (if r.isN then _ else L) _) = _
          rw [hcr, hn] <;> rfl
  · rintro σ H1 ⟨v2, v3, L, rfl, e1, hL, hli, hck⟩
    rw [lF, List.drop_eq_nil_of_le (Nat.le_refl _)] at hck
    have q1 := q.mono e1
    rw [hck] at q1
    exact q1 H1 (Same.refl _)
end
end K3
end P12_part
section P13_part
set_option Elab.async false
set_option linter.all false
set_option maxRecDepth 100000
set_option maxHeartbeats 1000000
set_option pp.deepTerms true
open PySem PySem.Spec PyProof.Rows L2
/-- go on as far as nothing is open -/
local macro_rules | `(tactic| walk_at "go") => `(tactic| repeat (first
  | with_reducible refine w_seq ?_ | with_reducible refine w_next ?_ | with_reducible refine w_set ?_ | with_reducible refine w_drop ?_ | with_reducible refine w_ret ?_ | with_reducible refine w_retN ?_
  | with_reducible refine w_if ?_ | ((with_reducible refine' w_var ?hv ?_); (case hv => exact rfl)) | with_reducible refine w_c ?_ | with_reducible refine w_nil ?_ | with_reducible refine w_cons ?_ | with_reducible refine w_op ?_ | with_reducible refine w_un ?_
  | with_reducible refine w_test ?_ | with_reducible refine w_tB ?_ | with_reducible refine w_not ?_ | with_reducible refine w_and ?_ | with_reducible refine w_or ?_ | with_reducible refine w_bl ?_
  | with_reducible refine w_andV ?_ | with_reducible refine w_orV ?_ | with_reducible refine w_notV ?_ | with_reducible refine w_ifE ?_ | with_reducible refine w_chain ?_ | with_reducible refine w_i0 ?_
  | with_reducible refine w_call ?_ | with_reducible refine w_callS ?_ | with_reducible refine w_cB ?_ | with_reducible refine w_tup ?_ | with_reducible refine w_lst ?_ | with_reducible refine w_fldV ?_
  | with_reducible refine w_neF ?_ | with_reducible refine w_neT ?_ | with_reducible refine w_notN ?_ | with_reducible refine w_isN ?_ | with_reducible refine w_gname ?_ | with_reducible refine w_gsub ?_ | with_reducible refine w_asg ?_ | with_reducible refine w_yes ?_ | with_reducible refine w_nT ?_ | with_reducible refine w_nF ?_ | with_reducible refine w_iteT ?_ | with_reducible refine w_iteF ?_))
namespace K3
def formF (rs : List Rw) : Option Flt := if 1 ≤ Rws.cnt rs ∧ Rws.cnt rs ≤ 40 then ckRows [] (Rws.flat rs none 0) else some (.count "rows" (Rws.cnt rs))
def qsOf (F : List (Rw × Option Nat)) : List Rw := F.filterMap fun e => if e.1.isQ then some e.1 else none
def alOf (F : List (Rw × Option Nat)) : AL := F.filterMap fun e => if e.1.isN then some (e.1.name, e.1, e.2) else none
theorem ck_drop : ∀ {F : List (Rw × Option Nat)} {L : AL}, ckRows L F = none → ∀ {i : Nat} {e : Rw × Option Nat}, F[i]? = some e → e.1.isN = true → look (L ++ alOf (F.take i)) e.1.name = none
  | [], _, _, i, e, h, _ => by simp at h
  | (r, ar) :: F, L, hc, i, e, h, hn => by
    have hc' : thenF (ckRow L r ar) (ckRows (if r.isN then L ++ [(r.name, r, ar)] else L) F) = none := hc
    cases h1 : ckRow L r ar with
    | some f => rw [h1] at hc'; cases hc'
    | none =>
      rw [h1] at hc'
      cases i with
      | zero =>
        have e1 : (r, ar) = e := by simpa using h
        subst e1
        have : look L r.name = none := ckRow_new h1 hn
        show look (L ++ []) r.name = none
        rw [List.append_nil]
        exact this
      | succ i =>
        have ih := ck_drop (F := F) hc' (i := i) (e := e) (by simpa using h) hn
        show look (L ++ alOf ((r, ar) :: F.take i)) e.1.name = none
        unfold alOf
        cases hr : r.isN with
        | true =>
          rw [hr, if_pos rfl] at ih
          rw [List.filterMap_cons]
          simp only [hr, if_true]
          have ea : L ++ (r.name, r, ar) :: (F.take i).filterMap (fun e => if e.1.isN = true then some (e.1.name, e.1, e.2) else none) = L ++ [(r.name, r, ar)] ++ (F.take i).filterMap (fun e => if e.1.isN = true then some (e.1.name, e.1, e.2) else none) := by simp
          rw [ea]
          exact ih
        | false =>
          rw [hr] at ih
          rw [List.filterMap_cons]
          simp only [hr]
          exact ih
theorem look_all {z : Str} : ∀ {L : AL}, look L z = none → ∀ e ∈ L, e.1 ≠ z
  | [], _, e, h => by cases h
  | a :: L, hl, e, h => by
    unfold look at hl
    rw [List.find?_cons] at hl
    by_cases c : a.1 = z
    · rw [decide_eq_true c] at hl
      cases hl
    · rw [decide_eq_false c] at hl
      rcases List.mem_cons.mp h with h | h
      · rw [h]; exact c
      · exact look_all (L := L) hl e h
theorem qs_al {F : List (Rw × Option Nat)} {r : Rw} (h : r ∈ qsOf F) : ∃ e ∈ alOf F, e.1 = r.name := by
  obtain ⟨e, he, h2⟩ := List.mem_filterMap.mp h
  cases hq : e.1.isQ with
  | false => rw [hq] at h2; cases h2
  | true =>
    rw [hq, if_pos rfl] at h2
    have e1 := Option.some.inj h2
    subst e1
    refine ⟨(e.1.name, e.1, e.2), List.mem_filterMap.mpr ⟨e, he, ?_⟩, rfl⟩
    rw [if_pos (isQ_isN hq)]
/-- an entry of questions -/
def QE (K : PySem.W.Frag) (H : Hp) (kv : Key × V) (r : Rw) : Prop := kv.1 = Sum.inr r.name ∧ RO K H kv.2 r
theorem val_qe {K : PySem.W.Frag} {H : Hp} {z : Str} : ∀ {kvs : List (Key × V)} {qs : List Rw}, Paired (QE K H) kvs qs → (∀ r ∈ qs, r.name ≠ z) → valV kvs (Sum.inr z) = none
  | _, _, .nil, _ => rfl
  | _, _, .cons (a := kv) (b := r) h t, hn => by
    have e1 : ¬ kv.1 = Sum.inr z := by rw [h.1]; exact fun q => hn r (List.mem_cons_self ..) (Sum.inr.inj q)
    rw [valV_neg e1]
    exact val_qe t fun r' hr => hn r' (List.mem_cons_of_mem _ hr)
/-- a comprehension of a dict over whatever is walked -/
theorem dc_any {J : It} {n : Nat} {G : Hp → Prop} {Y : Nat → Hp → V → Hp → Prop} (wk : Walk J n G Y) {g : TG} {tt : TT} {tk tv : TE} {vs : List Nat} {σ : L2.St} {H1 : Hp} {D : Addr} {Qd : Hp → Prop} (Pv : Nat → Hp → Prop) (h0 : Pv 0 (upd H1 D (.dK [])))
    (hG : ∀ i H, i ≤ n → Pv i H → G H)
    (hs : ∀ i x H H', i < n → Pv i H → Y i H x H' → g x (wipe σ vs) H' fun σ2 H2 => wipe σ2 vs = wipe σ vs ∧ tt σ2 H2 fun b H3 =>
      if b = true then tk σ2 H3 fun y H4 => tv σ2 H4 fun z H5 => ∃ kvs k, y = kV k ∧ H5 D = some (.dK kvs) ∧ kvs.length < sizeLine ∧ Pv (i + 1) (upd H5 D (.dK (putK kvs k z))) else Pv (i + 1) H3)
    (hd : ∀ H, Pv n H → Qd H) :
    ∃ W : Nat → Nat → Hp → Prop, (∃ m, W 0 m (upd H1 D (.dK []))) ∧ ∀ i m H, W i m H → (J.stop i H ∧ Qd H) ∨ (J.go i H ∧ ∃ Nx : Hp → Prop, (∀ H', Nx H' → ∃ m', m' < m ∧ W (i + 1) m' H') ∧
      ∀ x H', J.yld i H x H' → g x (wipe σ vs) H' fun σ2 H2 => wipe σ2 vs = wipe σ vs ∧ tt σ2 H2 fun b H3 =>
        if b = true then tk σ2 H3 fun y H4 => tv σ2 H4 fun z H5 => ∃ kvs k, y = kV k ∧ H5 D = some (.dK kvs) ∧ kvs.length < sizeLine ∧ Nx (upd H5 D (.dK (putK kvs k z))) else Nx H3) := by
  refine ⟨fun i m H => m + i = n ∧ Pv i H, ⟨n, rfl, h0⟩, fun i m H w => ?_⟩
  obtain ⟨e, p⟩ := w
  by_cases c : i < n
  · exact .inr ⟨wk.goes i H c (hG i H (Nat.le_of_lt c) p), Pv (i + 1), fun H' p' => ⟨m - 1, by omega, by omega, p'⟩, fun x H' y => hs i x H H' c p (wk.yields i H x H' c (hG i H (Nat.le_of_lt c) p) y)⟩
  · have e2 : i = n := by omega
    subst e2
    exact .inl ⟨wk.stops H (hG i H (Nat.le_refl _) p), hd H p⟩
theorem w_tuple {K : PySem.W.Frag} {σ : L2.St} {i : Nat} {H : Hp} {l : Addr} {xs : List V} {Q : VK} (hσ : σ[i]? = some (some (.ref l))) (hl : SqL K H l xs ∨ SqT K H l xs) (k : ∀ t H1, Same H H1 → SqT K H1 t xs → Q (.ref t) H1) :
    tCB (fun xs H Q => ∃ p ys, xs = [V.ref p] ∧ ((SqL K H p ys ∧ ∀ l, H l = none → Q (.ref l) (upd H l (.tup ys))) ∨ (SqT K H p ys ∧ Q (.ref p) H))) (tCons (tVar i) tNil) σ H Q := by
  refine ⟨_, hσ, ?_⟩
  rcases hl with h | h
  · exact ⟨l, xs, rfl, .inl ⟨h, fun t ht => k t _ (Same.new ht _) (SqT.of upd_same)⟩⟩
  · exact ⟨l, xs, rfl, .inr ⟨h, k l H (Same.refl _) h⟩⟩
theorem putK_len {κ : Type} [DecidableEq κ] (k : κ) (v : V) : ∀ kvs : List (κ × V), (putK kvs k v).length ≤ kvs.length + 1 := fun kvs => by
  unfold putK
  split
  · rw [List.length_map]; omega
  · rw [List.length_append]; exact Nat.le_refl _
/-- whether a question of this name stands in rounds -/
def repB (F : List (Rw × Option Nat)) (z : Str) : Bool := F.any fun e => e.1.isQ && (e.2.isSome && decide (e.1.name = z))
theorem rep_take {F : List (Rw × Option Nat)} {i : Nat} {e : Rw × Option Nat} (h : F[i]? = some e) (z : Str) : repB (F.take (i + 1)) z = (repB (F.take i) z || (e.1.isQ && (e.2.isSome && decide (e.1.name = z)))) := by
  unfold repB
  rw [List.take_add_one, h, List.any_append]
  simp
theorem putK_some {κ : Type} [DecidableEq κ] {kvs : List (κ × V)} {k j : κ} {v : V} : (valV (putK kvs k v) j).isSome = ((valV kvs j).isSome || decide (k = j)) := by
  rw [← valV_any, ← valV_any]
  unfold putK
  split
  · rename_i h
    rw [List.any_map]
    have : ((fun kv : κ × V => decide (kv.1 = j)) ∘ fun kv => if kv.1 = k then (kv.1, v) else kv) = fun kv => decide (kv.1 = j) := funext fun kv => by
      show decide ((if kv.1 = k then (kv.1, v) else kv).1 = j) = _
      split <;> rfl
    rw [this]
    by_cases e : k = j
    · rw [← e, h, Bool.true_or]
    · rw [decide_eq_false e, Bool.or_false]
  · rw [List.any_append]
    simp
/-- what Form.__init__ leaves: B is what stood ahead of the new instance at x -/
def FormEnd (K : PySem.W.Frag) (rs : List Rw) (xs : List V) (x dx : Addr) (B : Hp) (Q : VK) (E : XK) : Prop := match formF rs with
  | some f => ∀ cls d H', Same B H' → IsF K f cls d H' → E cls d H'
  | none => ∀ H' t d d2 kvs kv2, Same B H' → H' x = some (.ins (He.ga K "Form") dx [("rows", .ref t), ("questions", .ref d), ("repeated", .ref d2)]) → SqT K H' t xs → H' d = some (.dK kvs) → Paired (QE K H') kvs (qsOf (Rws.flat rs none 0)) → H' d2 = some (.dK kv2) → (∀ z, (valV kv2 (Sum.inr z)).isSome = repB (Rws.flat rs none 0) z) → Q .non H'
def spForm (K : PySem.W.Frag) (n : Nat) : Sp := fun vs H Q E => ∃ (x dx l : Addr) (xs : List V) (rs : List Rw) (B : Hp), vs = [.ref x, .ref l] ∧ Same B H ∧ B x = none ∧ (SqL K B l xs ∨ SqT K B l xs) ∧ ROs K B xs rs ∧ (∀ e ∈ Rws.flat rs none 0, RwB n e.1) ∧ Rws.dep rs < n + 7 ∧ Rws.cnt rs ≤ 900 ∧
  H x = some (.ins (He.ga K "Form") dx []) ∧ FormEnd K rs xs x dx B Q E
theorem Same.but2 {B H H' : Hp} {p : Addr} (e : Same B H) (h : But p H H') (hp : B p = none) : Same B H' := fun b o q => h b o (fun z => by rw [z, hp] at q; cases q) (e b o q)
section
variable {P : Program} {w : World} {K : PySem.W.Frag} {mg : Str → Option Value} {base : Heap}
theorem sc_Form : FnScope ["self", "rows", "laid", "row", "around"] ["self", "rows"] (defScope s_Form_init) := ⟨rfl, rfl, rfl, by decide +kernel, rfl, by decide +kernel, by decide +kernel⟩
theorem ok_Form (T : Tx K mg) (n : Nat) : Ok P w K mg base (n + 8) (He.ma K (He.ga K "Form") "__init__") ["self", "rows"] (spForm K n) := by
  obtain ⟨fd, F⟩ := T.f_Form_init
  refine ⟨fd, F.ok (k := n + 7) sc_Form (fun vs H Q E h => ?_) (fun cdv A outer s H vs Q E hr h => ?_), F.bindsN fun _ _ _ _ _ _ us hl => match us, hl with | [_, _], _ => rfl, F.kp⟩
  · obtain ⟨x, dx, l, xs, rs, B, rfl, _⟩ := h
    rfl
  obtain ⟨x, dx, l, xs, rs, B, rfl, e0, hBx, hl, hxs, hB, hdep, hcnt, hx, q⟩ := h
  refine ⟨_, pss_cons (ps_fld (pv 0) (pe_callTy call_tuple_of (by rfl) T.z_tuple (by decide +kernel) (pa_cons (pv 1) pa_nil)) rfl)
    (pss_cons (ps_set (i := 2) sc_Form.nd rfl (Or.inl rfl) (pe_lst pa_nil))
    (pss_cons (ps_expr (pe_fE (takes_of rfl rfl rfl rfl) (ok_lay_out T (n + 7)) hr T.g_lay_out (pa_cons (pe_fld (pv 0) rfl) (pa_cons pe_non (pa_cons (pv 2) pa_nil)))))
    (pss_cons (ps_if (pt_not (pt_chain op_le op_le pe_int (pe_callB call_len_seq (by rfl) T.z_len PySem.boot_len (pa_cons (pv 2) pa_nil)) (pe_gint T.i_MOST_ROWS)))
      (pss_one (ps_err2 (T.err (x := "BadCount") (by decide)) T.m_BadCount_init (ok_BadCount T) (hr.mono (by omega)) T.g_BadCount (takes_of rfl rfl rfl rfl) pe_str (pe_callB call_len_seq (by rfl) T.z_len PySem.boot_len (pa_cons (pv 2) pa_nil)))) pss_nil)
    (pss_cons (ps_expr (pe_fE (takes_of rfl rfl rfl rfl) (ok_check_rows T n) hr T.g_check_rows (pa_cons (pv 2) pa_nil)))
    (pss_cons (ps_fld (pv 0) (by exact pe_dc (own := [("row", 3), ("around", 4)]) (g := gTup K 2 (gCons (gName 3) (gCons (gName 4) gNil))) (tt := tB (tCall (spRB K Rw.isQ) [] E0 (tCons (tVar 3) tNil))) (tk := tFld K (tVar 3) "name") (tv := tVar 3) (by rfl) sc_Form.nd (pi_list (pv 2)) (blkOk_by (own := [("row", 3), ("around", 4)]) (N := ["self", "rows", "laid", "row", "around"]) (sc := defScope s_Form_init) (by decide +kernel)) (fun _ _ _ _ _ => pg_tup (by rfl) (pgs_cons (pg_name (i := 3) sc_Form.nd rfl (Or.inl rfl)) (pgs_cons (pg_name (i := 4) sc_Form.nd rfl (Or.inl rfl)) pgs_nil))) (fun _ _ _ _ _ => pts_one (pt_val (pe_f (ok_is_question T) (hr.mono (by omega)) T.g_is_question (pa_cons (pv 3) pa_nil)))) (fun _ _ _ _ _ => pe_fld (pv 3) rfl) (fun _ _ _ _ _ => pv 3)) rfl)
    (pss_one (ps_fld (pv 0) (by exact pe_dc (own := [("row", 3), ("around", 4)]) (g := gTup K 2 (gCons (gName 3) (gCons (gName 4) gNil))) (tt := tAnd (tB (tCall (spRB K Rw.isQ) [] E0 (tCons (tVar 3) tNil))) (tB (tNotN (tVar 4)))) (tk := tFld K (tVar 3) "name") (tv := tC (.bl true)) (by rfl) sc_Form.nd (pi_list (pv 2)) (blkOk_by (own := [("row", 3), ("around", 4)]) (N := ["self", "rows", "laid", "row", "around"]) (sc := defScope s_Form_init) (by decide +kernel)) (fun _ _ _ _ _ => pg_tup (by rfl) (pgs_cons (pg_name (i := 3) sc_Form.nd rfl (Or.inl rfl)) (pgs_cons (pg_name (i := 4) sc_Form.nd rfl (Or.inl rfl)) pgs_nil))) (fun _ _ _ _ _ => pts_one (pw_and (pt_val (pe_f (ok_is_question T) (hr.mono (by omega)) T.g_is_question (pa_cons (pv 3) pa_nil))) (pw_and1 (pt_cmp (pc_notN (pv 4))))).pt) (fun _ _ _ _ _ => pe_fld (pv 3) rfl) (fun _ _ _ _ _ => pe_bl)) rfl))))))), ?_⟩
  have lenF : (Rws.flat rs none 0).length = Rws.cnt rs := Rws.flat_len rs none 0
  walk_at "go"
  have hl0 : SqL K H l xs ∨ SqT K H l xs := hl.imp e0.seq e0.sqt
  refine w_tuple rfl hl0 fun t H1 e1 ht => ?_
  refine ⟨_, rfl, x, _, dx, _, rfl, e1 _ _ hx, T.cl_Form, T.n_Form_rows, (by show 0 < 1000; decide), ?_⟩
  have e2 : Same B (upd H1 x (.ins (He.ga K "Form") dx [("rows", .ref t)])) := (e0.trans e1).mut hBx
  have ht2 : SqT K (upd H1 x (.ins (He.ga K "Form") dx [("rows", .ref t)])) t xs := SqT.far (e1 _ _ hx) ht
  have hx2 : (upd H1 x (.ins (He.ga K "Form") dx [("rows", .ref t)])) x = some (.ins (He.ga K "Form") dx [("rows", .ref t)]) := upd_same
  show tSeq _ _ _ _ (upd H1 x (.ins (He.ga K "Form") dx [("rows", .ref t)]))
  generalize upd H1 x (.ins (He.ga K "Form") dx [("rows", .ref t)]) = H2 at e2 ht2 hx2
  walk_at "go"
  refine ⟨Nat.zero_le _, fun p hp => ?_⟩
  walk_at "go"
  have s3 : Same H2 (upd H2 p (.lst [])) := Same.new hp _
  refine ⟨x, _, dx, _, _, rfl, s3 _ _ hx2, T.cl_Form, T.n_Form_rows, rfl, ?_⟩
  walk_at "go"
  have hBp : B p = none := e2.free hp
  refine ⟨t, p, none, xs, [], rs, rfl, s3.sqt ht2, hxs.same (e2.trans s3), hdep, upd_same, ?_, fun H3 zs b3 h3 la => ?_⟩
  · show 0 + Rws.cnt rs ≤ 1000
    omega
  have e3 : Same B H3 := K3.Same.but2 (e2.trans s3) b3 hBp
  have npx : x ≠ p := fun z => by rw [z, hp] at hx2; cases hx2
  have hx3 : H3 x = some (.ins (He.ga K "Form") dx [("rows", .ref t)]) := b3 _ _ npx (s3 _ _ hx2)
  have ht3 : SqT K H3 t xs := (b3.si upd_same).sqt (s3.sqt ht2)
  have h3 : H3 p = some (.lst zs) := h3
  have la : LA K H3 zs (Rws.flat rs none 0) := la
  have lz : zs.length = Rws.cnt rs := by rw [la.length, lenF]
  walk_at "go"
  refine ⟨p, zs, rfl, .inl (SqL.of h3), ?_⟩
  walk_at "go"
  rw [lz]
  have bad : ¬ (1 ≤ Rws.cnt rs ∧ Rws.cnt rs ≤ 40) → gErr2 K "BadCount" "what" "count" (.str "rows") (.int (Rws.cnt rs : Int)) H3 fun cls d H' => E cls d H' := fun c => by
    have ef : formF rs = some (.count "rows" (Rws.cnt rs)) := if_neg c
    unfold FormEnd at q
    rw [ef] at q
    exact gErr2_of fun dd H4 e4 h4 => q _ _ H4 (e3.trans e4) ⟨rfl, dd, rfl, h4⟩
  by_cases c1 : (1 : Int) ≤ (Rws.cnt rs : Int)
  · rw [decide_eq_true c1]
    walk_at "go"
    by_cases c2 : (Rws.cnt rs : Int) ≤ 40
    · rw [decide_eq_true c2]
      walk_at "go"
      have ef : formF rs = ckRows [] (Rws.flat rs none 0) := if_pos ⟨by omega, by omega⟩
      refine ⟨p, zs, _, rfl, h3, la, hB, by rw [lenF]; omega, ?_⟩
      unfold FormEnd at q
      rw [ef] at q
      cases hck : ckRows [] (Rws.flat rs none 0) with
      | some f =>
        rw [hck] at q
        exact fun cls d H' e4 hf => q cls d H' (e3.trans e4) hf
      | none =>
        rw [hck] at q
        intro H4 e4
        have h4 := e4 _ _ h3
        have la4 := LA.si e4.si la
        walk_at "go"
        refine ⟨_, rfl, p, rfl, ⟨_, SqL.of h4⟩, fun d hd => ?_⟩
        refine dc_any (walk_list (K := K) (a := p) (xs := zs)) (fun (i : Nat) H' => Same H4 H' ∧ ∃ kvs, H' d = some (.dK kvs) ∧ kvs.length ≤ i ∧ Paired (QE K H') kvs (qsOf ((Rws.flat rs none 0).take i))) ⟨Same.new hd _, [], upd_same, Nat.le_refl _, .nil⟩ (fun i H' _ z => SqL.of (z.1 _ _ h4)) ?_ ?_
        · rintro i v _ H5 hi ⟨e5, kvs, hk, hki, hp5⟩ ⟨rfl, hv⟩
          obtain ⟨⟨r, ar⟩, hc1, u, y, rfl, hu, hy⟩ := K3.Paired.get la4 hv
          refine ⟨u, _, rfl, SqT.of (e5 _ _ hu), rfl, _, _, rfl, ?_⟩
          walk_at "go"
          refine ⟨_, _, rfl, ?_⟩
          walk_at "go"
          refine ⟨rfl, rfl, ?_⟩
          walk_at "go"
          have hy5 : RO K H5 y r := RO.same e5 hy
          refine ⟨y, r, rfl, hy5, fun H6 e6 => ?_⟩
          have tkq : qsOf ((Rws.flat rs none 0).take (i + 1)) = qsOf ((Rws.flat rs none 0).take i) ++ (if r.isQ then [r] else []) := by
            rw [List.take_add_one, hc1]
            unfold qsOf
            rw [List.filterMap_append]
            congr 1
            cases hr : r.isQ <;> simp [hr]
          have hy6 := RO.same e6 hy5
          have hp6 : Paired (QE K H6) kvs (qsOf ((Rws.flat rs none 0).take i)) := L2.Paired.mapP hp5 fun _ _ z => ⟨z.1, RO.same e6 z.2⟩
          cases hq : r.isQ with
          | false =>
            rw [hq] at tkq
            walk_at "go"
            refine ⟨e5.trans e6, kvs, e6 _ _ hk, by omega, ?_⟩
            rw [tkq, if_neg Bool.false_ne_true, List.append_nil]
            exact hp6
          | true =>
            rw [hq] at tkq
            obtain ⟨a, dx2, fs, rfl, hia, hcl, hna, hlk⟩ := ro_name T hy6 (isQ_isN hq)
            walk_at "go"
            refine ⟨a, _, dx2, fs, _, rfl, hia, hcl, hna, hlk, ?_⟩
            walk_at "go"
            have hk6 := e6 _ _ hk
            refine ⟨kvs, Sum.inr r.name, rfl, hk6, Nat.lt_of_le_of_lt (show kvs.length ≤ 1000 by omega) (by decide), ?_⟩
            have hnew : valV kvs (Sum.inr r.name) = none := by
              refine val_qe hp6 fun r' hr' => ?_
              obtain ⟨e, he, hn'⟩ := qs_al hr'
              have := look_all (ck_drop hck hc1 (isQ_isN hq)) e (by rw [List.nil_append]; exact he)
              rw [← hn']
              exact this
            have hput : putK kvs (Sum.inr r.name) (.ref a) = kvs ++ [(Sum.inr r.name, .ref a)] := by
              unfold putK
              rw [valV_any, hnew, if_neg (by decide)]
            rw [hput]
            have si := SI.upd hk6 rfl (.dK (kvs ++ [(Sum.inr r.name, V.ref a)]))
            refine ⟨(e5.trans e6).mut hd, _, upd_same, by rw [List.length_append]; exact Nat.succ_le_succ hki, ?_⟩
            rw [tkq, if_pos rfl]
            exact K3.Paired.app (L2.Paired.mapP hp6 fun _ _ z => ⟨z.1, RO.si si z.2⟩) (.cons ⟨rfl, RO.si si hy6⟩ .nil)
        · rintro H5 ⟨e5, kvs, hk, hki, hp5⟩
          rw [lz, ← lenF, List.take_length] at hp5
          have e45 := e4.trans e5
          refine ⟨_, rfl, x, _, dx, _, rfl, e45 _ _ hx3, T.cl_Form, T.n_Form_questions, (by show 1 < 1000; decide), ?_⟩
          have ndx : d ≠ x := fun z => by rw [z, e4 _ _ hx3] at hd; cases hd
          have hx5 := e45 _ _ hx3
          have sx : ∀ b o, b ≠ x → H5 b = some o → (upd H5 x (.ins (He.ga K "Form") dx [("rows", .ref t), ("questions", .ref d)])) b = some o := fun b o hb h => by rw [upd_ne hb]; exact h
          have hx6 : (upd H5 x (.ins (He.ga K "Form") dx [("rows", .ref t), ("questions", .ref d)])) x = some (.ins (He.ga K "Form") dx [("rows", .ref t), ("questions", .ref d)]) := upd_same
          have e6 : Same B (upd H5 x (.ins (He.ga K "Form") dx [("rows", .ref t), ("questions", .ref d)])) := (e3.trans e45).mut hBx
          have ht6 : SqT K (upd H5 x (.ins (He.ga K "Form") dx [("rows", .ref t), ("questions", .ref d)])) t xs := SqT.far (e45 _ _ hx3) (e45.sqt ht3)
          have hk6 := sx _ _ ndx hk
          have sx2 : SI H5 (upd H5 x (.ins (He.ga K "Form") dx [("rows", .ref t), ("questions", .ref d)])) := SI.upd (e45 _ _ hx3) rfl _
          have hp6 : Paired (QE K (upd H5 x (.ins (He.ga K "Form") dx [("rows", .ref t), ("questions", .ref d)]))) kvs (qsOf (Rws.flat rs none 0)) := L2.Paired.mapP hp5 fun _ _ z => ⟨z.1, RO.si sx2 z.2⟩
          have h6 := sx _ _ npx.symm (e45 _ _ h3)
          have la6 := LA.si (e45.si.trans sx2) la
          rw [show putF ("questions" : Str) (V.ref d) [(("rows" : Str), V.ref t)] = [(("rows" : Str), V.ref t), (("questions" : Str), V.ref d)] from rfl]
          generalize upd H5 x (.ins (He.ga K "Form") dx [("rows", V.ref t), ("questions", .ref d)]) = H6 at hx6 e6 ht6 hk6 hp6 h6 la6 ⊢
          walk_at "go"
          refine ⟨_, rfl, p, rfl, ⟨_, SqL.of h6⟩, fun d2 hd2 => ?_⟩
          refine dc_any (walk_list (K := K) (a := p) (xs := zs)) (fun (i : Nat) H' => Same H6 H' ∧ ∃ kv2, H' d2 = some (.dK kv2) ∧ kv2.length ≤ i ∧ ∀ z, (valV kv2 (Sum.inr z)).isSome = repB ((Rws.flat rs none 0).take i) z) ⟨Same.new hd2 _, [], upd_same, Nat.le_refl _, fun z => rfl⟩ (fun i H' _ z => SqL.of (z.1 _ _ h6)) ?_ ?_
          · rintro i v _ H7 hi ⟨e7, kv2, hk2, hki2, hz2⟩ ⟨rfl, hv⟩
            obtain ⟨⟨r, ar⟩, hc1, u, y, rfl, hu, hy⟩ := K3.Paired.get la6 hv
            refine ⟨u, _, rfl, SqT.of (e7 _ _ hu), rfl, _, _, rfl, ?_⟩
            walk_at "go"
            refine ⟨_, _, rfl, ?_⟩
            walk_at "go"
            refine ⟨rfl, rfl, ?_⟩
            walk_at "go"
            have hy7 : RO K H7 y r := RO.same e7 hy
            refine ⟨y, r, rfl, hy7, fun H8 e8 => ?_⟩
            have hy8 := RO.same e8 hy7
            cases hq : r.isQ with
            | false =>
              walk_at "go"
              exact ⟨e7.trans e8, kv2, e8 _ _ hk2, by omega, fun z => by rw [hz2 z, rep_take hc1]; simp [hq]⟩
            | true =>
              walk_at "go"
              have no : (!decide (oV ar = V.non)) = ar.isSome := by cases ar <;> rfl
              rw [no]
              cases har : ar.isSome with
              | false =>
                walk_at "go"
                exact ⟨e7.trans e8, kv2, e8 _ _ hk2, by omega, fun z => by rw [hz2 z, rep_take hc1]; simp [har]⟩
              | true =>
                obtain ⟨a, dx2, fs, rfl, hia, hcl, hna, hlk⟩ := ro_name T hy8 (isQ_isN hq)
                walk_at "go"
                refine ⟨a, _, dx2, fs, _, rfl, hia, hcl, hna, hlk, ?_⟩
                walk_at "go"
                have hk8 := e8 _ _ hk2
                refine ⟨kv2, Sum.inr r.name, rfl, hk8, Nat.lt_of_le_of_lt (show kv2.length ≤ 1000 by omega) (by decide), ?_⟩
                refine ⟨(e7.trans e8).mut hd2, _, upd_same, Nat.le_trans (putK_len _ _ _) (Nat.succ_le_succ hki2), fun z => ?_⟩
                rw [putK_some, hz2 z, rep_take hc1]
                simp [hq, har]
          · rintro H7 ⟨e7, kv2, hk2, hki2, hz2⟩
            rw [lz, ← lenF, List.take_length] at hz2
            have nd2 : d2 ≠ x := fun z => by rw [z, hx6] at hd2; cases hd2
            refine ⟨_, rfl, x, _, dx, _, rfl, e7 _ _ hx6, T.cl_Form, T.n_Form_repeated, (by show 2 < 1000; decide), ?_⟩
            have sx7 : SI H7 (upd H7 x (.ins (He.ga K "Form") dx [("rows", .ref t), ("questions", .ref d), ("repeated", .ref d2)])) := SI.upd (e7 _ _ hx6) rfl _
            refine q _ t d d2 kvs kv2 ((e6.trans e7).mut hBx) upd_same (SqT.far (e7 _ _ hx6) (e7.sqt ht6)) (by rw [upd_ne ndx]; exact e7 _ _ hk6) ?_ (by rw [upd_ne nd2]; exact hk2) hz2
            exact L2.Paired.mapP hp6 fun _ _ z => ⟨z.1, RO.si (e7.si.trans sx7) z.2⟩
    · rw [decide_eq_false c2]
      walk_at "go"
      refine w_err2 ?_
      walk_at "go"
      refine ⟨p, zs, rfl, .inl (SqL.of h3), ?_⟩
      rw [lz]
      exact bad (by omega)
  · rw [decide_eq_false c1]
    walk_at "go"
    refine w_err2 ?_
    walk_at "go"
    refine ⟨p, zs, rfl, .inl (SqL.of h3), ?_⟩
    rw [lz]
    exact bad (by omega)
end
end K3
end P13_part
section B1_part
set_option Elab.async false
set_option linter.all false
set_option maxRecDepth 100000
set_option maxHeartbeats 1000000
set_option pp.deepTerms true
open PySem PySem.Spec PyProof.Rows L2
/-- go on as far as nothing is open -/
local macro_rules | `(tactic| walk_at "go") => `(tactic| repeat (first
  | with_reducible refine w_seq ?_ | with_reducible refine w_next ?_ | with_reducible refine w_set ?_ | with_reducible refine w_drop ?_ | with_reducible refine w_ret ?_ | with_reducible refine w_retN ?_
  | with_reducible refine w_if ?_ | ((with_reducible refine' w_var ?hv ?_); (case hv => exact rfl)) | with_reducible refine w_c ?_ | with_reducible refine w_nil ?_ | with_reducible refine w_cons ?_ | with_reducible refine w_op ?_ | with_reducible refine w_un ?_
  | with_reducible refine w_test ?_ | with_reducible refine w_tB ?_ | with_reducible refine w_not ?_ | with_reducible refine w_and ?_ | with_reducible refine w_or ?_ | with_reducible refine w_bl ?_
  | with_reducible refine w_andV ?_ | with_reducible refine w_orV ?_ | with_reducible refine w_notV ?_ | with_reducible refine w_ifE ?_ | with_reducible refine w_chain ?_ | with_reducible refine w_i0 ?_
  | with_reducible refine w_call ?_ | with_reducible refine w_callS ?_ | with_reducible refine w_cB ?_ | with_reducible refine w_tup ?_ | with_reducible refine w_lst ?_ | with_reducible refine w_fldV ?_
  | with_reducible refine w_neF ?_ | with_reducible refine w_neT ?_ | with_reducible refine w_notN ?_ | with_reducible refine w_isN ?_ | with_reducible refine w_gname ?_ | with_reducible refine w_gsub ?_ | with_reducible refine w_asg ?_ | with_reducible refine w_sl ?_ | with_reducible refine w_noP ?_ | with_reducible refine w_int1 ?_ | with_reducible refine w_part ?_ | with_reducible refine w_yes ?_ | with_reducible refine w_nT ?_ | with_reducible refine w_nF ?_ | with_reducible refine w_iteT ?_ | with_reducible refine w_iteF ?_))
namespace L2
open PySem PySem.Spec PyProof.Rows
/-! ### comprehensions into any accumulator: what an element's turn does with it is left open -/
section
variable {prog : Program} {w : World} {A : Around}
/-- the way out of a turn that raises -/
abbrev turnOut (prog : Program) (w : World) (A : Around) (R : Result → Shared → Prop) (env : Env) : Value → Shared → Prop := notedBy (model prog w) A env fun e s' => R (.error e) s'
/-- one turn of the loop: B keeps the element, what it wants behind itself is said by a predicate of states -/
def TurnB (prog : Program) (w : World) (A : Around) (R : Result → Shared → Prop) (target : Expr) (ifs : List Expr) (it : Value) (env : Env) (B : (Value → Shared → Prop) → (Shared → Prop) → Shared → Prop) (I : Nat → Shared → Prop) : Prop :=
  ∀ n s, I n s → wpAny (model prog w) A (pyNext it) (fun r s₁ => match r with
    | none => R (.ok .next) s₁
    | some v => wpAny (model prog w) A (letOwnedTupleGo target it v) (fun _ s₂ => wpAny (model prog w) A (assign target env v) (fun _ s₃ =>
        wpAny (model prog w) A (forIn ifs true fun c r => if r = true then do let ok ← isTrue c env (eval c env); pure (ForInStep.yield ok) else pure (ForInStep.yield r)) (fun ok s₄ =>
          if ok = true then B (turnOut prog w A R env) (fun s' => ∃ m, m < n ∧ I m s') s₄ else ∃ m, m < n ∧ I m s₄) (turnOut prog w A R env) s₃) (turnOut prog w A R env) s₂) (turnOut prog w A R env) s₁) (turnOut prog w A R env) s
end
section
variable {X : Cx}
/-- the reading: o0 the new accumulator, st what the element's keeping asks -/
def tAcc (o0 : Addr → HO) (wi : TI) (g : TG) (tt : TT) (st : Addr → St → Hp → (Hp → Prop) → Prop) (vs : List Nat) : TE := fun σ H Q => wi σ H fun J H1 => ∀ D, H1 D = none → ∃ W : Nat → Nat → Hp → Prop, (∃ m, W 0 m (upd H1 D (o0 D))) ∧ ∀ i m H, W i m H →
  (J.stop i H ∧ Q (.ref D) H) ∨ (J.go i H ∧ ∃ Nx : Hp → Prop, (∀ H', Nx H' → ∃ m', m' < m ∧ W (i + 1) m' H') ∧ ∀ x H', J.yld i H x H' → g x (wipe σ vs) H' fun σ2 H2 => wipe σ2 vs = wipe σ vs ∧ tt σ2 H2 fun b H3 => if b = true then st D σ2 H3 Nx else Nx H3)
theorem acc_core {pins : List (Addr × Obj)} {s : Shared} {σ : St} {H : Hp} {Q : VK} {EX tg iter : Expr} {ifs : List Expr} {scope : Scope} {own : List (Str × Nat)} {pos : Pos} {wi : TI} {g : TG} {tt : TT} {use : Option (Value → Sem Unit)} {Qf : Value → Shared → Prop}
    {newA : Sem Value} {ob : Obj} {o0 : Addr → HO} {st : Addr → St → Hp → (Hp → Prop) → Prop} {B : Env → Addr → (Value → Shared → Prop) → (Shared → Prop) → Shared → Prop}
    (hc : X.calm = true) (hN : X.N.Nodup) (I : Inv X pins σ H s) (hi : PI X tg iter wi) (ok : BlkOk X.N X.env.scope scope own)
    (hcl : clausesOf EX = [⟨tg, iter, ifs, 0⟩]) (hs : ∀ x, foldedSetIterable iter X.env x = pure x)
    (hnew : ∀ {Q' : Value → Shared → Prop} {E' : Value → Shared → Prop} {s' : Shared}, Q' (.ref s'.heap.objs.size) { s' with heap := s'.heap.push ob } → wpAny (model X.prog X.w) X.A newA Q' E' s')
    (hlay : ∀ (H' : Hp) (s' : Shared), Inv X pins σ H' s' → ObjOk X.prog X.w (upd H' s'.heap.objs.size (o0 s'.heap.objs.size)) (s'.heap.push ob) s'.heap.objs.size (o0 s'.heap.objs.size))
    (hloop : ∀ {R : Result → Shared → Prop} {it : Value} {D : Addr} {env : Env} {s' : Shared} (Iv : Nat → Shared → Prop), TurnB X.prog X.w X.A R tg ifs it env (B env D) Iv → ∀ n, Iv n s' → codeAny (model X.prog X.w) X.A (.compLoop EX 0 it (.ref D) env) R s')
    (hstart : ∀ {R : Result → Shared → Prop} {it : Value} {D : Addr} {env : Env} {s' : Shared}, codeAny (model X.prog X.w) X.A (.compLoop EX 0 it (.ref D) env) R s' →
      wpAny (model X.prog X.w) X.A (pyIter it) (fun it' s'' => codeAny (model X.prog X.w) X.A (.compLoop EX 0 it' (.ref D) env) R s'') (turnOut X.prog X.w X.A R env) s' → codeAny (model X.prog X.w) X.A (.compStart EX 0 it (.ref D) env) R s')
    (hg : ∀ (s : Shared) (H : Hp) (C : Addr) (cl : List (Str × Addr)) (fp : List Addr), PG (X.blk s H scope (compEnvC scope cl C X.env) fp) tg g) (ht : ∀ (s : Shared) (H : Hp) (C : Addr) (cl : List (Str × Addr)) (fp : List Addr), PTs (X.blk s H scope (compEnvC scope cl C X.env) fp) ifs tt)
    (hst : ∀ (s : Shared) (H : Hp) (C : Addr) (cl : List (Str × Addr)) (fp : List Addr) (pn : List (Addr × Obj)) (σ' : St) (H' : Hp) (s' : Shared) (D : Addr) (N : Value → Shared → Prop) (Nx : Hp → Prop) (G : Shared → Prop), N = (X.blk s H scope (compEnvC scope cl C X.env) fp).xe ∨ True →
      Inv (X.blk s H scope (compEnvC scope cl C X.env) fp) pn σ' H' s' → st D σ' H' Nx → (∀ H'' s'', Inv (X.blk s H scope (compEnvC scope cl C X.env) fp) pn σ' H'' s'' → Nx H'' → G s'') → B (compEnvC scope cl C X.env) D N G s')
    (h : tAcc o0 wi g tt st (own.map (·.2)) σ H Q)
    (hRR : ∀ D C s' m H', Inv X pins σ H' s' → Q (.ref D) H' → s'.heap.Ns C m → FpOk X pins H' C → compPost (model X.prog X.w) X.A X.xe use Qf (.ref D) C (.ok .next) s') :
    wpAny (model X.prog X.w) X.A (comprehension EX scope X.env pos newA false (eval iter X.env) use) Qf X.xe s := by
  have hfree : ∀ y ∈ scope.names, y.2 = .free → ∃ c, X.env.cells.lookup y.1 = some c := fun y hy e => by
    rcases ok.free y hy e with k | k
    · exact I.ok.has _ (.inl k)
    · exact I.ok.has _ (.inr k)
  refine wpAny_comprehension_free (use := use) hcl hs (closure_ok hfree) ok.kind (fun y hy e => by rw [ok.uniq y hy, e]) (thn (hi.run pins s σ H _ I h) fun xv s1 hx => thn hx fun itv s2 h2 => ?_)
  obtain ⟨it, fp, tn, J, H2, e, I2, T, st2, f2, q⟩ := h2
  subst e
  refine hnew (newEnv_comp ?_)
  have lay := hlay H2 s2 I2
  generalize hD : s2.heap.objs.size = D at lay ⊢
  have hDn : H2 D = none := I2.hok.fresh (Nat.le_of_eq hD)
  obtain ⟨W, ⟨m0, w0⟩, turn⟩ := q D hDn
  generalize hs3 : ({ s2 with heap := s2.heap.push ob } : Shared) = s3
  have h3 : s3.heap = s2.heap.push ob := by rw [← hs3]
  have I3 : Inv X pins σ (upd H2 D (o0 D)) s3 := by
    rw [← hs3]
    exact I2.laid (t' := s2.toks) (fun b o e => Heap.get?_push_of_some _ e) (Nat.le_of_eq hD) lay
  have f3 : ∀ b ∈ fp, FpOk X pins (upd H2 D (o0 D)) b ∧ b < s3.heap.objs.size := fun b hb => by
    obtain ⟨ob', e', _⟩ := T.obj _ _ st2 b hb
    have hlt : b < s2.heap.objs.size := Heap.lt_size e'
    refine ⟨⟨?_, (f2 b hb).2⟩, by rw [h3, Heap.size_push]; exact Nat.lt_succ_of_lt hlt⟩
    rw [upd_ne (by rw [← hD]; exact Nat.ne_of_lt hlt)]
    exact (f2 b hb).1
  have st3 : tn 0 s3.heap := T.keep _ _ _ st2 fun b _ o e => by rw [h3]; exact Heap.get?_push_of_some _ e
  have I4 := block_start I3 ok hN f3
  generalize hcells : cellsFrom (s3.heap.objs.size + 1) scope.names (cloFrom X.env.cells scope.names []) = cls at I4
  have pg := hg s3 (upd H2 D (o0 D)) s3.heap.objs.size cls fp
  have pt := ht s3 (upd H2 D (o0 D)) s3.heap.objs.size cls fp
  have pst := hst s3 (upd H2 D (o0 D)) s3.heap.objs.size cls fp
  show codeAny _ _ (.compStart EX 0 (.ref it) (.ref D) (compEnvC scope cls s3.heap.objs.size X.env)) (compPost (model X.prog X.w) X.A X.xe use Qf (.ref D) s3.heap.objs.size) { s3 with heap := pushCells (s3.heap.push { cls := .type "dict", data := .dict #[] }) scope.names }
  have nfp : ∀ b ∈ fp, (upd H2 D (o0 D)) b = none := fun b hb => (f3 b hb).1.1
  have cL : (compEnvC scope cls s3.heap.objs.size X.env).locals = s3.heap.objs.size := rfl
  generalize compEnvC scope cls s3.heap.objs.size X.env = ce at I4 pg pt pst cL ⊢
  generalize upd H2 D (o0 D) = H3 at I3 I4 pg pt pst w0 nfp f3
  generalize hs4 : ({ s3 with heap := pushCells (s3.heap.push { cls := .type "dict", data := .dict #[] }) scope.names } : Shared) = s4 at I4 ⊢
  have st4 : tn 0 s4.heap := T.keep _ _ _ st3 fun b _ o e => by rw [← hs4]; exact pushCells_keeps _ _ _ _ (Heap.get?_push_of_some _ e)
  have fpOk : ∀ {σ' : St} {H' : Hp} {s' : Shared}, Inv (X.blk s3 H3 scope ce fp) [] σ' H' s' → (∀ b ∈ fp, H' b = none) → ∀ b ∈ fp, FpOk (X.blk s3 H3 scope ce fp) [] H' b := fun I' hn b hb =>
    ⟨hn b hb, (I'.ok.exf b hb).1, I'.ok.exfs b hb, .inl hb, fun x c e => (I'.ok.exf b hb).2 x c e, fun p hp => absurd hp (by simp)⟩
  refine (fun loop => hstart loop (T.self X.A 0 _ _ _ st4 loop)) ?_
  refine hloop (fun n s' => ∃ i H', Inv (X.blk s3 H3 scope ce fp) [] (wipe σ (own.map (·.2))) H' s' ∧ tn i s'.heap ∧ (∀ b ∈ fp, H' b = none) ∧ W i n H') ?_ m0 ⟨0, H3, I4, st4, nfp, w0⟩
  rintro n s5 ⟨i, H5, I5, st5, n5, w5⟩
  rcases turn i n H5 w5 with ⟨stop, qq⟩ | ⟨go, Nx, hNx, step⟩
  · refine thnF (T.done (X.blk s3 H3 scope ce fp) rfl rfl rfl hc i [] s5 _ H5 (fun _ _ => False) I5 (fpOk I5 n5) st5 stop) fun r s6 ⟨hr, I6⟩ => ?_
    subst hr
    have I7 : Inv X pins σ H5 s6 := I3.call' (ch := fp) I6.os I6.base I6.hok I6.bare fun b hb => ⟨(f3 b hb).1.2.2.2.1, (f3 b hb).1.2.1, (f3 b hb).1.2.2.2.2.1, (f3 b hb).1.2.2.2.2.2⟩
    have nC : H5 s3.heap.objs.size = none := cL ▸ (I6.free : H5 ce.locals = none)
    obtain ⟨m, hn, _⟩ := I6.loc
    exact hRR D s3.heap.objs.size s6 m H5 I7 qq (cL ▸ (hn : s6.heap.Ns ce.locals m)) (I3.fpOk (Nat.le_refl _) nC)
  · refine thnF (T.item (X.blk s3 H3 scope ce fp) rfl rfl rfl hc i [] s5 _ H5 (fun _ _ => False) I5 (fpOk I5 n5) st5 go) fun r s6 ⟨u, hr, h6⟩ => ?_
    subst hr
    refine thnF h6 fun _ s7 ⟨x, H7, I7, r7, y7, st7, n7⟩ => ?_
    have I7' := I7.pinned (fpOk I7 n7) (T.obj _ _ st7)
    refine thnF (pg.run _ s7 _ H7 x u _ I7' r7 (step x H7 y7)) fun _ s8 ⟨σ8, H8, I8, hw8, q8⟩ => ?_
    refine thnF (pt.run _ s8 σ8 H8 _ I8 q8) fun b s9 ⟨H9, I9, q9⟩ => ?_
    have fin : ∀ (H' : Hp) (s' : Shared), Inv (X.blk s3 H3 scope ce fp) ([] ++ pinsAt fp s7.heap) σ8 H' s' → Nx H' → ∃ m, m < n ∧ ∃ i H', Inv (X.blk s3 H3 scope ce fp) [] (wipe σ (own.map (·.2))) H' s' ∧ tn i s'.heap ∧ (∀ b ∈ fp, H' b = none) ∧ W i m H' := fun H' s' I' nx => by
      obtain ⟨m', hm, w'⟩ := hNx H' nx
      have pinned : ∀ b ∈ fp, ∀ o, s7.heap.get? b = some o → s'.heap.get? b = some o ∧ H' b = none := fun b hb o e =>
        let z := I'.pin (b, o) (List.mem_append_right _ (List.mem_append_right _ (mem_pinsAt hb e)))
        ⟨z.1, z.2.1⟩
      refine ⟨m', hm, i + 1, H', (I'.unpinned (pins := [])).weak (by rw [← hw8, wipe_length]) (fun j v e => (wipe_some (hw8 ▸ e)).1), T.keep _ _ _ st7 fun b hb o e => (pinned b hb o e).1, fun b hb => ?_, w'⟩
      obtain ⟨o, e, _⟩ := T.obj _ _ st7 b hb
      exact (pinned b hb o e).2
    cases b with
    | false => exact fin _ _ I9 q9
    | true => exact pst _ σ8 H9 s9 D _ Nx _ (.inr trivial) I9 q9 fin
end
end L2
namespace L2
open PySem PySem.Spec PyProof.Rows
section
variable {X : Cx} {pins : List (Addr × Obj)} {σ : St} {H : Hp} {s : Shared} {A : Around} {E : Value → Shared → Prop}
/-- a tuple's key kept by a comprehension -/
theorem d_dictSetT {D b : Addr} {kvs : List (List Key × V)} {k : List Key} {v : V} {r : Value} {G : Shared → Prop} (hu : A.units < cLine) (I : Inv X pins σ H s) (hD : H D = some (.dT kvs)) (eb : H b = some (.tup (k.map kV))) (hz : kvs.length < sizeLine) (rv : RelV v r)
    (h : ∀ s', Inv X pins σ (upd H D (.dT (putK kvs k v))) s' → G s') : wpAny (model X.prog X.w) A (dictSet D (.ref b) r) (fun _ s' => G s') E s := by
  obtain ⟨z, hd, xs, rel, dd⟩ := dt_of I.hok hD
  have lx : xs.length ≤ sizeLine := by rw [← Paired.length rel]; exact z
  have lp : (putK kvs k v).length ≤ sizeLine := by have := length_putK kvs k v; omega
  refine wpAny_dictSet_heap (hsz := lx) (show (tupleKind (mixKind X.prog X.w)).room A from hu) (key_of I.hok eb) dd fun h' dd' hs => h _ ?_
  obtain ⟨q, es, ep, hq, h2, h3, h4, _, h5⟩ := dd'
  refine d_write I (by rw [hD]; exact True.intro) hs ⟨q, hq⟩ ⟨lp, hd, _, (rel.put k eb rv).keeps fun c ys ec => ?_, q, es, ep, hq, h2, h3, h4, h5⟩
  rw [upd_ne (ne_of ec hD (fun z => nomatch z))]
  exact ec
end
section
variable {X : Cx}
def stT (tk tv : TE) (D : Addr) (σ : St) (H : Hp) (Nx : Hp → Prop) : Prop := tk σ H fun y H1 => tv σ H1 fun z H2 => ∃ kvs k b, y = .ref b ∧ H2 b = some (.tup (List.map kV k)) ∧ H2 D = some (.dT kvs) ∧ kvs.length < sizeLine ∧ Nx (upd H2 D (.dT (putK kvs k z)))
/-- {k: v for .. in .. if ..}, the keys tuples -/
def tDcT (wi : TI) (g : TG) (tt : TT) (tk tv : TE) (vs : List Nat) : TE := tAcc (fun _ => .dT []) wi g tt (stT tk tv) vs
theorem pe_dcT {kx vx tg iter : Expr} {ifs : List Expr} {scope : Scope} {own : List (Str × Nat)} {pos : Pos} {wi : TI} {g : TG} {tt : TT} {tk tv : TE} (hu : X.A.units < cLine) (hc : X.calm = true) (hN : X.N.Nodup) (hi : PI X tg iter wi) (ok : BlkOk X.N X.env.scope scope own)
    (hg : ∀ (s : Shared) (H : Hp) (C : Addr) (cl : List (Str × Addr)) (fp : List Addr), PG (X.blk s H scope (compEnvC scope cl C X.env) fp) tg g) (ht : ∀ (s : Shared) (H : Hp) (C : Addr) (cl : List (Str × Addr)) (fp : List Addr), PTs (X.blk s H scope (compEnvC scope cl C X.env) fp) ifs tt)
    (hk : ∀ (s : Shared) (H : Hp) (C : Addr) (cl : List (Str × Addr)) (fp : List Addr), PE (X.blk s H scope (compEnvC scope cl C X.env) fp) kx tk)
    (he : ∀ (s : Shared) (H : Hp) (C : Addr) (cl : List (Str × Addr)) (fp : List Addr), PE (X.blk s H scope (compEnvC scope cl C X.env) fp) vx tv) (hs : ∀ x, foldedSetIterable iter X.env x = pure x := by intro _; rfl) :
    PE X (.DictComp kx vx [⟨tg, iter, ifs, 0⟩] scope pos) (tDcT wi g tt tk tv (own.map (·.2))) := by
  refine ⟨fun pins s σ H Q I h => ?_⟩
  rw [arm_eval_DictComp]
  refine acc_core (ob := { cls := .type "dict", data := .dict #[] }) (o0 := fun _ => .dT []) (st := stT tk tv)
    (B := fun env D N G s' => wpAny (model X.prog X.w) X.A (eval kx env) (fun kv s₄ => wpAny (model X.prog X.w) X.A (eval vx env) (fun vv s₅ => wpAny (model X.prog X.w) X.A (dictSet D kv vv) (fun _ s₆ => G s₆) N s₅) N s₄) N s')
    hc hN I hi ok rfl hs (fun q => wpAny_newObj_type q) (fun H' s' I' => dt_empty s'.heap I'.big) (fun Iv turn n hI => compLoop_anyD Iv turn n hI) (fun loop self => codeAny_compStart_dict loop self) hg ht ?_ h
    fun D C s' m H' I' q hn f => ⟨m, hn, fun h'' sb => ?_⟩
  · intro s0 H0 C cl fp pn σ' H' s' D N Nx G _ I' q k
    refine thnF ((hk s0 H0 C cl fp).run pn s' σ' H' _ I' q) fun z s10 ⟨yk, H10, I10, r10, q10⟩ => ?_
    refine thnF ((he s0 H0 C cl fp).run pn s10 σ' H10 _ I10 q10) fun z2 s11 ⟨yv, H11, I11, r11, kvs, kk, b, ek, eb, hD, hz, nx⟩ => ?_
    subst ek
    cases r10
    exact d_dictSetT (X := X.blk s0 H0 scope (compEnvC scope cl C X.env) fp) hu I11 hD eb hz r11 fun s12 I12 => k _ _ I12 nx
  · obtain ⟨f0, f1, f2, f3, f4, f5⟩ := f
    exact ⟨.ref D, H', I'.turned (t' := s'.toks) (fun b o hb e => (sb.2 b hb).trans e) f0 f1 f3 f4 f5, rfl, q⟩
/-! ### {e for .. in .. if ..}, e a number or a text -/
def stK (P : Program) (w : World) (te : TE) (D : Addr) (σ : St) (H : Hp) (Nx : Hp → Prop) : Prop := te σ H fun y H1 => ∃ (k : Key) (S : Key → Bool) (n : Nat), y = kV k ∧ H1 D = some (SetK P w D S n) ∧ n + 1 < scanBound ∧ Nx (upd H1 D (SetK P w D (fun j => S j || decide (j = k)) (if S k = true then n else n + 1)))
def tScK (P : Program) (w : World) (wi : TI) (g : TG) (tt : TT) (te : TE) (vs : List Nat) : TE := tAcc (fun D => SetK P w D (fun _ => false) 0) wi g tt (stK P w te) vs
theorem saddK_run {pins : List (Addr × Obj)} {σ : St} {H : Hp} {s : Shared} {E : Value → Shared → Prop} {D : Addr} {k : Key} {S : Key → Bool} {n : Nat} {u : Value} {G : Shared → Prop} (I : Inv X pins σ H s) (hD : H D = some (SetK X.prog X.w D S n)) (room : n + 1 < scanBound) (ry : RelV (kV k) u)
    (h : ∀ s', Inv X pins σ (upd H D (SetK X.prog X.w D (fun j => S j || decide (j = k)) (if S k = true then n else n + 1))) s' → G s') : wpAny (model X.prog X.w) X.A (call (.builtin "set.add") [.ref D, u]) (fun _ s' => G s') E s := by
  refine call_set_add (kV_is ry) (key_scan ry) (setK_get I hD) room fun h' sb new => ?_
  have he : ∃ u, h'.get? D = some u := by
    have ⟨o, _, _, _, ho, _⟩ := new
    exact ⟨o, ho⟩
  exact h _ (I.write (e := D) (t' := s.toks + 1) (by rw [hD]; trivial) (.inl rfl) (fun b u hb hu => (sb.2 b hb).trans hu) he (setK_new new))
theorem pe_scK {elt tg iter : Expr} {ifs : List Expr} {scope : Scope} {own : List (Str × Nat)} {pos : Pos} {wi : TI} {g : TG} {tt : TT} {te : TE} (hc : X.calm = true) (hN : X.N.Nodup) (hi : PI X tg iter wi) (ok : BlkOk X.N X.env.scope scope own)
    (hg : ∀ (s : Shared) (H : Hp) (C : Addr) (cl : List (Str × Addr)) (fp : List Addr), PG (X.blk s H scope (compEnvC scope cl C X.env) fp) tg g) (ht : ∀ (s : Shared) (H : Hp) (C : Addr) (cl : List (Str × Addr)) (fp : List Addr), PTs (X.blk s H scope (compEnvC scope cl C X.env) fp) ifs tt)
    (he : ∀ (s : Shared) (H : Hp) (C : Addr) (cl : List (Str × Addr)) (fp : List Addr), PE (X.blk s H scope (compEnvC scope cl C X.env) fp) elt te) (hs : ∀ x, foldedSetIterable iter X.env x = pure x := by intro _; rfl) :
    PE X (.SetComp elt [⟨tg, iter, ifs, 0⟩] scope pos) (tScK X.prog X.w wi g tt te (own.map (·.2))) := by
  refine ⟨fun pins s σ H Q I h => ?_⟩
  rw [PpSet.eval_SetComp]
  refine acc_core (o0 := fun D => SetK X.prog X.w D (fun _ => false) 0) (st := stK X.prog X.w te)
    (B := fun env D N G s' => wpAny (model X.prog X.w) X.A (eval elt env) (fun x s₄ => wpAny (model X.prog X.w) X.A (call (.builtin "set.add") [.ref D, x]) (fun _ s₅ => G s₅) N s₄) N s')
    hc hN I hi ok rfl hs (fun q => PpSet.newSet_ok q) (fun H' s' I' => ?_) (fun Iv turn n hI => PpSet.compLoopS_any Iv turn n hI) (fun loop self => PpSet.codeAny_compStart_set loop self) hg ht ?_ h
    fun D C s' m H' I' q hn f => ⟨m, hn, fun h'' sb => ?_⟩
  · exact setK_new ⟨_, #[], 0, _, Heap.get?_push_size _ rfl, ⟨rfl, rfl, rfl⟩, rfl, (fun e he => by simp at he), (fun k => by simp), (by decide), (by rfl), rfl⟩
  · intro s0 H0 C cl fp pn σ' H' s' D N Nx G _ I' q k
    refine thnF ((he s0 H0 C cl fp).run pn s' σ' H' _ I' q) fun z s10 ⟨y, H10, I10, r10, kk, S, n, ey, hD, hz, nx⟩ => ?_
    subst ey
    exact saddK_run (X := X.blk s0 H0 scope (compEnvC scope cl C X.env) fp) I10 hD hz r10 fun s11 I11 => k _ _ I11 nx
  · obtain ⟨f0, f1, f2, f3, f4, f5⟩ := f
    exact ⟨.ref D, H', I'.turned (t' := s'.toks) (fun b o hb e => (sb.2 b hb).trans e) f0 f1 f3 f4 f5, rfl, q⟩
end
/-- the invariant's bookkeeping, over whatever is walked -/
theorem acc_it {J : It} {n : Nat} {G : Hp → Prop} {Y : Nat → Hp → V → Hp → Prop} (wk : Walk J n G Y) {o0 : Addr → HO} {g : TG} {tt : TT} {st : Addr → St → Hp → (Hp → Prop) → Prop} {vs : List Nat} {σ : St} {H1 : Hp} {D : Addr} {Qd : Hp → Prop} (Pv : Nat → Hp → Prop) (h0 : Pv 0 (upd H1 D (o0 D)))
    (hG : ∀ i H, i ≤ n → Pv i H → G H)
    (hs : ∀ i x H H', i < n → Pv i H → Y i H x H' → g x (wipe σ vs) H' fun σ2 H2 => wipe σ2 vs = wipe σ vs ∧ tt σ2 H2 fun b H3 => if b = true then st D σ2 H3 (Pv (i + 1)) else Pv (i + 1) H3)
    (hd : ∀ H, Pv n H → Qd H) :
    ∃ W : Nat → Nat → Hp → Prop, (∃ m, W 0 m (upd H1 D (o0 D))) ∧ ∀ i m H, W i m H → (J.stop i H ∧ Qd H) ∨ (J.go i H ∧ ∃ Nx : Hp → Prop, (∀ H', Nx H' → ∃ m', m' < m ∧ W (i + 1) m' H') ∧
      ∀ x H', J.yld i H x H' → g x (wipe σ vs) H' fun σ2 H2 => wipe σ2 vs = wipe σ vs ∧ tt σ2 H2 fun b H3 => if b = true then st D σ2 H3 Nx else Nx H3) := by
  refine ⟨fun i m H => m + i = n ∧ Pv i H, ⟨n, rfl, h0⟩, fun i m H w => ?_⟩
  obtain ⟨e, p⟩ := w
  by_cases c : i < n
  · exact .inr ⟨wk.goes i H c (hG i H (Nat.le_of_lt c) p), Pv (i + 1), fun H' p' => ⟨m - 1, by omega, by omega, p'⟩, fun x H' y => hs i x H H' c p (wk.yields i H x H' c (hG i H (Nat.le_of_lt c) p) y)⟩
  · have e2 : i = n := by omega
    subst e2
    exact .inl ⟨wk.stops H (hG i H (Nat.le_refl _) p), hd H p⟩
end L2
end B1_part
section B2_part
set_option Elab.async false
set_option linter.all false
set_option maxRecDepth 100000
set_option maxHeartbeats 1000000
set_option pp.deepTerms true
open PySem PySem.Spec PyProof.Rows L2
/-- go on as far as nothing is open -/
local macro_rules | `(tactic| walk_at "go") => `(tactic| repeat (first
  | with_reducible refine w_seq ?_ | with_reducible refine w_next ?_ | with_reducible refine w_set ?_ | with_reducible refine w_drop ?_ | with_reducible refine w_ret ?_ | with_reducible refine w_retN ?_
  | with_reducible refine w_if ?_ | ((with_reducible refine' w_var ?hv ?_); (case hv => exact rfl)) | with_reducible refine w_c ?_ | with_reducible refine w_nil ?_ | with_reducible refine w_cons ?_ | with_reducible refine w_op ?_ | with_reducible refine w_un ?_
  | with_reducible refine w_test ?_ | with_reducible refine w_tB ?_ | with_reducible refine w_not ?_ | with_reducible refine w_and ?_ | with_reducible refine w_or ?_ | with_reducible refine w_bl ?_
  | with_reducible refine w_andV ?_ | with_reducible refine w_orV ?_ | with_reducible refine w_notV ?_ | with_reducible refine w_ifE ?_ | with_reducible refine w_chain ?_ | with_reducible refine w_i0 ?_
  | with_reducible refine w_call ?_ | with_reducible refine w_callS ?_ | with_reducible refine w_cB ?_ | with_reducible refine w_tup ?_ | with_reducible refine w_lst ?_ | with_reducible refine w_fldV ?_
  | with_reducible refine w_neF ?_ | with_reducible refine w_neT ?_ | with_reducible refine w_notN ?_ | with_reducible refine w_isN ?_ | with_reducible refine w_gname ?_ | with_reducible refine w_gsub ?_ | with_reducible refine w_asg ?_ | with_reducible refine w_sl ?_ | with_reducible refine w_noP ?_ | with_reducible refine w_int1 ?_ | with_reducible refine w_part ?_ | with_reducible refine w_yes ?_ | with_reducible refine w_nT ?_ | with_reducible refine w_nF ?_ | with_reducible refine w_iteT ?_ | with_reducible refine w_iteF ?_))
namespace L2
open PySem PySem.Spec PyProof.Rows
/-! ### == and != of two dicts whose keys are objects -/
section
variable {prog : Program} {w : World} {K : Type} [DecidableEq K] {knd : HeapKind prog w K} {A : Around} {E : Value → Shared → Prop} {s : Shared} {a b : Addr} {xs ys : List (K × Addr × Value)} {e : K → Bool}
/-- what is found at an entry's key, and what comparing it gives -/
def chkH (ys : List (K × Addr × Value)) (e : K → Bool) (x : K × Addr × Value) : Bool := (atKey ys x.1).isSome && e x.1
theorem same_heap {nm : String} {Q : Bool → Shared → Prop} (hu : knd.room A) (ha : (a == sysModules) = false) (hb : (b == sysModules) = false) (da : s.heap.DictOfH knd a xs) (db : s.heap.DictOfH knd b ys)
    (he : ∀ x ∈ xs, ∀ p, atKey ys x.1 = some p → SeqAt.EqAt A s x.2.2 p.2 (e x.1)) (h : Q (xs.length == ys.length && xs.all (chkH ys e)) s) :
    wpAny (model prog w) A (Builtin.Dict.samePairs nm a b) Q E s := by
  obtain ⟨oa, es, ep, hoa, _, hda, hea, hia, hna⟩ := da
  obtain ⟨ob, fs, fp, hob, _, hdb, heb, hib, hnb⟩ := db
  have la : es.size = xs.length := size_of_entries hea
  have lb : fs.size = ys.length := size_of_entries heb
  unfold Builtin.Dict.samePairs Builtin.Dict.showsAll
  rw [if_neg (by rw [ha]; exact Bool.false_ne_true), if_neg (by rw [hb]; exact Bool.false_ne_true)]
  refine wpAny_bind (wpAny_pure (wpAny_bind (wpAny_pure (wpAny_bind (wpAny_dictEntries hoa hda ?_)))))
  dsimp only
  refine wpAny_bind (wpAny_dictEntries hob hdb ?_)
  by_cases sz : es.size = fs.size
  case neg =>
    rw [if_pos (by simpa using sz)]
    have : (xs.length == ys.length) = false := by rw [← la, ← lb]; simpa using sz
    rw [this, Bool.false_and] at h
    exact wpAny_bind (wpAny_rule (wpAny_pure h))
  case pos =>
    have h' : Q (xs.all (chkH ys e)) s := by
      have : (xs.length == ys.length) = true := by rw [← la, ← lb]; simpa using sz
      rw [this, Bool.true_and] at h
      exact h
    rw [if_neg (by rw [sz]; simp)]
    refine wpAny_bind (wpAny_dictEpoch hoa hda ?_)
    refine wpAny_bind ?_
    rw [Std.Legacy.Range.forIn_eq_forIn_range']
    simp only [Std.Legacy.Range.size, Nat.sub_zero, Nat.add_sub_cancel, Nat.div_one]
    refine wpAny_forIn_list _ (fun rest q s' => s' = s ∧ q = (none, ()) ∧ ∃ i, rest = List.range' i (es.size - i) ∧ i ≤ es.size ∧ xs.all (chkH ys e) = (xs.drop i).all (chkH ys e)) _ ?_ ?_ _ _ ⟨rfl, rfl, 0, by simp, Nat.zero_le _, by simp⟩
    · rintro x rest q s' ⟨rfl, rfl, i, hr, hi, all⟩
      have lt : i < es.size := by
        rcases Nat.lt_or_ge i es.size with z | z
        · exact z
        · rw [Nat.sub_eq_zero_of_le z] at hr; simp at hr
      obtain ⟨rfl, hrest⟩ : x = i ∧ rest = List.range' (i + 1) (es.size - (i + 1)) := by
        rw [show es.size - i = (es.size - (i + 1)) + 1 by omega, List.range'_succ] at hr
        injection hr with h1 h2
        exact ⟨h1, h2⟩
      have ltx : x < xs.length := by omega
      obtain ⟨⟨k, c, v⟩, hx⟩ : ∃ t, xs[x]? = some t := ⟨_, List.getElem?_eq_getElem ltx⟩
      have hmem := List.mem_of_getElem? hx
      have hdrop : xs.drop x = (k, c, v) :: xs.drop (x + 1) := by
        rw [List.drop_eq_getElem_cons ltx]
        congr 1
        exact (List.getElem?_eq_some_iff.mp hx).2
      have hex : es[x]? = some ⟨knd.hash k, .ref c, v⟩ := by rw [entry_at hea x, hx]; rfl
      have hk : knd.is s'.heap k c := hia _ hmem
      refine wpAny_bind (wpAny_dictEntries hoa hda ?_)
      rw [hex]
      show wpAny _ _ (holding [Value.ref c, v] _ >>= _) _ _ _
      refine wpAny_bind (wpAny_holding (wpAny_bind (wpAny_dictFind_heap hu hk hob hdb heb hib hnb (fun hno => ?_) fun j p hj => ?_)))
      · have ck : chkH ys e (k, c, v) = false := by unfold chkH; rw [atKey_none_of_get hno]; rfl
        rw [all, hdrop, List.all_cons, ck, Bool.false_and] at h'
        refine wpAny_pure ?_
        show wpAny _ _ (if (!false) = true then _ else _) _ _ _
        rw [if_pos (by decide)]
        exact wpAny_pure (wpAny_pure h')
      · have hat := atKey_of_get hnb hj
        refine wpAny_bind (wpAny_dictEntries hob hdb ?_)
        rw [entry_at heb j, hj]
        refine wpAny_holding (he (k, c, v) hmem p hat prog w _ _ ?_)
        have ck : chkH ys e (k, c, v) = e k := by unfold chkH; rw [hat]; rfl
        cases hek : e k with
        | false =>
          rw [all, hdrop, List.all_cons, ck, hek, Bool.false_and] at h'
          show wpAny _ _ (if (!false) = true then _ else _) _ _ _
          rw [if_pos (by decide)]
          exact wpAny_pure (wpAny_pure h')
        | true =>
          show wpAny _ _ (if (!true) = true then _ else _) _ _ _
          rw [if_neg (by decide)]
          refine wpAny_bind (wpAny_dictEpoch hoa hda ?_)
          rw [if_neg (by simp)]
          refine wpAny_pure ⟨rfl, rfl, x + 1, hrest, lt, ?_⟩
          rw [all, hdrop, List.all_cons, ck, hek, Bool.true_and]
    · rintro q s' ⟨rfl, rfl, i, hr, hi, all⟩
      have hin : i = es.size := by
        rcases Nat.lt_or_ge i es.size with z | z
        · rw [show es.size - i = (es.size - (i + 1)) + 1 by omega, List.range'_succ] at hr
          exact nomatch hr
        · exact Nat.le_antisymm hi z
      refine wpAny_pure ?_
      rw [all, hin, la, List.drop_length] at h'
      exact h'
theorem eq_heap {Q : Value → Shared → Prop} (hu : knd.room A.in1) (hu0 : A.units < cLine) (ha : (a == sysModules) = false) (hb : (b == sysModules) = false) (da : s.heap.DictOfH knd a xs) (db : s.heap.DictOfH knd b ys)
    (he : ∀ x ∈ xs, ∀ p, atKey ys x.1 = some p → SeqAt.EqAt A.in1 s x.2.2 p.2 (e x.1)) (h : Q (.bool (xs.length == ys.length && xs.all (chkH ys e))) s) : wpAny (model prog w) A (compareOp .Eq (.ref a) (.ref b)) Q E s := by
  refine wpAny_richCompare_same_room (op := .Eq) da.typeIs db.typeIs PySem.F.slot_dict_eq (wpAny_call_entry PySem.F.slot_dict_eq da.typeIs PySem.F.entry_dict_eq ?_ (PySem.F.args_dict_eq_2 _ _)) hu0
  refine (show wpAny _ _ (Builtin.Dict.dictSlotArgs "__eq__" ⟨[.ref a, .ref b], []⟩ >>= _) _ _ s from wpAny_bind ?_)
  unfold Builtin.Dict.dictSlotArgs
  refine wpAny_bind (wpAny_notOrdered_dict da.typeIs ?_)
  refine (show wpAny _ _ (pure (Value.ref a, Value.ref b)) _ _ s from wpAny_pure (wpAny_bind (wpAny_isInstance (T := "dict") db.typeIs PySem.F.sub_dict_dict ?_)))
  simp only [Bool.not_true, Bool.false_eq_true, if_false]
  exact wpAny_bind (wpAny_pure (wpAny_bind (wpAny_pure (wpAny_bind (same_heap hu ha hb da db he (wpAny_pure ⟨_, rfl, (fun x => nomatch x), by simpa using h⟩))))))
theorem ne_heap {Q : Value → Shared → Prop} (hu : knd.room A.in1) (hu0 : A.units < cLine) (ha : (a == sysModules) = false) (hb : (b == sysModules) = false) (da : s.heap.DictOfH knd a xs) (db : s.heap.DictOfH knd b ys)
    (he : ∀ x ∈ xs, ∀ p, atKey ys x.1 = some p → SeqAt.EqAt A.in1 s x.2.2 p.2 (e x.1)) (h : Q (.bool (!(xs.length == ys.length && xs.all (chkH ys e)))) s) : wpAny (model prog w) A (compareOp .NotEq (.ref a) (.ref b)) Q E s := by
  refine wpAny_richCompare_same_room (op := .NotEq) da.typeIs db.typeIs PySem.F.slot_dict_ne (wpAny_call_entry PySem.F.slot_dict_ne da.typeIs PySem.F.entry_dict_ne ?_ (PySem.F.args_dict_ne_2 _ _)) hu0
  refine (show wpAny _ _ (Builtin.Dict.dictSlotArgs "__ne__" ⟨[.ref a, .ref b], []⟩ >>= _) _ _ s from wpAny_bind ?_)
  unfold Builtin.Dict.dictSlotArgs
  refine wpAny_bind (wpAny_notOrdered_dict da.typeIs ?_)
  refine (show wpAny _ _ (pure (Value.ref a, Value.ref b)) _ _ s from wpAny_pure (wpAny_bind (wpAny_isInstance (T := "dict") db.typeIs PySem.F.sub_dict_dict ?_)))
  simp only [Bool.not_true, Bool.false_eq_true, if_false]
  exact wpAny_bind (wpAny_pure (wpAny_bind (wpAny_pure (wpAny_bind (same_heap hu ha hb da db he (wpAny_pure ⟨_, rfl, (fun x => nomatch x), by simpa using h⟩))))))
end
/-- a dict's pairs, told as data -/
def KD (K : PySem.W.Frag) (H : Hp) : List (List Key × V) → List (List Key × PyData) → Prop := Paired fun kv x => kv.1 = x.1 ∧ Dp K H kv.2 x.2 ∧ SeqAt.shaped x.2 = true
def lookD (ys : List (List Key × PyData)) (k : List Key) : Option PyData := (ys.find? fun y => decide (y.1 = k)).map (·.2)
def dSame (xs ys : List (List Key × PyData)) : Bool := xs.length == ys.length && xs.all fun x => match lookD ys x.1 with
  | some d => PyData.eqv x.2 d
  | none => false
def rEqT (K : PySem.W.Frag) : R2 := fun x y H Q => ∃ (a b : Addr) (ks ls : List (List Key × V)) (xs ys : List (List Key × PyData)), x = .ref a ∧ y = .ref b ∧ H a = some (.dT ks) ∧ H b = some (.dT ls) ∧ KD K H ks xs ∧ KD K H ls ys ∧ Q (.bl (dSame xs ys)) H
def rNeT (K : PySem.W.Frag) : R2 := fun x y H Q => ∃ (a b : Addr) (ks ls : List (List Key × V)) (xs ys : List (List Key × PyData)), x = .ref a ∧ y = .ref b ∧ H a = some (.dT ks) ∧ H b = some (.dT ls) ∧ KD K H ks xs ∧ KD K H ls ys ∧ Q (.bl (!dSame xs ys)) H
section
variable {X : Cx} {pins : List (Addr × Obj)} {σ : St} {H : Hp} {s : Shared}
/-- both told of one entry -/
structure EntAt (X : Cx) (s : Shared) (x : List Key × Addr × Value) (y : List Key × PyData) : Prop where
  key : x.1 = y.1
  rd : ∃ as, Reads s.heap x.2.2 y.2 as
  sh : SeqAt.shaped y.2 = true
theorem ents_at (I : Inv X pins σ H s) : ∀ {kvs : List (List Key × V)} {xs : List (List Key × Addr × Value)} {ys : List (List Key × PyData)}, KT H kvs xs → KD X.K H kvs ys → Paired (EntAt X s) xs ys
  | _, _, _, .nil, .nil => .nil
  | _, _, _, .cons h t, .cons g u => .cons ⟨h.1.symm.trans g.1, Dp.reads I _ _ _ g.2.1 h.2.2, g.2.2⟩ (ents_at I t u)
theorem ents_look {xs : List (List Key × Addr × Value)} {ys : List (List Key × PyData)} (h : Paired (EntAt X s) xs ys) (k : List Key) :
    (atKey xs k = none ∧ lookD ys k = none) ∨ ∃ p d, atKey xs k = some p ∧ lookD ys k = some d ∧ (∃ as, Reads s.heap p.2 d as) ∧ SeqAt.shaped d = true := by
  induction h with
  | nil => exact .inl ⟨rfl, rfl⟩
  | @cons x y xs ys h t ih =>
    by_cases e : y.1 = k
    · have e' : x.1 = k := h.key.trans e
      exact .inr ⟨x.2, y.2, by simp [atKey, List.find?_cons, e'], by simp [lookD, List.find?_cons, e], h.rd, h.sh⟩
    · have e' : ¬ x.1 = k := fun z => e (h.key.symm.trans z)
      have a1 : atKey (x :: xs) k = atKey xs k := by simp [atKey, List.find?_cons, e']
      have a2 : lookD (y :: ys) k = lookD ys k := by simp [lookD, List.find?_cons, e]
      rw [a1, a2]
      exact ih
theorem lookD_mem : ∀ {ys : List (List Key × PyData)}, (ys.map (·.1)).Nodup → ∀ {y : List Key × PyData}, y ∈ ys → lookD ys y.1 = some y.2
  | z :: ys, nd, y, h => by
    rw [List.map_cons, List.nodup_cons] at nd
    unfold lookD
    rw [List.find?_cons]
    rcases List.mem_cons.mp h with rfl | h
    · simp
    · have ne : ¬ z.1 = y.1 := fun q => nd.1 (q ▸ List.mem_map_of_mem h)
      rw [decide_eq_false ne]
      exact lookD_mem nd.2 h
theorem ents_keys {xs : List (List Key × Addr × Value)} {ys : List (List Key × PyData)} (h : Paired (EntAt X s) xs ys) : xs.map (·.1) = ys.map (·.1) := by
  induction h with
  | nil => rfl
  | cons h _ ih => rw [List.map_cons, List.map_cons, ih, h.key]
theorem dict_pair (hu : X.A.units + 70 < cLine) (I : Inv X pins σ H s) {a b : Addr} {ks ls : List (List Key × V)} {xs ys : List (List Key × PyData)} (ea : H a = some (.dT ks)) (eb : H b = some (.dT ls)) (ha : KD X.K H ks xs) (hb : KD X.K H ls ys) :
    ∃ us vs e, s.heap.DictOfH (tupleKind (mixKind X.prog X.w)) a us ∧ s.heap.DictOfH (tupleKind (mixKind X.prog X.w)) b vs ∧ (a == sysModules) = false ∧ (b == sysModules) = false ∧
      (∀ x ∈ us, ∀ p, atKey vs x.1 = some p → SeqAt.EqAt X.A.in1 s x.2.2 p.2 (e x.1)) ∧ (us.length == vs.length && us.all (chkH vs e)) = dSame xs ys := by
  obtain ⟨_, sa, us, ka, da⟩ := dt_of I.hok ea
  obtain ⟨_, sb, vs, kb, db⟩ := dt_of I.hok eb
  have pa := ents_at I ka ha
  have pb := ents_at I kb hb
  have ndu : (us.map (·.1)).Nodup := let ⟨_, _, _, _, _, _, _, _, n⟩ := da; n
  have la := pa.length
  have lb := pb.length
  let e : List Key → Bool := fun k => match lookD xs k, lookD ys k with
    | some d, some d' => PyData.eqv d d'
    | _, _ => false
  have self : ∀ x ∈ us, atKey us x.1 = some x.2 := fun x hx => by
    obtain ⟨i, hi⟩ := List.mem_iff_getElem?.mp hx
    exact atKey_of_get ndu hi
  refine ⟨us, vs, e, da, db, sa, sb, fun x hx p hp => ?_, ?_⟩
  · rcases ents_look pa x.1 with ⟨z, _⟩ | ⟨q, d, hq, hd, ⟨_, r1⟩, s1⟩
    · rw [self x hx] at z; cases z
    · rcases ents_look pb x.1 with ⟨z, _⟩ | ⟨q', d', hq', hd', ⟨_, r2⟩, s2⟩
      · rw [hp] at z; cases z
      · rw [self x hx] at hq
        rw [hp] at hq'
        cases hq
        cases hq'
        have : e x.1 = PyData.eqv d d' := by show (match lookD xs x.1, lookD ys x.1 with | some d, some d' => PyData.eqv d d' | _, _ => false) = _; rw [hd, hd']
        rw [this]
        exact PySem.W.keq_at r1 r2 s1 s2 (by show X.A.units + 1 + 64 < cLine; omega)
  · unfold dSame
    rw [la, lb]
    congr 1
    have go : ∀ {us' : List (List Key × Addr × Value)} {xs' : List (List Key × PyData)}, Paired (EntAt X s) us' xs' → (∀ x ∈ us', x ∈ us) → (∀ y ∈ xs', y ∈ xs) → us'.all (chkH vs e) = xs'.all fun x => match lookD ys x.1 with
        | some d => PyData.eqv x.2 d
        | none => false := by
      intro us' xs' pq
      induction pq with
      | nil => intro _ _; rfl
      | @cons x y us' xs' h t ih =>
        intro sub sub2
        rw [List.all_cons, List.all_cons, ih (fun z hz => sub z (List.mem_cons_of_mem _ hz)) fun z hz => sub2 z (List.mem_cons_of_mem _ hz)]
        congr 1
        have hx := self x (sub x (List.mem_cons_self ..))
        unfold chkH
        rw [← h.key]
        rcases ents_look pb x.1 with ⟨z1, z2⟩ | ⟨q', d', hq', hd', _, _⟩
        · rw [z1, z2]; rfl
        · rw [hq', hd']
          have : e x.1 = PyData.eqv y.2 d' := by
            have hl : lookD xs x.1 = some y.2 := by rw [h.key]; exact lookD_mem (ents_keys pa ▸ ndu) (sub2 y (List.mem_cons_self ..))
            show (match lookD xs x.1, lookD ys x.1 with | some d, some d' => PyData.eqv d d' | _, _ => false) = _
            rw [hl, hd']
          rw [this]
          rfl
    exact go pa (fun _ h => h) fun _ h => h
theorem op_eqT (hu : X.A.units + 70 < cLine) : OpR X (compareOp .Eq) (rEqT X.K) := by
  intro pins s σ H x y v u Q I rx ry ⟨a, b, ks, ls, xs, ys, ex, ey, ea, eb, ha, hb, q⟩
  subst ex ey
  cases rx
  cases ry
  obtain ⟨us, vs, e, da, db, sa, sb, he, hv⟩ := dict_pair hu I ea eb ha hb
  refine eq_heap (show (tupleKind (mixKind X.prog X.w)).room X.A.in1 from ?_) (by omega) sa sb da db he ?_
  · show X.A.units + 1 < cLine
    omega
  · rw [hv]
    exact ⟨.bl _, H, I, rfl, q⟩
theorem op_neT (hu : X.A.units + 70 < cLine) : OpR X (compareOp .NotEq) (rNeT X.K) := by
  intro pins s σ H x y v u Q I rx ry ⟨a, b, ks, ls, xs, ys, ex, ey, ea, eb, ha, hb, q⟩
  subst ex ey
  cases rx
  cases ry
  obtain ⟨us, vs, e, da, db, sa, sb, he, hv⟩ := dict_pair hu I ea eb ha hb
  refine ne_heap (show (tupleKind (mixKind X.prog X.w)).room X.A.in1 from ?_) (by omega) sa sb da db he ?_
  · show X.A.units + 1 < cLine
    omega
  · rw [hv]
    exact ⟨.bl _, H, I, rfl, q⟩
end
end L2
end B2_part
section B3_part
set_option Elab.async false
set_option linter.all false
set_option maxRecDepth 100000
set_option maxHeartbeats 1000000
set_option pp.deepTerms true
open PySem PySem.Spec PyProof.Rows L2
/-- go on as far as nothing is open -/
local macro_rules | `(tactic| walk_at "go") => `(tactic| repeat (first
  | with_reducible refine w_seq ?_ | with_reducible refine w_next ?_ | with_reducible refine w_set ?_ | with_reducible refine w_drop ?_ | with_reducible refine w_ret ?_ | with_reducible refine w_retN ?_
  | with_reducible refine w_if ?_ | ((with_reducible refine' w_var ?hv ?_); (case hv => exact rfl)) | with_reducible refine w_c ?_ | with_reducible refine w_nil ?_ | with_reducible refine w_cons ?_ | with_reducible refine w_op ?_ | with_reducible refine w_un ?_
  | with_reducible refine w_test ?_ | with_reducible refine w_tB ?_ | with_reducible refine w_not ?_ | with_reducible refine w_and ?_ | with_reducible refine w_or ?_ | with_reducible refine w_bl ?_
  | with_reducible refine w_andV ?_ | with_reducible refine w_orV ?_ | with_reducible refine w_notV ?_ | with_reducible refine w_ifE ?_ | with_reducible refine w_chain ?_ | with_reducible refine w_i0 ?_
  | with_reducible refine w_call ?_ | with_reducible refine w_callS ?_ | with_reducible refine w_cB ?_ | with_reducible refine w_tup ?_ | with_reducible refine w_lst ?_ | with_reducible refine w_fldV ?_
  | with_reducible refine w_neF ?_ | with_reducible refine w_neT ?_ | with_reducible refine w_notN ?_ | with_reducible refine w_isN ?_ | with_reducible refine w_gname ?_ | with_reducible refine w_gsub ?_ | with_reducible refine w_asg ?_ | with_reducible refine w_sl ?_ | with_reducible refine w_noP ?_ | with_reducible refine w_int1 ?_ | with_reducible refine w_part ?_ | with_reducible refine w_yes ?_ | with_reducible refine w_nT ?_ | with_reducible refine w_nF ?_ | with_reducible refine w_iteT ?_ | with_reducible refine w_iteF ?_))
namespace L2
open PySem PySem.Spec PyProof.Rows
/-! ### dict(xs) of pairs whose keys are tuples -/
def mergeT (kvs more : List (List Key × V)) : List (List Key × V) := more.foldl (fun acc kv => putK acc kv.1 kv.2) kvs
theorem length_mergeT : ∀ (more kvs : List (List Key × V)), (mergeT kvs more).length ≤ kvs.length + more.length
  | [], kvs => Nat.le_refl _
  | p :: r, kvs => by
    have h1 := length_mergeT r (putK kvs p.1 p.2)
    have h2 := length_putK kvs p.1 p.2
    show (mergeT (putK kvs p.1 p.2) r).length ≤ _
    rw [List.length_cons]
    omega
theorem KT.merge {H : Hp} : ∀ {more : List (List Key × V)} {rs : List (List Key × Addr × Value)} {kvs : List (List Key × V)} {xs : List (List Key × Addr × Value)}, KT H more rs → KT H kvs xs → KT H (mergeT kvs more) (PySem.storedAllH xs rs) := by
  intro more rs kvs xs r
  induction r generalizing kvs xs with
  | nil => exact fun q => q
  | @cons p q ps qs h t ih =>
    intro r0
    have e := r0.put p.1 h.2.1 h.2.2
    obtain ⟨k, b, v⟩ := q
    have hk : p.1 = k := h.1
    rw [hk] at e
    have := ih e
    rw [← hk] at this ⊢
    exact this
def rDictPT (K : PySem.W.Frag) : List V → Hp → VK → Prop := fun xs H Q => ∃ (a : Addr) (ps : List Addr) (kvs : List (List Key × V)), xs = [V.ref a] ∧ SqL K H a (ps.map V.ref) ∧
  Paired (fun p kv => ∃ b, SqT K H p [V.ref b, kv.2] ∧ H b = some (.tup (kv.1.map kV))) ps kvs ∧ ∀ p, H p = none → Q (.ref p) (upd H p (.dT (mergeT [] kvs)))
section
variable {X : Cx}
theorem pairsT_of {pins : List (Addr × Obj)} {σ : St} {H : Hp} {s : Shared} (I : Inv X pins σ H s) : ∀ {ps : List Addr} {kvs : List (List Key × V)}, Paired (fun p kv => ∃ b, SqT X.K H p [V.ref b, kv.2] ∧ H b = some (.tup (kv.1.map kV))) ps kvs →
    ∃ rs : List (List Key × Addr × Value), KT H kvs rs ∧ Paired (fun p (q : List Key × Addr × Value) => PySem.PairAt s.heap p (.ref q.2.1) q.2.2) ps rs
  | _, _, .nil => ⟨[], .nil, .nil⟩
  | _, _, .cons (b := kv) ⟨b, h, hb⟩ t => by
    obtain ⟨rs, r, hp⟩ := pairsT_of I t
    obtain ⟨its, rv, ht, _⟩ := I.tuple h
    obtain ⟨u, y, ei, ru, ry⟩ := vals2 rv
    cases ru
    subst ei
    exact ⟨(kv.1, b, y) :: rs, .cons ⟨rfl, hb, ry⟩ r, .cons (.inl (show s.heap.IsTuple _ #[Value.ref b, y] from ht)) hp⟩
theorem call_dictPT (hcalm : X.calm = true) (hu : X.A.units + 4 < cLine) : CallR X (.type "dict") (rDictPT X.K) := by
  intro pins s σ H xs us Q I r ⟨a, ps, kvs, ex, hq, hp, q⟩
  subst ex
  obtain ⟨u, eu, rx⟩ := vals1 r
  subst eu
  cases rx
  obtain ⟨its, rv, pl, hz⟩ := I.list hq
  have ei := refs_at rv
  subst ei
  rw [List.length_map] at hz
  obtain ⟨rs, kt, pr⟩ := pairsT_of I hp
  obtain ⟨o, n, ho, hc, hd, hdat⟩ := pl
  have lr : rs.length = ps.length := pr.length.symm
  have P := PySem.PairArg.list (prog := X.prog) (w := X.w) a ((ps.map Value.ref).toArray) (fun j => ps.getD j 0) (rs.map fun q => ((Value.ref q.2.1 : Value), q.2.2))
  have items : PySem.PairItems s.heap ((ps.map Value.ref).toArray) (fun j => ps.getD j 0) (rs.map fun q => ((Value.ref q.2.1 : Value), q.2.2)) := by
    refine ⟨by simp [lr], fun j k v e => ?_⟩
    rw [List.getElem?_map] at e
    obtain ⟨x, hx, ex⟩ := Option.map_eq_some_iff.mp e
    cases ex
    have lj : j < ps.length := by rw [← lr]; exact (List.getElem?_eq_some_iff.mp hx).1
    obtain ⟨y, hy, pa⟩ := K3.Paired.get pr (List.getElem?_eq_getElem lj)
    rw [hx] at hy
    cases hy
    have eg : ps.getD j 0 = ps[j] := by simp [List.getD, lj]
    refine ⟨by simp [eg, lj], ?_⟩
    show PySem.PairAt s.heap (ps.getD j 0) _ _
    rw [eg]
    exact pa
  have hl0 : (rs.map fun q => ((Value.ref q.2.1 : Value), q.2.2)).length = ps.length := by rw [List.length_map, lr]
  have stay : ∀ (h' : Heap), (∀ b o, s.heap.get? b = some o → h'.get? b = some o) → ∀ x ∈ rs, (tupleKind (mixKind X.prog X.w)).is h' x.1 x.2.1 := fun h' k x hx => by
    have : ∀ {kvs : List (List Key × V)} {rs : List (List Key × Addr × Value)}, KT H kvs rs → ∀ x ∈ rs, H x.2.1 = some (.tup (x.1.map kV)) := by
      intro kvs rs q
      induction q with
      | nil => intro x hx; exact nomatch hx
      | @cons p q ps qs h t ih =>
        intro x hx
        rcases List.mem_cons.mp hx with e | hx
        · subst e
          rw [← h.1]
          exact h.2.1
        · exact ih x hx
    obtain ⟨_, its, rr, o', h1, h2, n', h3⟩ := (show ObjOk X.prog X.w H s.heap x.2.1 (.tup (x.1.map kV)) from I.hok _ _ (this kt x hx))
    exact ⟨o', its.toArray, n', k _ _ h1, h2, h3, by simpa using items_are rr⟩
  refine PySem.call_dict_pairsH (knd := tupleKind (mixKind X.prog X.w)) (ps := rs) P (I.ok.hd hcalm) (show X.A.units + 1 + 1 < cLine by omega) ⟨⟨o, n, ho, hc, hd, hdat⟩, items⟩ ⟨by rw [List.length_map], fun i key v e => ?_⟩ (fun h' k x hx => stay h' (fun b o e => k b o (Nat.ne_of_lt (Heap.lt_size e)) (fun z => nomatch z) e) x hx) (by rw [hl0]; exact hz) fun h' tk hd' k => ?_
  · have e' : (rs.map fun q => ((Value.ref q.2.1 : Value), q.2.2))[i]? = some (key, v) := e
    rw [List.getElem?_map] at e'
    obtain ⟨⟨k1, b1, v1⟩, hx, ex⟩ := Option.map_eq_some_iff.mp e'
    cases ex
    exact ⟨k1, b1, hx, rfl⟩
  · have hm : (s.heap.objs.size == sysModules) = false := beq_eq_false_iff_ne.mpr (Nat.ne_of_gt I.big)
    have hlen : (mergeT [] kvs).length ≤ sizeLine := by
      refine Nat.le_trans (length_mergeT kvs []) ?_
      rw [List.length_nil, Nat.zero_add, Paired.length kt, lr]
      exact hz
    obtain ⟨o', es, ep, g1, g2, g3, g4, _, g6⟩ := hd'
    have new : ObjOk X.prog X.w (upd H s.heap.objs.size (.dT (mergeT [] kvs))) h' s.heap.objs.size (.dT (mergeT [] kvs)) :=
      ⟨hlen, hm, _, (KT.merge kt .nil).keeps fun c ys ec => by rw [upd_ne (ne_of_none ec (I.hok.fresh (Nat.le_refl _)))]; exact ec, o', es, ep, g1, g2, g3, g4, g6⟩
    exact ⟨.ref s.heap.objs.size, upd H s.heap.objs.size (.dT (mergeT [] kvs)), I.laid (t' := tk) (fun b o e => k b o (fun z => nomatch z) e) (Nat.le_refl _) new, rfl, q _ (I.hok.fresh (Nat.le_refl _))⟩
end
end L2
end B3_part
section B4_part
set_option Elab.async false
set_option linter.all false
set_option maxRecDepth 100000
set_option maxHeartbeats 1000000
set_option pp.deepTerms true
open PySem PySem.Spec PyProof.Rows L2
/-- go on as far as nothing is open -/
local macro_rules | `(tactic| walk_at "go") => `(tactic| repeat (first
  | with_reducible refine w_seq ?_ | with_reducible refine w_next ?_ | with_reducible refine w_set ?_ | with_reducible refine w_drop ?_ | with_reducible refine w_ret ?_ | with_reducible refine w_retN ?_
  | with_reducible refine w_if ?_ | ((with_reducible refine' w_var ?hv ?_); (case hv => exact rfl)) | with_reducible refine w_c ?_ | with_reducible refine w_nil ?_ | with_reducible refine w_cons ?_ | with_reducible refine w_op ?_ | with_reducible refine w_un ?_
  | with_reducible refine w_test ?_ | with_reducible refine w_tB ?_ | with_reducible refine w_not ?_ | with_reducible refine w_and ?_ | with_reducible refine w_or ?_ | with_reducible refine w_bl ?_
  | with_reducible refine w_andV ?_ | with_reducible refine w_orV ?_ | with_reducible refine w_notV ?_ | with_reducible refine w_ifE ?_ | with_reducible refine w_chain ?_ | with_reducible refine w_i0 ?_
  | with_reducible refine w_call ?_ | with_reducible refine w_callS ?_ | with_reducible refine w_cB ?_ | with_reducible refine w_tup ?_ | with_reducible refine w_lst ?_ | with_reducible refine w_fldV ?_
  | with_reducible refine w_neF ?_ | with_reducible refine w_neT ?_ | with_reducible refine w_notN ?_ | with_reducible refine w_isN ?_ | with_reducible refine w_gname ?_ | with_reducible refine w_gsub ?_ | with_reducible refine w_asg ?_ | with_reducible refine w_sl ?_ | with_reducible refine w_noP ?_ | with_reducible refine w_int1 ?_ | with_reducible refine w_part ?_ | with_reducible refine w_yes ?_ | with_reducible refine w_nT ?_ | with_reducible refine w_nF ?_ | with_reducible refine w_iteT ?_ | with_reducible refine w_iteF ?_))
namespace L2
open PySem PySem.Spec PyProof.Rows
section
variable {X : Cx}
/-- how a comprehension's accumulator is made, what a turn does with it -/
def AccR (X : Cx) (EX tg iter : Expr) (ifs : List Expr) (scope : Scope) (newA : Sem Value) (o0 : Addr → HO) (st : Addr → St → Hp → (Hp → Prop) → Prop) : Prop :=
  ∃ (ob : Obj) (B : Env → Addr → (Value → Shared → Prop) → (Shared → Prop) → Shared → Prop), clausesOf EX = [⟨tg, iter, ifs, 0⟩] ∧
    (∀ (Q' : Value → Shared → Prop) (E' : Value → Shared → Prop) (s' : Shared), Q' (.ref s'.heap.objs.size) { s' with heap := s'.heap.push ob } → wpAny (model X.prog X.w) X.A newA Q' E' s') ∧
    (∀ (H' : Hp) (pn : List (Addr × Obj)) (σ' : St) (s' : Shared), Inv X pn σ' H' s' → ObjOk X.prog X.w (upd H' s'.heap.objs.size (o0 s'.heap.objs.size)) (s'.heap.push ob) s'.heap.objs.size (o0 s'.heap.objs.size)) ∧
    (∀ (R : Result → Shared → Prop) (it : Value) (D : Addr) (env : Env) (s' : Shared) (Iv : Nat → Shared → Prop), TurnB X.prog X.w X.A R tg ifs it env (B env D) Iv → ∀ n, Iv n s' → codeAny (model X.prog X.w) X.A (.compLoop EX 0 it (.ref D) env) R s') ∧
    (∀ (R : Result → Shared → Prop) (it : Value) (D : Addr) (env : Env) (s' : Shared), codeAny (model X.prog X.w) X.A (.compLoop EX 0 it (.ref D) env) R s' →
      wpAny (model X.prog X.w) X.A (pyIter it) (fun it' s'' => codeAny (model X.prog X.w) X.A (.compLoop EX 0 it' (.ref D) env) R s'') (turnOut X.prog X.w X.A R env) s' → codeAny (model X.prog X.w) X.A (.compStart EX 0 it (.ref D) env) R s') ∧
    (∀ (s : Shared) (H : Hp) (C : Addr) (cl : List (Str × Addr)) (fp : List Addr) (pn : List (Addr × Obj)) (σ' : St) (H' : Hp) (s' : Shared) (D : Addr) (N : Value → Shared → Prop) (Nx : Hp → Prop) (G : Shared → Prop),
      Inv (X.blk s H scope (compEnvC scope cl C X.env) fp) pn σ' H' s' → st D σ' H' Nx → (∀ H'' s'', Inv (X.blk s H scope (compEnvC scope cl C X.env) fp) pn σ' H'' s'' → Nx H'' → G s'') → B (compEnvC scope cl C X.env) D N G s')
variable {tg iter : Expr} {ifs : List Expr} {scope : Scope} {pos : Pos} {tk tv te : TE} {kx vx elt : Expr}
theorem acc_dT (hu : X.A.units < cLine) (hk : ∀ (s : Shared) (H : Hp) (C : Addr) (cl : List (Str × Addr)) (fp : List Addr), PE (X.blk s H scope (compEnvC scope cl C X.env) fp) kx tk)
    (he : ∀ (s : Shared) (H : Hp) (C : Addr) (cl : List (Str × Addr)) (fp : List Addr), PE (X.blk s H scope (compEnvC scope cl C X.env) fp) vx tv) :
    AccR X (.DictComp kx vx [⟨tg, iter, ifs, 0⟩] scope pos) tg iter ifs scope newDict (fun _ => .dT []) (stT tk tv) := by
  refine ⟨{ cls := .type "dict", data := .dict #[] }, fun env D N G s' => wpAny (model X.prog X.w) X.A (eval kx env) (fun kv s₄ => wpAny (model X.prog X.w) X.A (eval vx env) (fun vv s₅ => wpAny (model X.prog X.w) X.A (dictSet D kv vv) (fun _ s₆ => G s₆) N s₅) N s₄) N s',
    rfl, fun Q' E' s' q => wpAny_newObj_type q, fun H' _ _ s' I' => dt_empty s'.heap I'.big, fun R it D env s' Iv turn n hI => compLoop_anyD Iv turn n hI, fun R it D env s' loop self => codeAny_compStart_dict loop self, ?_⟩
  intro s0 H0 C cl fp pn σ' H' s' D N Nx G I' q k
  refine thnF ((hk s0 H0 C cl fp).run pn s' σ' H' _ I' q) fun z s10 ⟨yk, H10, I10, r10, q10⟩ => ?_
  refine thnF ((he s0 H0 C cl fp).run pn s10 σ' H10 _ I10 q10) fun z2 s11 ⟨yv, H11, I11, r11, kvs, kk, b, ek, eb, hD, hz, nx⟩ => ?_
  subst ek
  cases r10
  exact d_dictSetT (X := X.blk s0 H0 scope (compEnvC scope cl C X.env) fp) hu I11 hD eb hz r11 fun s12 I12 => k _ _ I12 nx
/-- keys numbers or texts -/
def stD (tk tv : TE) (D : Addr) (σ : St) (H : Hp) (Nx : Hp → Prop) : Prop := tk σ H fun y H1 => tv σ H1 fun z H2 => ∃ kvs k, y = kV k ∧ H2 D = some (.dK kvs) ∧ kvs.length < sizeLine ∧ Nx (upd H2 D (.dK (putK kvs k z)))
theorem acc_dK (hk : ∀ (s : Shared) (H : Hp) (C : Addr) (cl : List (Str × Addr)) (fp : List Addr), PE (X.blk s H scope (compEnvC scope cl C X.env) fp) kx tk)
    (he : ∀ (s : Shared) (H : Hp) (C : Addr) (cl : List (Str × Addr)) (fp : List Addr), PE (X.blk s H scope (compEnvC scope cl C X.env) fp) vx tv) :
    AccR X (.DictComp kx vx [⟨tg, iter, ifs, 0⟩] scope pos) tg iter ifs scope newDict (fun _ => .dK []) (stD tk tv) := by
  refine ⟨{ cls := .type "dict", data := .dict #[] }, fun env D N G s' => wpAny (model X.prog X.w) X.A (eval kx env) (fun kv s₄ => wpAny (model X.prog X.w) X.A (eval vx env) (fun vv s₅ => wpAny (model X.prog X.w) X.A (dictSet D kv vv) (fun _ s₆ => G s₆) N s₅) N s₄) N s',
    rfl, fun Q' E' s' q => wpAny_newObj_type q, fun H' _ _ s' I' => dk_empty s'.heap I'.big, fun R it D env s' Iv turn n hI => compLoop_anyD Iv turn n hI, fun R it D env s' loop self => codeAny_compStart_dict loop self, ?_⟩
  intro s0 H0 C cl fp pn σ' H' s' D N Nx G I' q k
  refine thnF ((hk s0 H0 C cl fp).run pn s' σ' H' _ I' q) fun z s10 ⟨yk, H10, I10, r10, q10⟩ => ?_
  refine thnF ((he s0 H0 C cl fp).run pn s10 σ' H10 _ I10 q10) fun z2 s11 ⟨yv, H11, I11, r11, kvs, kk, ek, hD, hz, nx⟩ => ?_
  subst ek
  exact d_dictSet (X := X.blk s0 H0 scope (compEnvC scope cl C X.env) fp) I11 hD hz r10 r11 fun s12 I12 => k _ _ I12 nx
theorem acc_sK (he : ∀ (s : Shared) (H : Hp) (C : Addr) (cl : List (Str × Addr)) (fp : List Addr), PE (X.blk s H scope (compEnvC scope cl C X.env) fp) elt te) :
    AccR X (.SetComp elt [⟨tg, iter, ifs, 0⟩] scope pos) tg iter ifs scope (newSet (.type "set")) (fun D => SetK X.prog X.w D (fun _ => false) 0) (stK X.prog X.w te) := by
  refine ⟨_, fun env D N G s' => wpAny (model X.prog X.w) X.A (eval elt env) (fun x s₄ => wpAny (model X.prog X.w) X.A (call (.builtin "set.add") [.ref D, x]) (fun _ s₅ => G s₅) N s₄) N s',
    rfl, fun Q' E' s' q => PpSet.newSet_ok q, fun H' _ _ s' I' => setK_new ⟨_, #[], 0, _, Heap.get?_push_size _ rfl, ⟨rfl, rfl, rfl⟩, rfl, (fun e he => by simp at he), (fun k => by simp), (by decide), (by rfl), rfl⟩,
    fun R it D env s' Iv turn n hI => PpSet.compLoopS_any Iv turn n hI, fun R it D env s' loop self => PpSet.codeAny_compStart_set loop self, ?_⟩
  intro s0 H0 C cl fp pn σ' H' s' D N Nx G I' q k
  refine thnF ((he s0 H0 C cl fp).run pn s' σ' H' _ I' q) fun z s10 ⟨y, H10, I10, r10, kk, S, n, ey, hD, hz, nx⟩ => ?_
  subst ey
  exact saddK_run (X := X.blk s0 H0 scope (compEnvC scope cl C X.env) fp) I10 hD hz r10 fun s11 I11 => k _ _ I11 nx
variable {EX : Expr} {newA : Sem Value} {o0 : Addr → HO} {st : Addr → St → Hp → (Hp → Prop) → Prop} {own : List (Str × Nat)} {wi : TI} {g : TG} {tt : TT}
/-- a comprehension as a value -/
theorem pe_acc (R : AccR X EX tg iter ifs scope newA o0 st) (hc : X.calm = true) (hN : X.N.Nodup) (hi : PI X tg iter wi) (ok : BlkOk X.N X.env.scope scope own)
    (hg : ∀ (s : Shared) (H : Hp) (C : Addr) (cl : List (Str × Addr)) (fp : List Addr), PG (X.blk s H scope (compEnvC scope cl C X.env) fp) tg g) (ht : ∀ (s : Shared) (H : Hp) (C : Addr) (cl : List (Str × Addr)) (fp : List Addr), PTs (X.blk s H scope (compEnvC scope cl C X.env) fp) ifs tt)
    (hs : ∀ x, foldedSetIterable iter X.env x = pure x := by intro _; rfl) (hev : eval EX X.env = comprehension EX scope X.env (firstIterPos [⟨tg, iter, ifs, 0⟩] pos) newA false (eval iter X.env) none := by rfl) :
    PE X EX (tAcc o0 wi g tt st (own.map (·.2))) := by
  obtain ⟨ob, B, hcl, hnew, hlay, hloop, hstart, hst⟩ := R
  refine ⟨fun pins s σ H Q I h => ?_⟩
  rw [hev]
  refine acc_core (ob := ob) (B := B) hc hN I hi ok hcl hs (hnew _ _ _) (fun H' s' I' => hlay H' _ _ s' I') (fun Iv turn n hI => hloop _ _ _ _ _ Iv turn n hI) (fun loop self => hstart _ _ _ _ _ loop self) hg ht
    (fun s0 H0 C cl fp pn σ' H' s' D N Nx G _ I' q k => hst s0 H0 C cl fp pn σ' H' s' D N Nx G I' q k) h fun D C s' m H' I' q hn f => ⟨m, hn, fun h'' sb => ?_⟩
  obtain ⟨f0, f1, f2, f3, f4, f5⟩ := f
  exact ⟨.ref D, H', I'.turned (t' := s'.toks) (fun b o hb e => (sb.2 b hb).trans e) f0 f1 f3 f4 f5, rfl, q⟩
/-- y = a comprehension, on one line: the target is stored within the comprehension's frame -/
theorem ps_setAcc {i : Nat} {y : Str} {py spos : Pos} (R : AccR X EX tg iter ifs scope newA o0 st) (hc : X.calm = true) (hN : X.N.Nodup) (hy : X.N[i]? = some y) (hyl : X.env.scope.names.lookup y = some .local)
    (hsw : swapsWith EX (some (.Name y py)) spos.line X.env = pure true) (hi : PI X tg iter wi) (ok : BlkOk X.N X.env.scope scope own)
    (hg : ∀ (s : Shared) (H : Hp) (C : Addr) (cl : List (Str × Addr)) (fp : List Addr), PG (X.blk s H scope (compEnvC scope cl C X.env) fp) tg g) (ht : ∀ (s : Shared) (H : Hp) (C : Addr) (cl : List (Str × Addr)) (fp : List Addr), PTs (X.blk s H scope (compEnvC scope cl C X.env) fp) ifs tt)
    (hs : ∀ x, foldedSetIterable iter X.env x = pure x := by intro _; rfl)
    (hev : evalThenUse EX X.env (assign (.Name y py) X.env) = (do let _ ← comprehension EX scope X.env (firstIterPos [⟨tg, iter, ifs, 0⟩] pos) newA false (eval iter X.env) (some (assign (.Name y py) X.env))) := by rfl) :
    PS X (.Assign [.Name y py] EX spos) (tAsg (tAcc o0 wi g tt st (own.map (·.2))) (gName i)) := by
  obtain ⟨ob, B, hcl, hnew, hlay, hloop, hstart, hst⟩ := R
  refine ⟨fun pins s σ H D I h => ?_⟩
  rw [exec_Assign_Name_used _ _ _ _ hsw]
  refine wpAny_bind (wpAny_standAt (wpAny_bind ?_))
  rw [hev]
  have h : tAcc o0 wi g tt st (own.map (·.2)) σ H (fun x H1 => gName i x σ H1 D.nx) := h
  refine wpAny_bind (thn (acc_core (ob := ob) (B := B) (Qf := fun _ s' => SP X pins D .next s') hc hN I hi ok hcl hs (hnew _ _ _) (fun H' s' I' => hlay H' _ _ s' I') (fun Iv turn n hI => hloop _ _ _ _ _ Iv turn n hI) (fun loop self => hstart _ _ _ _ _ loop self) hg ht
    (fun s0 H0 C cl fp pn σ' H' s' D N Nx G _ I' q k => hst s0 H0 C cl fp pn σ' H' s' D N Nx G I' q k) h fun L C s' m H' I' q hn f => ?_) fun _ s' hq => wpAny_pure (wpAny_pure hq))
  refine (show wpAny _ _ (assign (.Name y py) X.env (.ref L)) _ _ _ from wpAny_assign_Name (store_ok2 (v := V.ref L) I' hN hy (.inl hyl) rfl (fun s2 I2 ⟨a, sb, ha⟩ => ?_) (.inr hyl)))
  obtain ⟨f0, f1, f2, f3, f4, f5⟩ := f
  have haC : C ≠ a := by
    rcases ha with z | z
    · exact z ▸ f1
    · exact fun e => f4 y a z e.symm
  exact ⟨m, hn.sameBut sb haC, fun h3 sb3 => ⟨_, H', I2.turned (t' := s2.toks) (fun b o hb e => (sb3.2 b hb).trans e) f0 f1 f3 f4 f5, q⟩⟩
theorem sw_dict {kx vx : Expr} {gs : List Comprehension} {scope : Scope} {pos py : Pos} {y : Str} {l : Nat} {env : Env} (hk : env.scope.kind = .function) (hy : env.scope.names.lookup y = some .local) (hl : (py.line == pos.line) = true)
    (ha : (scope.names.any fun (n, k) => n == y && (k == .local || k == .cell)) = false) : swapsWith (.DictComp kx vx gs scope pos) (some (.Name y py)) l env = pure true := by
  have ky : env.kindOf y = some .local := hy
  have hb : env.blockKind = .function := by unfold Env.blockKind; rw [hk]; rfl
  unfold swapsWith
  simp only [hb, ky, ha, Expr.pos, hl]
  rfl
theorem sw_set {elt : Expr} {gs : List Comprehension} {scope : Scope} {pos py : Pos} {y : Str} {l : Nat} {env : Env} (hk : env.scope.kind = .function) (hy : env.scope.names.lookup y = some .local) (hl : (py.line == pos.line) = true)
    (ha : (scope.names.any fun (n, k) => n == y && (k == .local || k == .cell)) = false) : swapsWith (.SetComp elt gs scope pos) (some (.Name y py)) l env = pure true := by
  have ky : env.kindOf y = some .local := hy
  have hb : env.blockKind = .function := by unfold Env.blockKind; rw [hk]; rfl
  unfold swapsWith
  simp only [hb, ky, ha, Expr.pos, hl]
  rfl
end
theorem acc_open {o0 : Addr → HO} {wi : TI} {g : TG} {tt : TT} {st : Addr → St → Hp → (Hp → Prop) → Prop} {vs : List Nat} {σ : St} {H : Hp} {Q : VK} (h : wi σ H fun J H1 => ∀ D, H1 D = none → ∃ W : Nat → Nat → Hp → Prop, (∃ m, W 0 m (upd H1 D (o0 D))) ∧ ∀ i m H, W i m H →
  (J.stop i H ∧ Q (.ref D) H) ∨ (J.go i H ∧ ∃ Nx : Hp → Prop, (∀ H', Nx H' → ∃ m', m' < m ∧ W (i + 1) m' H') ∧ ∀ x H', J.yld i H x H' → g x (wipe σ vs) H' fun σ2 H2 => wipe σ2 vs = wipe σ vs ∧ tt σ2 H2 fun b H3 => if b = true then st D σ2 H3 Nx else Nx H3)) : tAcc o0 wi g tt st vs σ H Q := h
theorem lock_open {t : TS} {D : Ends} {σ : St} {H : Hp} (d : Addr) (u : HO) (h : H d = some u) (m : Mut (some u)) (q : ∀ od, t ⟨fun σ' H' => H' d = some (.frz od u) ∧ D.nx σ' (upd H' d u), fun v H' => H' d = some (.frz od u) ∧ D.rt v (upd H' d u), fun σ' H' => H' d = some (.frz od u) ∧ D.bk σ' (upd H' d u), fun σ' H' => H' d = some (.frz od u) ∧ D.ct σ' (upd H' d u)⟩ σ (upd H d (.frz od u))) : tLock t D σ H := ⟨d, u, h, m, q⟩
theorem lockE_open {t : TE} {σ : St} {H : Hp} {Q : VK} (d : Addr) (u : HO) (h : H d = some u) (m : Mut (some u)) (q : ∀ od, t σ (upd H d (.frz od u)) fun v H' => H' d = some (.frz od u) ∧ Q v (upd H' d u)) : tLockE t σ H Q := ⟨d, u, h, m, q⟩
end L2
end B4_part
section B5_part
set_option Elab.async false
set_option linter.all false
set_option maxRecDepth 100000
set_option maxHeartbeats 1000000
set_option pp.deepTerms true
open PySem PySem.Spec PyProof.Rows L2
/-- go on as far as nothing is open -/
local macro_rules | `(tactic| walk_at "go") => `(tactic| repeat (first
  | with_reducible refine w_seq ?_ | with_reducible refine w_next ?_ | with_reducible refine w_set ?_ | with_reducible refine w_drop ?_ | with_reducible refine w_ret ?_ | with_reducible refine w_retN ?_
  | with_reducible refine w_if ?_ | ((with_reducible refine' w_var ?hv ?_); (case hv => exact rfl)) | with_reducible refine w_c ?_ | with_reducible refine w_nil ?_ | with_reducible refine w_cons ?_ | with_reducible refine w_op ?_ | with_reducible refine w_un ?_
  | with_reducible refine w_test ?_ | with_reducible refine w_tB ?_ | with_reducible refine w_not ?_ | with_reducible refine w_and ?_ | with_reducible refine w_or ?_ | with_reducible refine w_bl ?_
  | with_reducible refine w_andV ?_ | with_reducible refine w_orV ?_ | with_reducible refine w_notV ?_ | with_reducible refine w_ifE ?_ | with_reducible refine w_chain ?_ | with_reducible refine w_i0 ?_
  | with_reducible refine w_call ?_ | with_reducible refine w_callS ?_ | with_reducible refine w_cB ?_ | with_reducible refine w_tup ?_ | with_reducible refine w_lst ?_ | with_reducible refine w_fldV ?_
  | with_reducible refine w_neF ?_ | with_reducible refine w_neT ?_ | with_reducible refine w_notN ?_ | with_reducible refine w_isN ?_ | with_reducible refine w_gname ?_ | with_reducible refine w_gsub ?_ | with_reducible refine w_asg ?_ | with_reducible refine w_sl ?_ | with_reducible refine w_noP ?_ | with_reducible refine w_int1 ?_ | with_reducible refine w_part ?_ | with_reducible refine w_yes ?_ | with_reducible refine w_nT ?_ | with_reducible refine w_nF ?_ | with_reducible refine w_iteT ?_ | with_reducible refine w_iteF ?_))
namespace LZ
open PySem PySem.Spec PyProof.Rows L2
/-! ### list(zip(a, b)) of two lists of one length: new tuples in a new list -/
abbrev ZipB (h : Heap) (z TI TO T : Addr) (f : Bool) : Prop :=
  h.get? z = some { cls := .type "zip", dict := none, data := .fields #[rawInt T, .bool f, .bool false, .ref TI, .ref TO], slots := #[] }
theorem zip_no_len : typeLookup (.type "zip") "__len__" = pure none := by rw [typeLookup_type, builtinLookup_eq_fast]; kernel_rfl
theorem zip_no_hint : typeLookup (.type "zip") "__length_hint__" = pure none := by rw [typeLookup_type, builtinLookup_eq_fast]; kernel_rfl
section
variable {prog : Program} {w : World} {A : Around} {E : Value → Shared → Prop} {s : Shared} {z TI TO i1 i2 l1 l2 T : Addr} {xs ys : Array Value}
theorem zipB_held {M : Model} {f : Bool} {Q : Bool → Shared → Prop} (hz : ZipB s.heap z TI TO T f) (hT : ∃ o, s.heap.get? T = some o) (h : ∀ h₀, ZipB h₀ z TI TO T true → Heap.SameBut z s.heap h₀ → Q false { s with heap := h₀ }) :
    wpAny (model prog w) A (Builtin.SmallTypes.ownedTupleIsFree (.ref z)) Q E s := by
  obtain ⟨oT, hoT⟩ := hT
  unfold Builtin.SmallTypes.ownedTupleIsFree
  refine wpAny_bind (wpAny_field hz rfl (x := rawInt T) rfl ?_)
  show wpAny _ _ (loadIfAlive ((T : Int).toNat) >>= _) _ _ _
  rw [Int.toNat_natCast]
  refine wpAny_bind (PySem.W.kdx_alive hoT ?_)
  simp only [Option.isNone_some, Bool.false_eq_true, if_false]
  refine wpAny_bind (wpAny_field hz rfl (x := .bool f) rfl ?_)
  cases f with
  | true =>
    rw [if_neg (show ¬ ((Value.bool true != Value.bool true) = true) from Bool.false_ne_true)]
    exact wpAny_pure (h _ hz (Heap.SameBut.refl _ _))
  | false =>
    rw [if_pos (show (Value.bool false != Value.bool true) = true from rfl)]
    exact wpAny_bind (wpAny_setField_rec hz (by simp) fun h₃ he₃ hs₃ => wpAny_pure (h h₃ he₃ hs₃))
theorem zipB_next {f : Bool} {k : Nat} {x y : Value} {Q : Option Value → Shared → Prop} (D : ZipApart z TI TO i1 i2 l1 l2)
    (hz : ZipB s.heap z TI TO T f) (hT : ∃ o, s.heap.get? T = some o) (hTI : IsPair s.heap TI (.ref i1) (.ref i2))
    (h1 : s.heap.IsListIter i1 l1 k) (h2 : s.heap.IsListIter i2 l2 k) (hl1 : s.heap.IsList l1 xs) (hl2 : s.heap.IsList l2 ys) (hx : xs[k]? = some x) (hy : ys[k]? = some y)
    (hQ : ∀ h', ZipB h' z TI TO T true → h'.IsListIter i1 l1 (k + 1) → h'.IsListIter i2 l2 (k + 1) → IsPair h' s.heap.objs.size x y → h'.objs.size = s.heap.objs.size + 1 →
      (∀ c o, c ≠ z → c ≠ i1 → c ≠ i2 → s.heap.get? c = some o → h'.get? c = some o) → Q (some (.ref s.heap.objs.size)) { s with heap := h' }) :
    wpAny (model prog w) A (pyNext (.ref z)) Q E s := by
  have hty : s.TypeIs (.ref z) "zip" := ⟨_, hz, rfl⟩
  unfold pyNext
  refine wpAny_bind (wpAny_attempt (wpAny_callSpecial?_slot (name := Str.ofString "__next__") hty PySem.F.slot_zip_next
    (wpAny_call_entry PySem.F.slot_zip_next hty PySem.F.entry_zip_next ?_ (PySem.F.args_zip_next_1 _))))
  show wpAny _ _ (field (.ref z) 2 >>= _) _ _ _
  refine wpAny_bind (wpAny_field hz rfl (x := .bool false) rfl ?_)
  show wpAny _ _ (field (.ref z) 3 >>= _) _ _ _
  refine wpAny_bind (wpAny_field hz rfl (x := .ref TI) rfl ?_)
  refine wpAny_bind (wpAny_seqItems hTI rfl ?_)
  show wpAny _ _ (Builtin.SmallTypes.ownedTupleIsFree (.ref z) >>= _) _ _ _
  refine wpAny_bind (zipB_held (M := model prog w) hz hT fun h₀ hz₀ hs₀ => ?_)
  simp only [Bool.false_eq_true, if_false]
  refine wpAny_bind ?_
  rw [← Array.forIn_toList]
  simp only [List.forIn_cons, List.forIn_nil]
  refine wpAny_bind (wpAny_bind (wpAny_holding ?_))
  show wpAny _ _ (Builtin.SmallTypes.nextOf (.ref i1) >>= _) _ _ _
  refine wpAny_bind (wpAny_nextOf_list_item (h1.extBut hs₀.extBut D.i1z) (hl1.extBut hs₀.extBut D.l1z) hx fun h₂ h1₂ hs₂ => wpAny_pure ?_)
  refine wpAny_pure ?_
  refine wpAny_bind (wpAny_bind (wpAny_holding ?_))
  show wpAny _ _ (Builtin.SmallTypes.nextOf (.ref i2) >>= _) _ _ _
  refine wpAny_bind (wpAny_nextOf_list_item ((h2.extBut hs₀.extBut D.i2z).extBut hs₂.extBut D.i12.symm) ((hl2.extBut hs₀.extBut D.l2z).extBut hs₂.extBut D.l2i1) hy fun h₄ h2₄ hs₄ => wpAny_pure ?_)
  refine wpAny_pure (wpAny_pure ?_)
  refine wpAny_bind (wpAny_newTuple ?_ (by show 2 ≤ sizeLine; decide))
  have hsz : h₄.objs.size = s.heap.objs.size := by rw [hs₄.1, hs₂.1, hs₀.1]
  have up : ∀ c o, c ≠ z → c ≠ i1 → c ≠ i2 → s.heap.get? c = some o → h₄.get? c = some o := fun c o c1 c2 c3 e => hs₄.extBut _ _ c3 (hs₂.extBut _ _ c2 (hs₀.extBut _ _ c1 e))
  refine wpAny_pure ⟨_, rfl, wpAny_pure ?_⟩
  have hz₄ : ZipB h₄ z TI TO T true := hs₄.extBut _ _ D.i2z.symm (hs₂.extBut _ _ D.i1z.symm hz₀)
  show Q (some (.ref h₄.objs.size)) _
  rw [hsz]
  refine hQ _ (Heap.get?_push_of_some _ hz₄) ((h1₂.extBut hs₄.extBut D.i12).at fun o e => Heap.get?_push_of_some _ e) (h2₄.at fun o e => Heap.get?_push_of_some _ e) ?_ (by rw [Heap.size_push, hsz]) fun c o c1 c2 c3 e => Heap.get?_push_of_some _ (up c o c1 c2 c3 e)
  rw [← hsz]
  exact Heap.get?_push_size _ rfl
theorem zipB_end {f : Bool} {k : Nat} {Q : Option Value → Shared → Prop} (hh : A.handled = none) (D : ZipApart z TI TO i1 i2 l1 l2)
    (hz : ZipB s.heap z TI TO T f) (hT : ∃ o, s.heap.get? T = some o) (hTI : IsPair s.heap TI (.ref i1) (.ref i2))
    (h1 : s.heap.IsListIter i1 l1 k) (hl1 : s.heap.IsList l1 xs) (hx : xs[k]? = none)
    (hQ : ∀ h', (∀ c o, c ≠ z → c ≠ i1 → c ≠ i2 → s.heap.get? c = some o → h'.get? c = some o) → Q none { s with heap := h' }) :
    wpAny (model prog w) A (pyNext (.ref z)) Q E s := by
  have hty : s.TypeIs (.ref z) "zip" := ⟨_, hz, rfl⟩
  unfold pyNext
  refine wpAny_bind (wpAny_attempt (wpAny_callSpecial?_slot (name := Str.ofString "__next__") hty PySem.F.slot_zip_next
    (wpAny_call_entry PySem.F.slot_zip_next hty PySem.F.entry_zip_next ?_ (PySem.F.args_zip_next_1 _))))
  show wpAny _ _ (field (.ref z) 2 >>= _) _ _ _
  refine wpAny_bind (wpAny_field hz rfl (x := .bool false) rfl ?_)
  show wpAny _ _ (field (.ref z) 3 >>= _) _ _ _
  refine wpAny_bind (wpAny_field hz rfl (x := .ref TI) rfl ?_)
  refine wpAny_bind (wpAny_seqItems hTI rfl ?_)
  show wpAny _ _ (Builtin.SmallTypes.ownedTupleIsFree (.ref z) >>= _) _ _ _
  refine wpAny_bind (zipB_held (M := model prog w) hz hT fun h₀ hz₀ hs₀ => ?_)
  simp only [Bool.false_eq_true, if_false]
  refine wpAny_bind ?_
  rw [← Array.forIn_toList]
  simp only [List.forIn_cons, List.forIn_nil]
  refine wpAny_bind (wpAny_bind (wpAny_holding ?_))
  show wpAny _ _ (Builtin.SmallTypes.nextOf (.ref i1) >>= _) _ _ _
  refine wpAny_bind (wpAny_nextOf_list_end hh (h1.extBut hs₀.extBut D.i1z) (hl1.extBut hs₀.extBut D.l1z) hx fun h₂ e hs₂ he => ?_)
  refine wpAny_bind (wpAny_isInstance (T := "StopIteration") (b := true) he isSubtype_stop ?_)
  exact wpAny_pure (hQ _ fun c o c1 c2 c3 q => hs₂ _ _ c2 (hs₀.extBut _ _ c1 q))
/-- what the tuples made so far are -/
structure Gd (xs ys : Array Value) (lo : Addr) (h : Heap) (as : List Addr) : Prop where
  rise : as.Pairwise (· < ·)
  above : ∀ a ∈ as, lo < a
  pairs : ∀ (j : Nat) (a : Addr), as[j]? = some a → ∃ x y, xs[j]? = some x ∧ ys[j]? = some y ∧ IsPair h a x y
theorem Gd.there {lo : Addr} {h : Heap} {as : List Addr} (g : Gd xs ys lo h as) {a : Addr} (ha : a ∈ as) : a < h.objs.size := by
  obtain ⟨j, hj⟩ := List.mem_iff_getElem?.mp ha
  obtain ⟨_, _, _, _, e⟩ := g.pairs j a hj
  exact Heap.lt_size e
/-- where the zip stands -/
def ZSt (h : Heap) (z TI TO i1 i2 S : Addr) (l1 l2 : Addr) (k : Nat) : Prop := IsPair h TI (.ref i1) (.ref i2) ∧ h.IsListIter i1 l1 k ∧ h.IsListIter i2 l2 k ∧
  ((k = 0 ∧ IsZip h z TI TO .none ∧ ∃ a b, IsPair h TO a b) ∨ ∃ T f, ZipB h z TI TO T f ∧ (∃ o, h.get? T = some o) ∧ S < T)
theorem ZSt.keep {h h' : Heap} {S : Addr} {k : Nat} (x : ZSt h z TI TO i1 i2 S l1 l2 k) (hk : ∀ b o, b ≠ S → h.get? b = some o → h'.get? b = some o) (n1 : z < S) (n2 : TI < S) (n3 : TO < S) (n4 : i1 < S) (n5 : i2 < S) : ZSt h' z TI TO i1 i2 S l1 l2 k := by
  obtain ⟨a, b, c, d⟩ := x
  refine ⟨hk _ _ (Nat.ne_of_lt n2) a, b.at fun o e => hk _ _ (Nat.ne_of_lt n4) e, c.at fun o e => hk _ _ (Nat.ne_of_lt n5) e, ?_⟩
  rcases d with ⟨e, d1, _, _, d2⟩ | ⟨T, f, d1, ⟨o, d2⟩, d3⟩
  · exact .inl ⟨e, hk _ _ (Nat.ne_of_lt n1) d1, _, _, hk _ _ (Nat.ne_of_lt n3) d2⟩
  · exact .inr ⟨T, f, hk _ _ (Nat.ne_of_lt n1) d1, ⟨o, hk _ _ (Nat.ne_of_gt d3) d2⟩, d3⟩
theorem z_item {S : Addr} {k : Nat} {x y : Value} {Q : Option Value → Shared → Prop} (D : ZipApart z TI TO i1 i2 l1 l2) (n1 : z < S) (n4 : i1 < S) (n5 : i2 < S) (hS : S < s.heap.objs.size) (st : ZSt s.heap z TI TO i1 i2 S l1 l2 k) (hl1 : s.heap.IsList l1 xs) (hl2 : s.heap.IsList l2 ys) (hx : xs[k]? = some x) (hy : ys[k]? = some y)
    (hQ : ∀ h', ZSt h' z TI TO i1 i2 S l1 l2 (k + 1) → IsPair h' s.heap.objs.size x y → h'.objs.size = s.heap.objs.size + 1 → (∀ c o, c ≠ z → c ≠ TO → c ≠ i1 → c ≠ i2 → s.heap.get? c = some o → h'.get? c = some o) → Q (some (.ref s.heap.objs.size)) { s with heap := h' }) :
    wpAny (model prog w) A (pyNext (.ref z)) Q E s := by
  obtain ⟨a, b, c, d⟩ := st
  rcases d with ⟨rfl, d1, _, _, d2⟩ | ⟨T, f, d1, ⟨o, d2⟩, d3⟩
  · refine wpAny_pyNext_zip_item D d1 a d2 b c hl1 hl2 hx hy fun h' e1 e2 e3 e4 e5 e6 e7 => hQ h' ⟨?_, e3, e4, .inr ⟨_, false, e1, ⟨_, e5⟩, hS⟩⟩ e5 e6 e7
    exact e7 _ _ D.TIz D.TITO D.TIi1 D.TIi2 a
  · refine zipB_next D d1 ⟨o, d2⟩ a b c hl1 hl2 hx hy fun h' e1 e2 e3 e4 e5 e6 => hQ h' ⟨?_, e2, e3, .inr ⟨T, true, e1, ⟨o, e6 _ _ ?_ ?_ ?_ d2⟩, d3⟩⟩ e4 e5 fun c o c1 _ c3 c4 => e6 c o c1 c3 c4
    · exact e6 _ _ D.TIz D.TIi1 D.TIi2 a
    · exact Nat.ne_of_gt (Nat.lt_trans n1 d3)
    · exact Nat.ne_of_gt (Nat.lt_trans n4 d3)
    · exact Nat.ne_of_gt (Nat.lt_trans n5 d3)
theorem z_done {S : Addr} {k : Nat} {Q : Option Value → Shared → Prop} (hh : A.handled = none) (D : ZipApart z TI TO i1 i2 l1 l2) (st : ZSt s.heap z TI TO i1 i2 S l1 l2 k) (hl1 : s.heap.IsList l1 xs) (hl2 : s.heap.IsList l2 ys) (hx : xs[k]? = none)
    (hQ : ∀ h', (∀ c o, c ≠ z → c ≠ TO → c ≠ i1 → c ≠ i2 → s.heap.get? c = some o → h'.get? c = some o) → Q none { s with heap := h' }) : wpAny (model prog w) A (pyNext (.ref z)) Q E s := by
  obtain ⟨a, b, c, d⟩ := st
  rcases d with ⟨rfl, d1, _, _, d2⟩ | ⟨T, f, d1, d2, d3⟩
  · exact wpAny_pyNext_zip_end hh D d1 a d2 b c hl1 hl2 (.inl hx) hQ
  · exact zipB_end hh D d1 d2 a b hl1 hx fun h' e => hQ h' fun c o c1 _ c3 c4 => e c o c1 c3 c4
end
section
variable {prog : Program} {w : World} {A : Around} {s : Shared} {R : Result → Shared → Prop} {z TI TO i1 i2 l1 l2 : Addr} {xs ys : Array Value}
theorem z_loop {S : Addr} (hh : A.handled = none) (D : ZipApart z TI TO i1 i2 l1 l2) (n1 : z < S) (n2 : TI < S) (n3 : TO < S) (n4 : i1 < S) (n5 : i2 < S) (n6 : l1 < S) (n7 : l2 < S) (hxy : xs.size = ys.size) (hn : xs.size ≤ sizeLine) (res : Value) {h₁ : Heap}
    (hR : ∀ h' tk acc c as, (∀ b o, b ≠ S → b ≠ z → b ≠ TO → b ≠ i1 → b ≠ i2 → h₁.get? b = some o → h'.get? b = some o) → h'.get? S = some { cls := .type "list", dict := none, data := .seq acc c, slots := #[] } → as.length = xs.size → Gd xs ys S h' as →
      acc.toList = as.map Value.ref → R (.ok (.ret res)) { s with heap := h', toks := tk }) :
    ∀ (k i : Nat) (h : Heap) (tk c : Nat) (acc : Array Value) (as : List Addr), xs.size - i = k → i ≤ xs.size → ZSt h z TI TO i1 i2 S l1 l2 i → h.IsList l1 xs → h.IsList l2 ys → (∀ b o, b ≠ S → b ≠ z → b ≠ TO → b ≠ i1 → b ≠ i2 → h₁.get? b = some o → h.get? b = some o) →
      h.get? S = some { cls := .type "list", dict := none, data := .seq acc c, slots := #[] } → acc.toList = as.map Value.ref → as.length = i → Gd xs ys S h as →
      codeAny (model prog w) A (.builtin "list.extend.loop" ⟨[.ref S, .ref z, res], []⟩) R { s with heap := h, toks := tk } := by
  have gt : ∀ {a b : Addr}, a < b → b ≠ a := fun h => Nat.ne_of_gt h
  intro k
  induction k with
  | zero =>
    intro i h tk c acc as hk hi hst hL1 hL2 hkeep hS hacc hal hG
    refine codeAny_builtin PySem.F.entry_extend_loop ?_
    rw [Around.under_plainId PySem.F.plain_extend_loop _]
    show wpAny _ A.in1 (pyNext (.ref z) >>= _) _ _ _
    refine wpAny_bind (z_done (s := { s with heap := h, toks := tk }) (A := A.in1) hh D hst hL1 hL2 (Array.getElem?_eq_none (by omega)) fun h' he => ?_)
    refine wpAny_pure (hR h' tk acc c as (fun b o h1 h2 h3 h4 h5 e => he b o h2 h3 h4 h5 (hkeep b o h1 h2 h3 h4 h5 e)) (he S _ (gt n1) (gt n3) (gt n4) (gt n5) hS) (by omega) ⟨hG.rise, hG.above, fun j a hj => ?_⟩ hacc)
    obtain ⟨x, y, e1, e2, e3⟩ := hG.pairs j a hj
    have ha := hG.above a (List.mem_of_getElem? hj)
    exact ⟨x, y, e1, e2, he a _ (gt (Nat.lt_trans n1 ha)) (gt (Nat.lt_trans n3 ha)) (gt (Nat.lt_trans n4 ha)) (gt (Nat.lt_trans n5 ha)) e3⟩
  | succ k ih =>
    intro i h tk c acc as hk hi hst hL1 hL2 hkeep hS hacc hal hG
    have hlt : i < xs.size := by omega
    have hx : xs[i]? = some xs[i] := Array.getElem?_eq_getElem hlt
    have hy : ys[i]? = some (ys[i]'(by omega)) := Array.getElem?_eq_getElem (by omega)
    have hsz : acc.size = i := by rw [← Array.length_toList, hacc, List.length_map, hal]
    refine codeAny_builtin PySem.F.entry_extend_loop ?_
    rw [Around.under_plainId PySem.F.plain_extend_loop _]
    show wpAny _ A.in1 (pyNext (.ref z) >>= _) _ _ _
    refine wpAny_bind (z_item (s := { s with heap := h, toks := tk }) (S := S) D n1 n4 n5 (Heap.lt_size hS) hst hL1 hL2 hx hy fun h' hst' ht hz hkp => ?_)
    dsimp only at ht hz hkp ⊢
    have hS' := hkp S _ (gt n1) (gt n3) (gt n4) (gt n5) hS
    have up : ∀ b o, b ≠ S → h'.get? b = some o → (h'.update S (Obj.mapSeq (·.push (Value.ref h.objs.size)))).get? b = some o := fun b o hb e => (Heap.get?_update_other _ _ (Ne.symm hb)).trans e
    have hSl : S < h.objs.size := Heap.lt_size hS
    have L1 : (h'.update S (Obj.mapSeq (·.push (Value.ref h.objs.size)))).IsList l1 xs := hL1.at fun o e => up _ o (Nat.ne_of_lt n6) (hkp _ o D.l1z D.l1TO D.l1i1 D.l1i2 e)
    have L2 : (h'.update S (Obj.mapSeq (·.push (Value.ref h.objs.size)))).IsList l2 ys := hL2.at fun o e => up _ o (Nat.ne_of_lt n7) (hkp _ o D.l2z D.l2TO D.l2i1 D.l2i2 e)
    show wpAny _ A.in1 (updateSeq S (·.push (Value.ref h.objs.size)) >>= _) _ _ _
    refine wpAny_bind ?_
    refine wpAny_updateSeq hS' rfl (wpAny_pure ⟨plainId_quiet PySem.F.plain_extend_loop _, ih (i + 1) _ tk _ (acc.push (Value.ref h.objs.size)) (as ++ [h.objs.size]) (by omega) hlt (hst'.keep up n1 n2 n3 n4 n5) L1 L2
      (fun b o h1 h2 h3 h4 h5 e => up b o h1 (hkp b o h2 h3 h4 h5 (hkeep b o h1 h2 h3 h4 h5 e))) (Heap.get?_update_self _ hS' rfl) (by rw [Array.toList_push, hacc, List.map_append]; rfl) (by rw [List.length_append, hal]; rfl) ⟨?_, ?_, ?_⟩⟩) (by rw [hsz]; omega) (by show (acc.push (Value.ref h.objs.size)).size ≤ sizeLine + 1; rw [Array.size_push, hsz]; omega)
    · refine List.pairwise_append.mpr ⟨hG.rise, List.pairwise_singleton _ _, fun a ha b hb => ?_⟩
      rw [List.mem_singleton.mp hb]
      exact hG.there ha
    · intro a ha
      rcases List.mem_append.mp ha with ha | ha
      · exact hG.above a ha
      · rw [List.mem_singleton.mp ha]; exact hSl
    · intro j b hj
      rcases Nat.lt_trichotomy j as.length with h1 | h1 | h1
      · rw [List.getElem?_append_left h1] at hj
        obtain ⟨x, y, e1, e2, e3⟩ := hG.pairs j b hj
        have hb := hG.above b (List.mem_of_getElem? hj)
        exact ⟨x, y, e1, e2, up b _ (gt hb) (hkp b _ (gt (Nat.lt_trans n1 hb)) (gt (Nat.lt_trans n3 hb)) (gt (Nat.lt_trans n4 hb)) (gt (Nat.lt_trans n5 hb)) e3)⟩
      · subst h1
        have hb : h.objs.size = b := by simpa using hj
        subst hb
        exact ⟨_, _, by rw [hal]; exact hx, by rw [hal]; exact hy, up _ _ (gt hSl) ht⟩
      · have hnone : (as ++ [h.objs.size])[j]? = none := List.getElem?_eq_none (by rw [List.length_append, List.length_singleton]; omega)
        rw [hnone] at hj; cases hj
end
section
variable {prog : Program} {w : World} {A : Around} {E : Value → Shared → Prop} {s : Shared} {z TI TO i1 i2 l1 l2 : Addr} {xs ys : Array Value}
theorem z_hint (hT : s.TypeIs (.ref z) "zip") {Q : Bool → Shared → Prop} (h : Q true s) : wpAny (model prog w) A (Builtin.List.listLengthHint (.ref z)) Q E s := by
  unfold Builtin.List.listLengthHint
  refine wpAny_bind (wpAny_specialOf hT zip_no_len ?_)
  show wpAny _ A (specialOf (Value.ref z) (Str.ofString "__length_hint__") >>= _) _ _ _
  refine wpAny_bind (wpAny_specialOf hT zip_no_hint ?_)
  exact wpAny_pure h
theorem z_extend {R : Result → Shared → Prop} (hh : A.handled = none) (D : ZipApart z TI TO i1 i2 l1 l2) {S : Addr} (n1 : z < S) (n2 : TI < S) (n3 : TO < S) (n4 : i1 < S) (n5 : i2 < S) (n6 : l1 < S) (n7 : l2 < S) (hxy : xs.size = ys.size) (hn : xs.size ≤ sizeLine) (res : Value) (c₀ : Nat)
    (hz : IsZip s.heap z TI TO .none) (hTI : IsPair s.heap TI (.ref i1) (.ref i2)) (hTO : IsPair s.heap TO .none .none) (h1 : s.heap.IsListIter i1 l1 0) (h2 : s.heap.IsListIter i2 l2 0) (hl1 : s.heap.IsList l1 xs) (hl2 : s.heap.IsList l2 ys)
    (hS : s.heap.get? S = some { cls := .type "list", data := .seq #[] c₀ })
    (hR : ∀ h' tk acc c as, (∀ b o, b ≠ S → b ≠ z → b ≠ TO → b ≠ i1 → b ≠ i2 → s.heap.get? b = some o → h'.get? b = some o) → h'.get? S = some { cls := .type "list", dict := none, data := .seq acc c, slots := #[] } → as.length = xs.size → Gd xs ys S h' as →
      acc.toList = as.map Value.ref → R (.ok (.ret res)) { s with heap := h', toks := tk }) :
    wpAny (model prog w) A.in1 (Builtin.List.listExtendWith (.ref S) (.ref z) res)
      (fun fin s' => match fin with | .done f => R (.ok f) s' | .again c' => c'.quiet = true ∧ codeAny (model prog w) A c' R s') (fun e s' => R (.error e) s') s := by
  have hSr : S ≠ z := Nat.ne_of_gt n1
  have hT : s.TypeIs (.ref z) "zip" := ⟨_, hz, rfl⟩
  unfold Builtin.List.listExtendWith
  refine wpAny_bind (wpAny_typeOf (T := "zip") hT ?_)
  have g1 : Builtin.List.listSameRef (.ref S) (.ref z) = false := by simp [Builtin.List.listSameRef, hSr]
  have g2 : (Value.type "zip" == Value.type "list") = false := by decide
  have g3 : (Value.type "zip" == Value.type "tuple") = false := by decide
  simp only [g1, g2, g3, Bool.or_false, Bool.false_eq_true, if_false]
  refine wpAny_bind (wpAny_pyIter_zip hz ?_)
  refine wpAny_bind (wpAny_holding (z_hint hT ?_))
  simp only [Bool.true_or, if_true]
  refine wpAny_bind (wpAny_rule ?_)
  refine wpAny_bind ?_
  show wpAny _ _ (updateSeq S (·.push .none) >>= fun _ => updateSeq S (·.pop)) _ _ _
  refine wpAny_bind (wpAny_updateSeq hS rfl ?_)
  have hS₂ := Heap.get?_update_self (Obj.mapSeq (·.push Value.none)) hS rfl
  refine wpAny_updateSeq (hz := by seq_fits) hS₂ rfl ?_
  have hS₃ := Heap.get?_update_self (Obj.mapSeq (·.pop)) hS₂ rfl
  have oth : ∀ b o, b ≠ S → s.heap.get? b = some o → ((s.heap.update S (Obj.mapSeq (·.push Value.none))).update S (Obj.mapSeq (·.pop))).get? b = some o :=
    fun b o hb e => (Heap.get?_update_other _ _ (Ne.symm hb)).trans ((Heap.get?_update_other _ _ (Ne.symm hb)).trans e)
  refine wpAny_pure ⟨plainId_quiet PySem.F.plain_extend_loop _, z_loop (s := s) (xs := xs) (ys := ys) (h₁ := s.heap) hh D n1 n2 n3 n4 n5 n6 n7 hxy hn res hR xs.size 0 _ _ _ #[] [] (Nat.sub_zero _) (Nat.zero_le _) ?_ (hl1.at fun o e => oth _ o (Nat.ne_of_lt n6) e) (hl2.at fun o e => oth _ o (Nat.ne_of_lt n7) e)
    (fun b o hb _ _ _ _ e => oth b o hb e) hS₃ rfl rfl ⟨List.Pairwise.nil, (fun _ ha => nomatch ha), (fun j a hj => by simp at hj)⟩⟩
  exact (show ZSt s.heap z TI TO i1 i2 S l1 l2 0 from ⟨hTI, h1, h2, .inl ⟨rfl, hz, _, _, hTO⟩⟩).keep oth n1 n2 n3 n4 n5
theorem z_init {R : Result → Shared → Prop} (hh : A.handled = none) (D : ZipApart z TI TO i1 i2 l1 l2) {S : Addr} (n1 : z < S) (n2 : TI < S) (n3 : TO < S) (n4 : i1 < S) (n5 : i2 < S) (n6 : l1 < S) (n7 : l2 < S) (hxy : xs.size = ys.size) (hn : xs.size ≤ sizeLine)
    (hz : IsZip s.heap z TI TO .none) (hTI : IsPair s.heap TI (.ref i1) (.ref i2)) (hTO : IsPair s.heap TO .none .none) (h1 : s.heap.IsListIter i1 l1 0) (h2 : s.heap.IsListIter i2 l2 0) (hl1 : s.heap.IsList l1 xs) (hl2 : s.heap.IsList l2 ys)
    (hS : s.heap.get? S = some { cls := .type "list", data := .seq #[] })
    (hR : ∀ h' tk acc c as, (∀ b o, b ≠ S → b ≠ z → b ≠ TO → b ≠ i1 → b ≠ i2 → s.heap.get? b = some o → h'.get? b = some o) → h'.get? S = some { cls := .type "list", dict := none, data := .seq acc c, slots := #[] } → as.length = xs.size → Gd xs ys S h' as →
      acc.toList = as.map Value.ref → R (.ok (.ret .none)) { s with heap := h', toks := tk }) :
    wpAny (model prog w) A.in1 (Builtin.«list.__init__» ⟨[.ref S, .ref z], []⟩)
      (fun fin s' => match fin with | .done f => R (.ok f) s' | .again c' => c'.quiet = true ∧ codeAny (model prog w) A c' R s') (fun e s' => R (.error e) s') s := by
  show wpAny _ _ (do let old ← Builtin.List.listItems (.ref S); Builtin.List.listUpdate (.ref S) (fun _ => #[]); letGo old.toList.reverse; Builtin.List.listExtendWith (.ref S) (.ref z) .none) _ _ s
  refine wpAny_bind ?_
  unfold Builtin.List.listItems
  refine wpAny_bind (wpAny_seqItems hS rfl (wpAny_pure ?_))
  show wpAny _ _ (updateSeq S (fun _ => #[]) >>= fun _ => letGo (#[] : Array Value).toList.reverse >>= fun _ => Builtin.List.listExtendWith (.ref S) (.ref z) .none) _ _ s
  refine wpAny_bind (wpAny_updateSeq hS rfl ?_)
  have hS₂ := Heap.get?_update_self (Obj.mapSeq (fun _ => (#[] : Array Value))) hS rfl
  have oth : ∀ b o, b ≠ S → s.heap.get? b = some o → (s.heap.update S (Obj.mapSeq (fun _ => (#[] : Array Value)))).get? b = some o :=
    fun b o hb e => (Heap.get?_update_other _ _ (Ne.symm hb)).trans e
  refine wpAny_bind (wpAny_letGo ?_)
  refine z_extend (xs := xs) (ys := ys) hh D n1 n2 n3 n4 n5 n6 n7 hxy hn .none _ (oth _ _ (Nat.ne_of_lt n1) hz) (oth _ _ (Nat.ne_of_lt n2) hTI) (oth _ _ (Nat.ne_of_lt n3) hTO) (h1.at fun o e => oth _ o (Nat.ne_of_lt n4) e) (h2.at fun o e => oth _ o (Nat.ne_of_lt n5) e)
    (hl1.at fun o e => oth _ o (Nat.ne_of_lt n6) e) (hl2.at fun o e => oth _ o (Nat.ne_of_lt n7) e) hS₂ fun h' tk acc c as hk hS' hl hG hacc => ?_
  exact hR h' tk acc c as (fun b o hb b1 b2 b3 b4 e => hk b o hb b1 b2 b3 b4 (oth b o hb e)) hS' hl hG hacc
theorem z_call {Q : Value → Shared → Prop} (hh : A.handled = none) (D : ZipApart z TI TO i1 i2 l1 l2) (hxy : xs.size = ys.size) (hn : xs.size ≤ sizeLine)
    (hz : IsZip s.heap z TI TO .none) (hTI : IsPair s.heap TI (.ref i1) (.ref i2)) (hTO : IsPair s.heap TO .none .none) (h1 : s.heap.IsListIter i1 l1 0) (h2 : s.heap.IsListIter i2 l2 0) (hl1 : s.heap.IsList l1 xs) (hl2 : s.heap.IsList l2 ys)
    (hQ : ∀ h' tk acc c as, (∀ b o, b ≠ z → b ≠ TO → b ≠ i1 → b ≠ i2 → s.heap.get? b = some o → h'.get? b = some o) → h'.get? s.heap.objs.size = some { cls := .type "list", dict := none, data := .seq acc c, slots := #[] } → as.length = xs.size → Gd xs ys s.heap.objs.size h' as →
      acc.toList = as.map Value.ref → Q (.ref s.heap.objs.size) { s with heap := h', toks := tk }) :
    wpAny (model prog w) A (call (.type "list") [.ref z]) Q E s := by
  have lt : ∀ {b : Addr} {o : Obj}, s.heap.get? b = some o → b < s.heap.objs.size := fun e => Heap.lt_size e
  have li1 : i1 < s.heap.objs.size := let ⟨_, e, _⟩ := h1; lt e
  have li2 : i2 < s.heap.objs.size := let ⟨_, e, _⟩ := h2; lt e
  have ll1 : l1 < s.heap.objs.size := let ⟨_, e, _⟩ := hl1; lt e
  have ll2 : l2 < s.heap.objs.size := let ⟨_, e, _⟩ := hl2; lt e
  refine callType_codes (Q₁ := fun obj s₁ => obj = .ref s.heap.objs.size ∧ s₁ = { s with heap := s.heap.push { cls := .type "list", data := .seq #[] } }) PySem.F.called_list (PySem.F.typeCall_list_1 _) PySem.F.entry_list_init
    (code_list_new _ ⟨rfl, rfl⟩) fun obj s₁ h₁ => ?_
  obtain ⟨rfl, rfl⟩ := h₁
  have hS : (s.heap.push { cls := .type "list", data := .seq #[] }).get? s.heap.objs.size = some { cls := .type "list", data := .seq #[] } := Heap.get?_push_size _ rfl
  refine ⟨⟨_, hS, rfl⟩, PySem.F.args_list_init_2 _ _, z_init (xs := xs) (ys := ys) (A := A.in1) hh D (lt hz) (lt hTI) (lt hTO) li1 li2 ll1 ll2 hxy hn (Heap.get?_push_of_some _ hz) (Heap.get?_push_of_some _ hTI) (Heap.get?_push_of_some _ hTO)
    (h1.at fun o e => Heap.get?_push_of_some _ e) (h2.at fun o e => Heap.get?_push_of_some _ e) (hl1.at fun o e => Heap.get?_push_of_some _ e) (hl2.at fun o e => Heap.get?_push_of_some _ e) hS fun h' tk acc c as hk hS' hl hG hacc => ?_⟩
  exact ⟨rfl, hQ h' tk acc c as (fun b o b1 b2 b3 b4 e => hk b o (Nat.ne_of_lt (lt e)) b1 b2 b3 b4 (Heap.get?_push_of_some _ e)) hS' hl hG hacc⟩
end
/-- the tuples tracked at their addresses -/
def putP : Hp → List Addr → List (V × V) → Hp
  | H, a :: as, p :: kvs => putP (upd H a (.tup [p.1, p.2])) as kvs
  | H, _, _ => H
theorem putP_off {b : Addr} : ∀ (as : List Addr) (kvs : List (V × V)) (H : Hp), b ∉ as → putP H as kvs b = H b
  | [], _, _, _ => rfl
  | _ :: _, [], _, _ => rfl
  | a :: as, p :: kvs, H, h => by
    show putP (upd H a (.tup [p.1, p.2])) as kvs b = H b
    rw [putP_off as kvs _ (fun z => h (List.mem_cons_of_mem _ z)), upd_ne (fun z => h (by rw [z]; exact List.mem_cons_self))]
theorem putP_at : ∀ (as : List Addr) (kvs : List (V × V)) (H : Hp), as.length = kvs.length → as.Nodup → Paired (fun (t : Addr) (p : V × V) => putP H as kvs t = some (.tup [p.1, p.2])) as kvs
  | [], [], _, _, _ => .nil
  | [], _ :: _, _, h, _ => by cases h
  | _ :: _, [], _, h, _ => by cases h
  | a :: as, p :: kvs, H, h, hn => by
    have hn' := List.nodup_cons.mp hn
    have ih := putP_at as kvs (upd H a (.tup [p.1, p.2])) (Nat.succ.inj h) hn'.2
    refine .cons ?_ ih
    show putP (upd H a (.tup [p.1, p.2])) as kvs a = some (.tup [p.1, p.2])
    rw [putP_off as kvs _ hn'.1, upd_same]
section
variable {X : Cx}
theorem pairs_laid {pins : List (Addr × Obj)} {σ : L2.St} {H : Hp} {s : Shared} {h' : Heap} {tk : Nat} {vs ws : List V} {us us2 : List Value} {acc : Array Value} {c : Nat} {as : List Addr} {L : Addr} (I : Inv X pins σ H s) (hL : s.heap.objs.size ≤ L) (rv : Vals vs us) (rw_ : Vals ws us2) (hz : vs.length ≤ sizeLine) (hvw : vs.length = ws.length)
    (hk : ∀ b o, s.heap.get? b = some o → h'.get? b = some o) (hS : h'.get? L = some { cls := .type "list", dict := none, data := .seq acc c, slots := #[] }) (hl : as.length = vs.length) (hG : Gd us.toArray us2.toArray L h' as) (hacc : acc.toList = as.map Value.ref) :
    ∃ H' : Hp, (∀ b o, H b = some o → H' b = some o) ∧ H L = none ∧ (∀ t ∈ as, H t = none) ∧ L ∉ as ∧ H' L = some (.lst (as.map V.ref)) ∧ Paired (fun (t : Addr) (q : V × V) => H' t = some (.tup [q.1, q.2])) as (vs.zip ws) ∧ Inv X pins σ H' { s with heap := h', toks := tk } := by
  have hSn : L ∉ as := fun z => Nat.lt_irrefl _ (hG.above _ z)
  have nd : as.Nodup := List.Pairwise.imp (fun {a b} (h : a < b) => Nat.ne_of_lt h) hG.rise
  have new : ∀ t ∈ as, H t = none := fun t ht => I.hok.fresh (Nat.le_trans hL (Nat.le_of_lt (hG.above t ht)))
  have newS : H L = none := I.hok.fresh hL
  have lz : (vs.zip ws).length = vs.length := by rw [List.length_zip]; omega
  have atP := putP_at as (vs.zip ws) (upd H L (.lst (as.map V.ref))) (by omega) nd
  have off : ∀ b, b ∉ as → b ≠ L → putP (upd H L (.lst (as.map V.ref))) as (vs.zip ws) b = H b := fun b h1 h2 => by rw [putP_off as _ _ h1, upd_ne h2]
  have low : ∀ b o, s.heap.get? b = some o → b ∉ as ∧ b ≠ L := fun b o e => ⟨fun z => absurd (Heap.lt_size e) (Nat.not_lt.mpr (Nat.le_trans hL (Nat.le_of_lt (hG.above b z)))), Nat.ne_of_lt (Nat.lt_of_lt_of_le (Heap.lt_size e) hL)⟩
  have kp : ∀ b u, H b = some u → (putP (upd H L (.lst (as.map V.ref))) as (vs.zip ws)) b = some u := fun b u e => by
    rw [off b (fun z => by rw [new b z] at e; cases e) (fun z => by rw [z, newS] at e; cases e)]
    exact e
  have eS : putP (upd H L (.lst (as.map V.ref))) as (vs.zip ws) L = some (.lst (as.map V.ref)) := by rw [putP_off as _ _ hSn, upd_same]
  refine ⟨putP (upd H L (.lst (as.map V.ref))) as (vs.zip ws), kp, newS, new, hSn, eS, atP, ?_⟩
  refine I.call' (ch := []) rfl ⟨fun b o q _ _ _ => hk b o q, fun b o q _ _ _ => ⟨o.slots, hk b o q⟩, fun b o q n _ => ?_, fun b o q _ => ⟨o, hk b o q⟩, fun b xs q => kp b _ q, fun b o u q => kp b _ q, fun b ps q => ⟨#[], by rw [kp b _ q]; simp⟩⟩ (fun b u q => ?_) I.bare fun b z => by simp at z
  · obtain ⟨z1, z2⟩ := low b o q
    rw [off b z1 z2]
    exact n
  · by_cases hb : b ∈ as
    · obtain ⟨j, pk, e1, e2, e3⟩ := LiI.paired_ix atP hb
      rw [e3] at q
      cases q
      obtain ⟨x, y, f1, f2, f3⟩ := hG.pairs j b e1
      obtain ⟨g1, g2⟩ := List.getElem?_zip_eq_some.mp e2
      obtain ⟨u1, a1, a2⟩ := LiI.paired_get rv g1
      obtain ⟨u2, b1, b2⟩ := LiI.paired_get rw_ g2
      have f1' : us[j]? = some x := by simpa using f1
      have f2' : us2[j]? = some y := by simpa using f2
      rw [f1'] at a1
      rw [f2'] at b1
      cases a1
      cases b1
      exact ⟨by show 2 ≤ sizeLine; decide, [x, y], .cons a2 (.cons b2 .nil), ⟨_, f3, rfl, _, rfl⟩⟩
    · by_cases hb2 : b = L
      · rw [hb2] at q ⊢
        rw [eS] at q
        cases q
        refine ⟨by rw [List.length_map]; omega, acc.toList, c, by rw [hacc]; exact LiI.vals_refs as, ?_⟩
        rw [Array.toArray_toList]
        exact hS
      · rw [off b hb hb2] at q
        exact (I.hok b u q).stay (fun d v _ y => hk d v y) (fun d y => kp d _ y) fun d xs y => kp d _ y
end
def rZipL (K : PySem.W.Frag) : List V → Hp → VK → Prop := fun us H Q => ∃ (a b : Addr) (xs ys : List V), us = [.ref a, .ref b] ∧ SqL K H a xs ∧ SqL K H b ys ∧ xs.length = ys.length ∧
  ∀ (H' : Hp) (p : Addr) (ts : List Addr), (∀ c o, H c = some o → H' c = some o) → H p = none → H' p = some (.lst (ts.map V.ref)) → Paired (fun (t : Addr) (q : V × V) => H' t = some (.tup [q.1, q.2])) ts (xs.zip ys) → Q (.ref p) H'
def tZipL (K : PySem.W.Frag) (ta : TA) : TE := fun σ H Q => ta σ H fun us H1 => rZipL K us H1 Q
theorem w_zipL {K : PySem.W.Frag} {ta : TA} {σ : L2.St} {H : Hp} {Q : VK} (h : ta σ H fun us H1 => rZipL K us H1 Q) : tZipL K ta σ H Q := h
theorem pe_zipL {X : Cx} {e e2 : Expr} {ta : TA} {p p2 pos2 pos : Pos} (hc : X.calm = true) (hg : Gl X "list") (hm : X.mg "list" = none) (hg2 : Gl X "zip") (hm2 : X.mg "zip" = none) (ha : PA X [e, e2] ta)
    (hs : starEach [e, e2] X.env = (false, eval e X.env) :: starEach [e2] X.env := by rfl) (hpl : (backTo pos2 (starEach [e2] X.env)).any (·.1) = false := by rfl)
    (na : starEach [.Call (.Name "zip" p2) [e, e2] [] pos2] X.env = (false, eval (.Call (.Name "zip" p2) [e, e2] [] pos2) X.env) :: starEach [] X.env := by rfl) :
    PE X (.Call (.Name "list" p) [.Call (.Name "zip" p2) [e, e2] [] pos2] [] pos) (tZipL X.K ta) := by
  refine ⟨fun pins s σ H Q I h => ?_⟩
  refine Call_ (ld_blt I hg hm boot_list (PyProof.Rows.callWith_type1 (args_cons (Call_ (ld_blt I hg2 hm2 PyProof.Rows.boot_zip (PyProof.Rows.callWith_type1 (thn (ha.run pos2 pins s σ H _ I h) fun us s1 ⟨vs, H1, I1, r1, q1⟩ => ?_) hs hpl))) na) na))
  obtain ⟨a, b, xs, ys, ex, hqx, hqy, hl, q⟩ := q1
  subst ex
  cases r1 with
  | cons r rr =>
    cases rr with
    | cons r' rr =>
      cases rr
      cases r
      cases r'
      obtain ⟨its, rv, p1, hz1⟩ := I1.list hqx
      obtain ⟨its2, rv2, p2', hz2⟩ := I1.list hqy
      have la : a < s1.heap.objs.size := p1.lt
      have lb : b < s1.heap.objs.size := p2'.lt
      refine call_zip_2 p1.isList p2'.isList fun h' hz hTI hTO h1 h2 hsz hk => args_nil ?_
      have I2 : Inv X pins σ H1 { s1 with heap := h' } := I1.kept (t' := s1.toks) hk
      have L1 : h'.IsList a its.toArray := p1.isList.at fun o e => hk _ o e
      have L2 : h'.IsList b its2.toArray := p2'.isList.at fun o e => hk _ o e
      have n1 : xs.length = its.length := Paired.length rv
      have n2 : ys.length = its2.length := Paired.length rv2
      refine z_call (s := { s1 with heap := h' }) (xs := its.toArray) (ys := its2.toArray) (I1.ok.hd hc) (PySem.W.ktu_apart s1.heap.objs.size a b la lb) (by simp; omega) (by simp; omega) hz hTI hTO h1 h2 L1 L2 fun h2 tk acc c as hk2 hS hal hG hacc => ?_
      have hL : s1.heap.objs.size ≤ h'.objs.size := by rw [hsz]; omega
      have lt : ∀ {c : Addr} {o : Obj}, s1.heap.get? c = some o → c < s1.heap.objs.size := fun e => Heap.lt_size e
      have hk3 : ∀ c o, s1.heap.get? c = some o → h2.get? c = some o := fun c o e => hk2 c o (Nat.ne_of_lt (Nat.lt_of_lt_of_le (lt e) (Nat.le_add_right _ _))) (Nat.ne_of_lt (Nat.lt_of_lt_of_le (lt e) (Nat.le_add_right _ _))) (Nat.ne_of_lt (lt e)) (Nat.ne_of_lt (Nat.lt_of_lt_of_le (lt e) (Nat.le_add_right _ _))) (hk c o e)
      obtain ⟨H', k1, k2, k3, k4, k5, k6, J⟩ := pairs_laid (tk := tk) I1 hL rv rv2 (by rw [n1]; omega) hl hk3 hS (by rw [hal]; simp; omega) hG hacc
      exact ⟨.ref _, H', J, rfl, q H' _ as k1 k2 k5 k6⟩
end LZ
end B5_part
section B6_part
set_option Elab.async false
set_option linter.all false
set_option maxRecDepth 100000
set_option maxHeartbeats 1000000
set_option pp.deepTerms true
open PySem PySem.Spec PyProof.Rows L2
/-- go on as far as nothing is open -/
local macro_rules | `(tactic| walk_at "go") => `(tactic| repeat (first
  | with_reducible refine w_seq ?_ | with_reducible refine w_next ?_ | with_reducible refine w_set ?_ | with_reducible refine w_drop ?_ | with_reducible refine w_ret ?_ | with_reducible refine w_retN ?_
  | with_reducible refine w_if ?_ | ((with_reducible refine' w_var ?hv ?_); (case hv => exact rfl)) | with_reducible refine w_c ?_ | with_reducible refine w_nil ?_ | with_reducible refine w_cons ?_ | with_reducible refine w_op ?_ | with_reducible refine w_un ?_
  | with_reducible refine w_test ?_ | with_reducible refine w_tB ?_ | with_reducible refine w_not ?_ | with_reducible refine w_and ?_ | with_reducible refine w_or ?_ | with_reducible refine w_bl ?_
  | with_reducible refine w_andV ?_ | with_reducible refine w_orV ?_ | with_reducible refine w_notV ?_ | with_reducible refine w_ifE ?_ | with_reducible refine w_chain ?_ | with_reducible refine w_i0 ?_
  | with_reducible refine w_call ?_ | with_reducible refine w_callS ?_ | with_reducible refine w_cB ?_ | with_reducible refine w_tup ?_ | with_reducible refine w_lst ?_ | with_reducible refine w_fldV ?_
  | with_reducible refine w_neF ?_ | with_reducible refine w_neT ?_ | with_reducible refine w_notN ?_ | with_reducible refine w_isN ?_ | with_reducible refine w_gname ?_ | with_reducible refine w_gsub ?_ | with_reducible refine w_asg ?_ | with_reducible refine w_sl ?_ | with_reducible refine w_noP ?_ | with_reducible refine w_int1 ?_ | with_reducible refine w_part ?_ | with_reducible refine w_yes ?_ | with_reducible refine w_nT ?_ | with_reducible refine w_nF ?_ | with_reducible refine w_iteT ?_ | with_reducible refine w_iteF ?_))
namespace LT
open PySem PySem.Spec PyProof.Rows L2 K3
/-! ### the truth of an instance whose class tells neither its truth nor its length -/
theorem truthy_ins {prog : Program} {w : World} {A : Around} {E : Value → Shared → Prop} {s : Shared} {K : PySem.W.Frag} {a C : Addr} {ox : Obj} {od : Option Obj} {Q : Bool → Shared → Prop} (X : K.In s.heap) (I : PySem.W.InstAt s.heap a ox C od) (hb : truB K C = true) (h : Q true s) :
    wpAny (model prog w) A (truthy (.ref a)) Q E s := by
  obtain ⟨h1, h2⟩ := Bool.and_eq_true_iff.mp hb
  have h1 := eqB_ok h1
  have h2 := eqB_ok h2
  have hsp : ∀ {Q' : Option Value → Shared → Prop}, Q' none s → wpAny (model prog w) A (specialOf (.ref a) "__len__") Q' E s := fun q => by
    unfold specialOf
    exact wpAny_bind (I.type.here ((PySem.W.looks_findIn X h2).here q))
  unfold truthy
  first
    | refine wpAny_bind (DSub.special_no (name := Str.ofString "__bool__") X I h1 ?_)
    | refine wpAny_bind (wpAny_pure (wpAny_bind (DSub.special_no (name := Str.ofString "__bool__") X I h1 ?_)))
  first
    | refine wpAny_bind (hsp ?_)
    | refine wpAny_bind (wpAny_pure (wpAny_bind (hsp ?_)))
  exact wpAny_pure h
section
variable {X : Cx} {a b : Expr} {ta tb : TE} {rest : List Expr} {pos : Pos}
/-- x or y, x None or such an instance -/
def tOrI (K : PySem.W.Frag) (ta tb : TE) : TE := fun σ H Q => ta σ H fun x H1 => (x = .non ∧ tb σ H1 Q) ∨ ∃ p C dx fs, x = .ref p ∧ H1 p = some (.ins C dx fs) ∧ truB K C = true ∧ Q x H1
theorem w_orI {K : PySem.W.Frag} {σ : L2.St} {H : Hp} {Q : VK} (h : ta σ H fun x H1 => (x = .non ∧ tb σ H1 Q) ∨ ∃ p C dx fs, x = .ref p ∧ H1 p = some (.ins C dx fs) ∧ truB K C = true ∧ Q x H1) : tOrI K ta tb σ H Q := h
theorem pe_orI (ha : PE X a ta) (hb : PE X (.BoolOp .Or (b :: rest) pos) tb) : PE X (.BoolOp .Or (a :: b :: rest) pos) (tOrI X.K ta tb) := by
  refine ⟨fun pins s σ H Q I h => ?_⟩
  refine BoolOp_or (thn (ha.run pins s σ H _ I h) fun v s1 ⟨x, H1, I1, r1, q1⟩ => ?_)
  rcases q1 with ⟨rfl, q⟩ | ⟨p, C, dx, fs, rfl, hp, ht, q⟩
  · refine thn (tru_ok pins s1 σ H1 .non v (fun c H2 => c = false ∧ H2 = H1) I1 r1 ⟨false, rfl, rfl, rfl⟩) fun c s2 hc => ?_
    obtain ⟨H2, I2, e1, e2⟩ := hc
    rw [e2] at I2
    subst e1
    exact hb.run pins s2 σ H1 Q I2 q
  · have r2 := r1
    cases r2
    obtain ⟨mA, ob, _⟩ := ins_get I1.hok hp
    obtain ⟨od, ia, _⟩ := ob.look
    refine truthy_ins I1.kIn ia ht ?_
    exact ⟨.ref p, H1, I1, r1, q⟩
end
end LT
namespace K3
open PySem PySem.Spec PyProof.Rows L2
theorem Tx.tru {K : PySem.W.Frag} {mg : Str → Option Value} (T : Tx K mg) {x : Str} (h : x ∈ cndN) : truB K (He.ga K x) = true := List.all_eq_true.mp (Bool.and_eq_true_iff.mp (Bool.and_eq_true_iff.mp (show (exO K && _) = true from T.e)).2).1 x h
end K3
end B6_part
section B7_part
set_option Elab.async false
set_option linter.all false
set_option maxRecDepth 100000
set_option maxHeartbeats 1000000
set_option pp.deepTerms true
open PySem PySem.Spec PyProof.Rows L2
/-- go on as far as nothing is open -/
local macro_rules | `(tactic| walk_at "go") => `(tactic| repeat (first
  | with_reducible refine w_seq ?_ | with_reducible refine w_next ?_ | with_reducible refine w_set ?_ | with_reducible refine w_drop ?_ | with_reducible refine w_ret ?_ | with_reducible refine w_retN ?_
  | with_reducible refine w_if ?_ | ((with_reducible refine' w_var ?hv ?_); (case hv => exact rfl)) | with_reducible refine w_c ?_ | with_reducible refine w_nil ?_ | with_reducible refine w_cons ?_ | with_reducible refine w_op ?_ | with_reducible refine w_un ?_
  | with_reducible refine w_test ?_ | with_reducible refine w_tB ?_ | with_reducible refine w_not ?_ | with_reducible refine w_and ?_ | with_reducible refine w_or ?_ | with_reducible refine w_bl ?_
  | with_reducible refine w_andV ?_ | with_reducible refine w_orV ?_ | with_reducible refine w_notV ?_ | with_reducible refine w_ifE ?_ | with_reducible refine w_chain ?_ | with_reducible refine w_i0 ?_
  | with_reducible refine w_call ?_ | with_reducible refine w_callS ?_ | with_reducible refine w_cB ?_ | with_reducible refine w_tup ?_ | with_reducible refine w_lst ?_ | with_reducible refine w_fldV ?_
  | with_reducible refine w_neF ?_ | with_reducible refine w_neT ?_ | with_reducible refine w_notN ?_ | with_reducible refine w_isN ?_ | with_reducible refine w_gname ?_ | with_reducible refine w_gsub ?_ | with_reducible refine w_asg ?_ | with_reducible refine w_sl ?_ | with_reducible refine w_noP ?_ | with_reducible refine w_int1 ?_ | with_reducible refine w_part ?_ | with_reducible refine w_yes ?_ | with_reducible refine w_nT ?_ | with_reducible refine w_nF ?_ | with_reducible refine w_iteT ?_ | with_reducible refine w_iteF ?_))
/-! ### == by an own __eq__, with either answer -/
namespace OQ
open PySem PySem.SeqAt
open MeetsSeq MeetsSeq2 MeetsSeq3 SeqRoads2
section
variable {prog : Program} {w : World} {A : Around} {R : Result → Shared → Prop}
theorem tup_cmp (p q : Addr) (us vs : Array Value) (m k : Nat) (d1 d2 : Option Addr) (l1 l2 : Array (Option Value)) (I : Nat → Shared → Prop)
    (turn : ∀ j (h1 : j < us.size) (h2 : j < vs.size) t, I j t → wpAny (model prog w) A.in1 (eqBool us[j] vs[j]) (fun r t' => if r = true then I (j + 1) t' else R (.ok (.ret (.bool false))) t') (fun e t' => R (.error e) t') t)
    (fin : ∀ t, I (min us.size vs.size) t → R (.ok (.ret (.bool (us.size == vs.size)))) t) {s : Shared} (gp : s.heap.get? p = some { cls := .type "tuple", dict := d1, data := .seq us m, slots := l1 })
    (gq : s.heap.get? q = some { cls := .type "tuple", dict := d2, data := .seq vs k, slots := l2 }) (h0 : I 0 s) :
    wpAny (model prog w) A.in1 (Builtin.«tuple.__eq__» ⟨[.ref p, .ref q], []⟩) (GQ.FinOf prog w A R) (fun e t' => R (.error e) t') s := by
  have sub := AutoSeq1.sub_tuple_tuple
  have lz : (us.toList.zip vs.toList).length = min us.size vs.size := by simp
  have start := h0
  obtain ⟨hp, g, d, tk, os⟩ := s
  wp_walk using AutoSeq1.wpAny_loadPart' gp, AutoSeq1.wpAny_loadPart' gq, wpAny_forIn_list _ (fun more b t => b.1 = none ∧ ∃ j, more = (us.toList.zip vs.toList).drop j ∧ j ≤ min us.size vs.size ∧ I j t) _
  case turn =>
    rintro ⟨y, x⟩ more b t ⟨none1, j, cut, jm, hj⟩
    have lj : j < (us.toList.zip vs.toList).length := Nat.lt_of_not_le fun z => by rw [List.drop_of_length_le z] at cut; cases cut
    have lm : j < min us.size vs.size := by rw [← lz]; exact lj
    have lu : j < us.size := by omega
    have lv : j < vs.size := by omega
    rw [List.drop_eq_getElem_cons lj] at cut
    injection cut with hd tl
    have e1 : y = us[j] := by simpa using congrArg Prod.fst hd
    have e2 : x = vs[j] := by simpa using congrArg Prod.snd hd
    rw [e1, e2]
    refine wpAny_bind (wpAny_mono (turn j lu lv t hj) (fun r t2 z => ?_) fun _ _ z => z)
    cases r with
    | true =>
      rw [if_pos rfl] at z
      wp_walk
      exact ⟨rfl, j + 1, tl, lm, z⟩
    | false =>
      rw [if_neg Bool.false_ne_true] at z
      wp_walk
      exact z
  case fin =>
    rintro ⟨b1, b2⟩ t ⟨none1, j, cut, jm, hj⟩
    have e0 : b1 = none := none1
    subst e0
    have lj : min us.size vs.size ≤ j := Nat.le_of_not_lt fun z => by
      rw [← lz] at z
      rw [List.drop_eq_getElem_cons z] at cut
      cases cut
    have je : j = min us.size vs.size := Nat.le_antisymm jm lj
    have last := fin t (je ▸ hj)
    wp_walk
    simpa [Builtin.Tuple.tupleCompareSizes] using last
  case h => exact ⟨rfl, 0, rfl, Nat.zero_le _, start⟩
end
end OQ
namespace OQ
open PySem PySem.Spec PyProof.Rows PySem.SeqAt
section
variable {prog : Program} {w : World} {A : Around} {E : Value → Shared → Prop} {s : Shared} {K : PySem.W.Frag}
theorem rc_tup {p q : Addr} {us vs : Array Value} {Q : Value → Shared → Prop} (hu : A.units < cLine) (I : Nat → Shared → Prop) (tp : s.heap.IsTuple p us) (tq : s.heap.IsTuple q vs)
    (turn : ∀ j (h1 : j < us.size) (h2 : j < vs.size) t, I j t → wpAny (model prog w) A.in1 (eqBool us[j] vs[j]) (fun r t' => if r = true then I (j + 1) t' else Q (.bool false) t') E t)
    (fin : ∀ t, I (min us.size vs.size) t → Q (.bool (us.size == vs.size)) t) (h0 : I 0 s) : wpAny (model prog w) A (richCompare .Eq (.ref p) (.ref q)) Q E s := by
  obtain ⟨⟨c1, d1, x1, l1⟩, g1, e1, m1, f1⟩ := id tp
  obtain ⟨⟨c2, d2, x2, l2⟩, g2, e2, m2, f2⟩ := id tq
  cases e1; cases f1; cases e2; cases f2
  refine wpAny_richCompare_same_room (op := .Eq) ⟨_, g1, rfl⟩ ⟨_, g2, rfl⟩ F.slot_tuple_eq (GQ.call_here F.slot_tuple_eq ⟨_, g1, rfl⟩ F.entry_tuple_eq (F.args_tuple_eq_2 _ _) ?_) hu
  refine tup_cmp (R := wants (fun v t => v ≠ .notImplemented ∧ Q v t) E) p q us vs m1 m2 d1 d2 l1 l2 I (fun j h1 h2 t ht => ?_) (fun t ht => ⟨nofun, fin t ht⟩) g1 g2 h0
  refine wpAny_mono (turn j h1 h2 t ht) (fun r t' z => ?_) fun _ _ z => z
  cases r with
  | true => exact z
  | false => exact ⟨nofun, z⟩
variable {x C f L : Addr} {ox : Obj} {od : Option Obj} {h₀ : Heap} {m : Str → Option Value} {b tb : Value}
/-- None == x: the other one is asked -/
theorem rc_nonK {Q : Value → Shared → Prop} (hu : A.units < cLine) (Fh : Fr h₀ L s.heap m) (X₀ : K.In h₀) (I : PySem.W.InstAt s.heap x ox C od) (hs : PySem.W.findIn K (.ref C) "__eq__" = some (some (.ref f))) (hf : PySem.W.isFn K (.ref f) = true)
    (hn : PySem.W.mroIn K C (.type "NoneType") = some false) (h : wpAny (model prog w) A (call (.ref f) [.ref x, .none]) (PySem.W.CmpBack Q) E s) : wpAny (model prog w) A (richCompare .Eq .none (.ref x)) Q E s := by
  have X := X₀.keeps Fh.keep
  have nT : s.TypeIs .none "NoneType" := rfl
  have one : wpAny (model prog w) A (tryCompare .none "__eq__" (.ref x)) (fun r t => r = none ∧ t = s) E s :=
    wpAny_tryCompare_declines nT F.slot_NoneType_eq_refl (call_gives F.slot_NoneType_eq_refl rfl F.entry_NoneType_eq (F.args_NoneType_eq_2 _ _) (NoneType___eq___none_ref_0 x) ⟨rfl, rfl, rfl⟩)
  have two : wpAny (model prog w) A (tryCompare (.ref x) "__eq__" .none) (fun r t => ∃ v, r = some v ∧ Q v t) E s := by
    unfold tryCompare
    refine wpAny_bind (PySem.W.ifBound_K X I hs hf (wpAny_mono h (fun v t hv => ?_) fun _ _ e => e))
    cases v <;> first | exact hv.elim | exact wpAny_pure ⟨_, rfl, hv⟩
  simp only [richCompare, cmpInfo_Eq, nT.oneThing_none]
  refine wpAny_holding (wpAny_bind (wpAny_cRoomFor hu ?_))
  refine wpAny_bind (wpAny_typeOf nT ?_)
  refine wpAny_bind (I.type.here ?_)
  split
  · refine wpAny_bind ((PySem.W.looks_mroIn X hn).here ?_)
    simp only [Bool.false_eq_true, if_false, Bool.not_false, if_true]
    refine wpAny_bind (m := tryCompare .none _ (.ref x)) (wpAny_mono one (fun r t z => ?_) fun _ _ e => e)
    obtain ⟨z1, z2⟩ := z
    subst z1; subst z2
    refine wpAny_bind (m := tryCompare (.ref x) _ .none) (wpAny_mono two (fun r t z => ?_) fun _ _ e => e)
    obtain ⟨v, z1, z2⟩ := z
    subst z1
    exact wpAny_pure z2
  · rename_i q
    exact absurd (by simp) q
/-- x != b, of an own ==: what == does not say -/
theorem entry_ne {Q : Fin → Shared → Prop} (hu : A.units < cLine) (X : K.In s.heap) (I : PySem.W.InstAt s.heap x ox C od) (hs : PySem.W.findIn K (.ref C) "__eq__" = some (some (.ref f))) (hf : PySem.W.isFn K (.ref f) = true)
    (h : wpAny (model prog w) A (call (.ref f) [.ref x, b]) (fun v t => ∃ r, v = .bool r ∧ Q (.done (.ret (.bool (!r)))) t) E s) : wpAny (model prog w) A (Builtin.«object.__ne__» ⟨[.ref x, b], []⟩) Q E s := by
  unfold Builtin.«object.__ne__»
  have step : ∀ {R : Option Value → Shared → Prop}, (∀ r t, Q (.done (.ret (.bool (!r)))) t → R (some (.bool r)) t) → wpAny (model prog w) A (callSpecialIfBound? (.ref x) "__eq__" [b]) R E s := fun k => PySem.W.ifBound_K X I hs hf (wpAny_mono h (fun v t z => by
    obtain ⟨r, rfl, z⟩ := z
    exact k r t z) fun _ _ z => z)
  repeat (first | with_reducible refine wpAny_cRoomFor hu ?_ | with_reducible refine step fun r t z => ?_ | wp_step)
  exact z
theorem call_ne {Q : Value → Shared → Prop} (hu : A.units + 1 < cLine) (X : K.In s.heap) (I : PySem.W.InstAt s.heap x ox C od) (hm : PySem.W.mroIn K C (.type "object") = some true) (hs : PySem.W.findIn K (.ref C) "__eq__" = some (some (.ref f))) (hf : PySem.W.isFn K (.ref f) = true)
    (h : wpAny (model prog w) A.in1 (call (.ref f) [.ref x, b]) (fun v t => ∃ r, v = .bool r ∧ Q (.bool (!r)) t) E s) : wpAny (model prog w) A (call (.builtin "object.__ne__") [.ref x, b]) Q E s :=
  wpAny_call (codeAny_call_builtin PySem.F.cmp_object.ne.plain PySem.F.cmpEntry_ne (PySem.W.check_slot PySem.F.cmpKind_ne PySem.F.cmpSplit_ne (I.type.andThen (PySem.W.looks_mroIn X hm)) (PySem.F.cmpArgs_ne _ _) (entry_ne hu X I hs hf h)))
theorem rc_neK {Q : Value → Shared → Prop} (hu : A.units + 1 < cLine) (Fh : Fr h₀ L s.heap m) (X₀ : K.In h₀) (I : PySem.W.InstAt s.heap x ox C od) (hb : PySem.W.Looks (model prog w) s.heap (typeOf b) tb) (hn : PySem.W.notFirst K C tb = true) (hm : PySem.W.mroIn K C (.type "object") = some true)
    (hne : PySem.W.findIn K (.ref C) "__ne__" = some (some (.builtin "object.__ne__"))) (hs : PySem.W.findIn K (.ref C) "__eq__" = some (some (.ref f))) (hf : PySem.W.isFn K (.ref f) = true)
    (h : wpAny (model prog w) A.in1 (call (.ref f) [.ref x, b]) (fun v t => ∃ r, v = .bool r ∧ Q (.bool (!r)) t) E s) : wpAny (model prog w) A (richCompare .NotEq (.ref x) b) Q E s := by
  have X := X₀.keeps Fh.keep
  have fin : wpAny (model prog w) A (call (.builtin "object.__ne__") ([.ref x] ++ [b]) >>= fun v => pure (some v)) (fun r t => ∃ k, r = some (.bool k) ∧ Q (.bool k) t) E s :=
    wpAny_bind (call_ne hu X I hm hs hf (wpAny_mono h (fun v t z => by
      obtain ⟨r, rfl, z⟩ := z
      exact ⟨r, rfl, wpAny_pure ⟨_, rfl, z⟩⟩) fun _ _ z => z))
  have one : wpAny (model prog w) A (tryCompare (.ref x) "__ne__" b) (fun r t => ∃ k, r = some (.bool k) ∧ Q (.bool k) t) E s := by
    unfold tryCompare
    refine wpAny_bind (wpAny_mono (Q := fun r t => ∃ k, r = some (.bool k) ∧ Q (.bool k) t) ?_ (fun r t z => ?_) fun _ _ z => z)
    · simp only [callSpecialIfBound?, bindSpecialIfBound?]
      refine wpAny_holding (wpAny_bind (wpAny_bind (wpAny_bind (I.type.here ((PySem.W.looks_findIn X hne).here ?_)))))
      refine wpAny_bind (wpAny_askSetting (wpAny_ite ?_))
      split
      · exact wpAny_bind (wpAny_of_eq (PySem.F.cmp_object.ne.bind _) (wpAny_pure (by exact fin)))
      · exact wpAny_tryCatch (wpAny_bind (wpAny_of_eq (PySem.F.cmp_object.ne.bind _) (wpAny_pure (by exact fin))))
    · obtain ⟨k, rfl, z⟩ := z
      exact wpAny_pure ⟨k, rfl, z⟩
  have go : ∀ {kk : Option Value → Sem Value}, (∀ k, kk (some (.bool k)) = pure (.bool k)) → wpAny (model prog w) A (tryCompare (.ref x) "__ne__" b >>= kk) Q E s := fun hk => wpAny_bind (wpAny_mono one (fun r t z => by
    obtain ⟨k, rfl, z⟩ := z
    rw [hk]
    exact wpAny_pure z) fun _ _ z => z)
  unfold richCompare
  simp only [oneThing_ref, cmpInfo]
  refine wpAny_holding (wpAny_bind (wpAny_cRoomFor (Nat.lt_of_succ_lt hu) ?_))
  refine wpAny_bind (I.type.here (wpAny_bind (hb.here ?_)))
  split
  · rename_i q
    have e : PySem.W.subIn K tb (.ref C) = some false := (Bool.or_eq_true_iff.mp hn).elim (fun e => by rw [beq_iff_eq.mp e] at q; simp at q) beq_iff_eq.mp
    refine wpAny_bind ((PySem.W.looks_subIn X e).here ?_)
    simp only [Bool.false_eq_true, if_false]
    exact go fun k => rfl
  · refine wpAny_bind (wpAny_pure ?_)
    simp only [Bool.false_eq_true, if_false]
    exact go fun k => rfl
end
end OQ
end B7_part
section B8_part
set_option Elab.async false
set_option linter.all false
set_option maxRecDepth 100000
set_option maxHeartbeats 1000000
set_option pp.deepTerms true
open PySem PySem.Spec PyProof.Rows L2
/-- go on as far as nothing is open -/
local macro_rules | `(tactic| walk_at "go") => `(tactic| repeat (first
  | with_reducible refine w_seq ?_ | with_reducible refine w_next ?_ | with_reducible refine w_set ?_ | with_reducible refine w_drop ?_ | with_reducible refine w_ret ?_ | with_reducible refine w_retN ?_
  | with_reducible refine w_if ?_ | ((with_reducible refine' w_var ?hv ?_); (case hv => exact rfl)) | with_reducible refine w_c ?_ | with_reducible refine w_nil ?_ | with_reducible refine w_cons ?_ | with_reducible refine w_op ?_ | with_reducible refine w_un ?_
  | with_reducible refine w_test ?_ | with_reducible refine w_tB ?_ | with_reducible refine w_not ?_ | with_reducible refine w_and ?_ | with_reducible refine w_or ?_ | with_reducible refine w_bl ?_
  | with_reducible refine w_andV ?_ | with_reducible refine w_orV ?_ | with_reducible refine w_notV ?_ | with_reducible refine w_ifE ?_ | with_reducible refine w_chain ?_ | with_reducible refine w_i0 ?_
  | with_reducible refine w_call ?_ | with_reducible refine w_callS ?_ | with_reducible refine w_cB ?_ | with_reducible refine w_tup ?_ | with_reducible refine w_lst ?_ | with_reducible refine w_fldV ?_
  | with_reducible refine w_neF ?_ | with_reducible refine w_neT ?_ | with_reducible refine w_notN ?_ | with_reducible refine w_isN ?_ | with_reducible refine w_gname ?_ | with_reducible refine w_gsub ?_ | with_reducible refine w_asg ?_ | with_reducible refine w_sl ?_ | with_reducible refine w_noP ?_ | with_reducible refine w_int1 ?_ | with_reducible refine w_part ?_ | with_reducible refine w_yes ?_ | with_reducible refine w_nT ?_ | with_reducible refine w_nF ?_ | with_reducible refine w_iteT ?_ | with_reducible refine w_iteF ?_))
namespace L2
open PySem PySem.Spec PyProof.Rows
/-! ### how two values compare: the answer is told -/
abbrev Eqb := V → V → Bool → Hp → Prop
def MonB (D : Eqb) : Prop := ∀ x y b H H', Ext H H' → D x y b H → D x y b H'
def EqT (X : Cx) (n : Nat) (D : Eqb) : Prop :=
  ∀ (A : Around) (pins : List (Addr × Obj)) (s : Shared) (σ : St) (H : Hp) (x y : V) (b : Bool) (u v : Value), Sub X n A → Inv X pins σ H s → RelV x u → RelV y v → D x y b H →
    wpAny (model X.prog X.w) A (eqBool u v) (fun r t => r = b ∧ ∃ H', Inv X pins σ H' t ∧ Ext H H') X.xe s
def RcT (X : Cx) (n : Nat) (op : CmpOp) (D : Eqb) : Prop :=
  ∀ (A : Around) (pins : List (Addr × Obj)) (s : Shared) (σ : St) (H : Hp) (x y : V) (b : Bool) (u v : Value), Sub X n A → Inv X pins σ H s → RelV x u → RelV y v → D x y b H →
    wpAny (model X.prog X.w) A (richCompare op u v) (fun r t => r = .bool b ∧ ∃ H', Inv X pins σ H' t ∧ Ext H H') X.xe s
/-- item by item, up to the first that is not equal -/
inductive PrsB (D : Eqb) (H : Hp) : List V → List V → Bool → Prop where
  | nil : PrsB D H [] [] true
  | left {x xs} : PrsB D H (x :: xs) [] false
  | right {y ys} : PrsB D H [] (y :: ys) false
  | yes {x y xs ys b} : D x y true H → PrsB D H xs ys b → PrsB D H (x :: xs) (y :: ys) b
  | no {x y xs ys} : D x y false H → PrsB D H (x :: xs) (y :: ys) false
theorem PrsB.mon {D : Eqb} (hD : MonB D) {H H' : Hp} (e : Ext H H') {xs ys : List V} {b : Bool} (h : PrsB D H xs ys b) : PrsB D H' xs ys b := by
  induction h with
  | nil => exact .nil
  | left => exact .left
  | right => exact .right
  | yes h _ ih => exact .yes (hD _ _ _ _ _ e h) ih
  | no h => exact .no (hD _ _ _ _ _ e h)
section
variable {X : Cx} {n m : Nat} {D D' : Eqb} {op : CmpOp}
theorem EqT.mono (h : EqT X n D) (k : n ≤ m) : EqT X m D := fun A pins s σ H x y b u v sb => h A pins s σ H x y b u v (sb.mono k)
theorem RcT.mono (h : RcT X n op D) (k : n ≤ m) : RcT X m op D := fun A pins s σ H x y b u v sb => h A pins s σ H x y b u v (sb.mono k)
theorem RcT.imp (h : RcT X n op D) (k : ∀ x y b H, D' x y b H → D x y b H) : RcT X n op D' := fun A pins s σ H x y b u v sb I rx ry d => h A pins s σ H x y b u v sb I rx ry (k _ _ _ _ d)
theorem vals_at {xs : List V} {us : List Value} (r : Vals xs us) {j : Nat} {x : V} (hx : xs[j]? = some x) (hj : j < us.toArray.size) : RelV x us.toArray[j] := by
  obtain ⟨u, hu, ru⟩ := r.get hx
  have lj : j < us.length := by simpa using hj
  rw [List.getElem?_eq_getElem lj] at hu
  have : us.toArray[j] = u := by simpa using Option.some.inj hu
  rw [this]
  exact ru
def DTupB (K : PySem.W.Frag) (D : Eqb) : Eqb := fun x y b H => ∃ p q xs ys, x = .ref p ∧ y = .ref q ∧ SqT K H p xs ∧ SqT K H q ys ∧ PrsB D H xs ys b
theorem mon_tupB {K : PySem.W.Frag} (hD : MonB D) : MonB (DTupB K D) := fun x y b H H' e ⟨p, q, xs, ys, h1, h2, h3, h4, h5⟩ => ⟨p, q, xs, ys, h1, h2, h3.ext e, h4.ext e, h5.mon hD e⟩
theorem rcT_tup (hD : MonB D) (h : EqT X n D) : RcT X (n + 1) .Eq (DTupB X.K D) := by
  intro A pins s σ H x y b u v sb I rx ry d
  obtain ⟨p, q, xs, ys, rfl, rfl, hp, hq, prs⟩ := d
  cases rx
  cases ry
  obtain ⟨us, r1, t1, _⟩ := I.tuple hp
  obtain ⟨vs, r2, t2, _⟩ := I.tuple hq
  have l1 : us.toArray.size = xs.length := by rw [List.size_toArray, ← r1.length]
  have l2 : vs.toArray.size = ys.length := by rw [List.size_toArray, ← r2.length]
  refine OQ.rc_tup sb.room.units0 (fun j t => (∃ H', Inv X pins σ H' t ∧ Ext H H') ∧ PrsB D H (xs.drop j) (ys.drop j) b) t1 t2 (fun j h1 h2 t ht => ?_) (fun t ht => ?_) ⟨⟨H, I, Ext.rfl'⟩, prs⟩
  · obtain ⟨⟨H1, I1, e1⟩, pj⟩ := ht
    have k1 : j < xs.length := by rw [← l1]; exact h1
    have k2 : j < ys.length := by rw [← l2]; exact h2
    have g1 := vals_at r1 (List.getElem?_eq_getElem k1) h1
    have g2 := vals_at r2 (List.getElem?_eq_getElem k2) h2
    rw [List.drop_eq_getElem_cons k1, List.drop_eq_getElem_cons k2] at pj
    cases pj with
    | yes a t' =>
      refine wpAny_mono (h A.in1 pins t σ H1 _ _ true _ _ sb.in1 I1 g1 g2 (hD _ _ _ _ _ e1 a)) (fun r t2 z => ?_) fun _ _ z => z
      obtain ⟨rfl, H2, I2, e2⟩ := z
      rw [if_pos rfl]
      exact ⟨⟨H2, I2, e1.trans e2⟩, t'⟩
    | no a =>
      refine wpAny_mono (h A.in1 pins t σ H1 _ _ false _ _ sb.in1 I1 g1 g2 (hD _ _ _ _ _ e1 a)) (fun r t2 z => ?_) fun _ _ z => z
      obtain ⟨rfl, H2, I2, e2⟩ := z
      rw [if_neg Bool.false_ne_true]
      exact ⟨rfl, H2, I2, e1.trans e2⟩
  · obtain ⟨hh, pj⟩ := ht
    refine ⟨?_, hh⟩
    rw [l1, l2] at pj ⊢
    have : (xs.length == ys.length) = b := by
      rcases Nat.lt_trichotomy xs.length ys.length with z | z | z
      · rw [Nat.min_eq_left (Nat.le_of_lt z), List.drop_length, List.drop_eq_getElem_cons z] at pj
        cases pj
        exact beq_eq_false_iff_ne.mpr (Nat.ne_of_lt z)
      · rw [z, Nat.min_self, List.drop_length, ← z, List.drop_length] at pj
        cases pj
        rw [z]
        exact beq_self_eq_true _
      · rw [Nat.min_eq_right (Nat.le_of_lt z), List.drop_length, List.drop_eq_getElem_cons z] at pj
        cases pj
        exact beq_eq_false_iff_ne.mpr (Nat.ne_of_gt z)
    rw [this]
/-- what may stand on the right: None, a number, an instance whose class is no heir -/
def OthT (K : PySem.W.Frag) (C : Addr) (H : Hp) : V → Prop
  | .non => True
  | .int _ => True
  | .ref b => ∃ C' dx gs, H b = some (.ins C' dx gs) ∧ PySem.W.mroIn K C' (.ref C) = some (C == C')
  | _ => False
theorem OthT.mon {K : PySem.W.Frag} {C : Addr} {H H' : Hp} (e : Ext H H') {y : V} (h : OthT K C H y) : OthT K C H' y := by
  cases y with
  | ref b => obtain ⟨C', dx, gs, h1, h2⟩ := h; exact ⟨C', dx, gs, e _ _ h1, h2⟩
  | non => exact h
  | int _ => exact h
  | _ => exact h.elim
theorem sub_int {K : PySem.W.Frag} {C : Addr} : PySem.W.subIn K (.type "int") (.ref C) = some false := by
  have z : fastBuiltinMro "int" = some [.type "int", .type "object"] := by decide +kernel
  show (fastBuiltinMro "int").map (fun l => l.contains (.ref C)) = some false
  rw [z]
  first | rfl | simp
theorem OthT.look {pins : List (Addr × Obj)} {σ : St} {H : Hp} {s : Shared} {C : Addr} {y : V} {v : Value} (I : Inv X pins σ H s) (h : OthT X.K C H y) (ry : RelV y v) : ∃ tb, PySem.W.Looks (model X.prog X.w) s.heap (typeOf v) tb ∧ PySem.W.notFirst X.K C tb = true := by
  cases y with
  | non => cases ry; exact ⟨.type "NoneType", .of_pure rfl, by unfold PySem.W.notFirst; rw [HN.sub_none]; simp⟩
  | int i => obtain ⟨t, e⟩ := (show ∃ t, v = Value.int i t from ry); cases e; exact ⟨.type "int", .of_pure rfl, by unfold PySem.W.notFirst; rw [sub_int]; simp⟩
  | ref b =>
    obtain ⟨C', dx, gs, hb, hm⟩ := h
    cases ry
    obtain ⟨_, J, _⟩ := ins_get I.hok hb
    obtain ⟨_, J, _⟩ := J.look
    refine ⟨.ref C', J.type, ?_⟩
    unfold PySem.W.notFirst
    by_cases e : C = C'
    · rw [e]; simp
    · have : PySem.W.subIn X.K (.ref C') (.ref C) = some false := by
        show PySem.W.mroIn X.K C' (.ref C) = _
        rw [hm, beq_false_of_ne e]
      rw [this]
      simp
  | _ => exact h.elim
/-- what an own == promises -/
def spEqB (R : Addr → V → Bool → Hp → Prop) : Sp := fun vs H Q _ => ∃ a y b, vs = [.ref a, y] ∧ R a y b H ∧ ∀ H', Ext H H' → Q (.bl b) H'
/-- the own == of the class at C: what R says -/
structure OwnE (X : Cx) (n : Nat) (C : Addr) (R : Addr → V → Bool → Hp → Prop) : Prop where
  ex : ∃ f, Meth X.K C "__eq__" f ∧ ∀ (A : Around) (pins : List (Addr × Obj)) (s : Shared) (σ : St) (H : Hp) (a : Addr) (y : V) (b : Bool) (v : Value), Sub X n A → Inv X pins σ H s → RelV y v → R a y b H →
    wpAny (model X.prog X.w) A (call (.ref f) [.ref a, v]) (fun r t => r = .bool b ∧ ∃ H', Inv X pins σ H' t ∧ Ext H H') X.xe s
  mro : PySem.W.mroIn X.K C (.type "object") = some true
  non : PySem.W.mroIn X.K C (.type "NoneType") = some false
  ne : PySem.W.findIn X.K (.ref C) "__ne__" = some (some (.builtin "object.__ne__"))
theorem own_of {CX : CXT} {C f : Addr} {fd : FuncData} {ps : List Str} {R : Addr → V → Bool → Hp → Prop} {E : XK} (F : FnOk X.prog X.w X.K X.mg X.base CX n f fd ps (spEqB R)) (hm : Meth X.K C "__eq__" f) (hb : Binds X.K fd ps []) (hx : Passes CX X E)
    (h1 : PySem.W.mroIn X.K C (.type "object") = some true) (h2 : PySem.W.mroIn X.K C (.type "NoneType") = some false) (h3 : PySem.W.findIn X.K (.ref C) "__ne__" = some (some (.builtin "object.__ne__"))) : OwnE X n C R := by
  refine ⟨⟨f, hm, fun A pins s σ H a y b v sb I ry hr => ?_⟩, h1, h2, h3⟩
  have hsp : spEqB R [.ref a, y] H (fun r H' => r = .bl b ∧ Ext H H') E := ⟨a, y, b, rfl, hr, fun H' e => ⟨rfl, e⟩⟩
  have e0 : Env0 X.prog X.w X.K X.mg X.base A X.stack s H := by
    have e := I.env0
    exact ⟨by rw [sb.fr]; exact e.frames, e.mod, e.bs, e.bsz, e.funs, e.frf, e.hok, e.bare⟩
  have two : Vals [V.ref a, y] [Value.ref a, v] := .cons rfl (.cons ry .nil)
  have ln := F.len _ _ _ _ hsp
  have bound := hb s [Value.ref a, v] I.kIn (by simpa using ln)
  refine wpAny_call (codeAny_mono (F.run A X.stack s H ⟨[.ref a, v], []⟩ [.ref a, v] [.ref a, y] _ E sb.room e0 (by simpa using bound) two hsp) fun r t hq => ?_)
  match r, hq with
  | .error e, hq => exact hx pins σ H s e t I hq
  | .ok (.ret z), hq =>
    obtain ⟨k, H', I', rz, ez, ex⟩ := I.after hq
    subst ez
    cases rz
    exact ⟨rfl, H', I', ex⟩
def DInsB (K : PySem.W.Frag) (C : Addr) (R : Addr → V → Bool → Hp → Prop) : Eqb := fun x y b H => ∃ a dx fs, x = .ref a ∧ H a = some (.ins C dx fs) ∧ OthT K C H y ∧ R a y b H
theorem rcT_ins {C : Addr} {R : Addr → V → Bool → Hp → Prop} (O : OwnE X n C R) : RcT X n .Eq (DInsB X.K C R) := by
  intro A pins s σ H x y b u v sb I rx ry d
  obtain ⟨a, dx, fs, rfl, ha, ho, hr⟩ := d
  cases rx
  obtain ⟨f, hm, run⟩ := O.ex
  obtain ⟨_, J, _⟩ := ins_get I.hok ha
  obtain ⟨_, J, _⟩ := J.look
  obtain ⟨m, hF⟩ := I.fr
  obtain ⟨tb, lk, nf⟩ := ho.look I ry
  refine PySem.W.cmp_K (op := .Eq) sb.room.units0 hF I.ok.mod.kin J lk nf hm.at_ hm.fn (wpAny_mono (run A pins s σ H a y b v sb I ry hr) (fun r t z => ?_) fun _ _ z => z)
  obtain ⟨rfl, z⟩ := z
  exact ⟨rfl, z⟩
theorem rcN_ins {C : Addr} {R : Addr → V → Bool → Hp → Prop} (O : OwnE X n C R) : RcT X (n + 1) .NotEq (fun x y b H => DInsB X.K C R x y (!b) H) := by
  intro A pins s σ H x y b u v sb I rx ry d
  obtain ⟨a, dx, fs, rfl, ha, ho, hr⟩ := d
  cases rx
  obtain ⟨f, hm, run⟩ := O.ex
  obtain ⟨_, J, _⟩ := ins_get I.hok ha
  obtain ⟨_, J, _⟩ := J.look
  obtain ⟨m, hF⟩ := I.fr
  obtain ⟨tb, lk, nf⟩ := ho.look I ry
  refine OQ.rc_neK (Nat.lt_of_le_of_lt (by omega) sb.room.un) hF I.ok.mod.kin J lk nf O.mro O.ne hm.at_ hm.fn (wpAny_mono (run A.in1 pins s σ H a y (!b) v sb.in1 I ry hr) (fun r t z => ?_) fun _ _ z => z)
  obtain ⟨rfl, z⟩ := z
  exact ⟨!b, rfl, by rw [Bool.not_not], z⟩
/-- None on the left -/
def DNonB (C : Addr) (R : Addr → V → Bool → Hp → Prop) : Eqb := fun x y b H => x = .non ∧ ∃ a dx fs, y = .ref a ∧ H a = some (.ins C dx fs) ∧ R a .non b H
theorem rcT_non {C : Addr} {R : Addr → V → Bool → Hp → Prop} (O : OwnE X n C R) : RcT X n .Eq (DNonB C R) := by
  intro A pins s σ H x y b u v sb I rx ry d
  obtain ⟨rfl, a, dx, fs, rfl, ha, hr⟩ := d
  cases rx
  cases ry
  obtain ⟨f, hm, run⟩ := O.ex
  obtain ⟨_, J, _⟩ := ins_get I.hok ha
  obtain ⟨_, J, _⟩ := J.look
  obtain ⟨m, hF⟩ := I.fr
  refine OQ.rc_nonK sb.room.units0 hF I.ok.mod.kin J hm.at_ hm.fn O.non (wpAny_mono (run A pins s σ H a .non b .none sb I rfl hr) (fun r t z => ?_) fun _ _ z => z)
  obtain ⟨rfl, z⟩ := z
  exact ⟨rfl, z⟩
theorem rcT_nn : RcT X 0 .Eq (fun x y b _ => x = .non ∧ y = .non ∧ b = true) := by
  intro A pins s σ H x y b u v sb I rx ry d
  obtain ⟨rfl, rfl, rfl⟩ := d
  cases rx
  cases ry
  exact SeqAt.RcAt.none_none X.prog X.w X.xe _ ⟨rfl, H, I, Ext.rfl'⟩
/-- from the comparison of instances or None to what a builtin asks -/
theorem RcT.eqT (h : RcT X n .Eq D) (hr : ∀ x y b H, D x y b H → (x = .non ∨ ∃ a, x = .ref a) ∧ (y = .non ∨ ∃ a, y = .ref a)) (hs : ∀ {pins : List (Addr × Obj)} {s : Shared} {σ : St} x b H, Inv X pins σ H s → D x x b H → b = true) : EqT X n D := by
  intro A pins s σ H x y b u v sb I rx ry d
  have val : ∀ {z : V} {k : Value}, RelV z k → (z = .non ∨ ∃ a, z = .ref a) → (z = .non ∧ k = .none) ∨ ∃ a, z = .ref a ∧ k = .ref a := fun r o => by
    rcases o with rfl | ⟨a, rfl⟩
    · cases r; exact .inl ⟨rfl, rfl⟩
    · cases r; exact .inr ⟨a, rfl, rfl⟩
  obtain ⟨ox, oy⟩ := hr _ _ _ _ d
  by_cases e : x = y
  · subst e
    have : u = v := by
      rcases val rx ox with ⟨rfl, rfl⟩ | ⟨a, rfl, rfl⟩ <;> cases ry <;> rfl
    subst this
    rw [hs _ _ _ I d]
    exact SeqAt.EqAt.same (A := A) (s := s) u X.prog X.w X.xe _ ⟨rfl, H, I, Ext.rfl'⟩
  · have ne : u ≠ v := fun z => e (by
      rcases val rx ox with ⟨rfl, rfl⟩ | ⟨a, rfl, rfl⟩ <;> rcases val ry oy with ⟨rfl, rfl⟩ | ⟨c, rfl, rfl⟩
      · rfl
      · cases z
      · cases z
      · cases z; rfl)
    have go := h A pins s σ H x y b u v sb I rx ry d
    unfold eqBool
    refine wpAny_holding (wpAny_ite_split (fun z => absurd (eq_of_beq z) ne) fun _ => ?_)
    rcases val rx ox with ⟨_, rfl⟩ | ⟨_, _, rfl⟩ <;> rcases val ry oy with ⟨_, rfl⟩ | ⟨_, _, rfl⟩ <;>
    · refine wpAny_bind (wpAny_mono go (fun r t z => ?_) fun _ _ z => z)
      obtain ⟨rfl, z⟩ := z
      exact wpAny_truthy_bool ⟨rfl, z⟩
def rOwn (D : Eqb) : R2 := fun x y H Q => ∃ b, D x y b H ∧ ∀ H', Ext H H' → Q (.bl b) H'
theorem op_own (h : RcT X n .Eq D) (hr : Room n X.A) : OpR X (compareOp .Eq) (rOwn D) := by
  intro pins s σ H x y v u Q I rx ry ⟨b, d, q⟩
  refine wpAny_mono (h X.A pins s σ H x y b v u ⟨hr, rfl⟩ I rx ry d) (fun r t z => ?_) fun _ _ z => z
  obtain ⟨rfl, H', I', e⟩ := z
  exact ⟨.bl b, H', I', rfl, q H' e⟩
theorem op_ownN (h : RcT X n .NotEq D) (hr : Room n X.A) : OpR X (compareOp .NotEq) (rOwn D) := by
  intro pins s σ H x y v u Q I rx ry ⟨b, d, q⟩
  refine wpAny_mono (h X.A pins s σ H x y b v u ⟨hr, rfl⟩ I rx ry d) (fun r t z => ?_) fun _ _ z => z
  obtain ⟨rfl, H', I', e⟩ := z
  exact ⟨.bl b, H', I', rfl, q H' e⟩
end
end L2
end B8_part
section B9_part
set_option Elab.async false
set_option linter.all false
set_option maxRecDepth 100000
set_option maxHeartbeats 1000000
set_option pp.deepTerms true
open PySem PySem.Spec PyProof.Rows L2
/-- go on as far as nothing is open -/
local macro_rules | `(tactic| walk_at "go") => `(tactic| repeat (first
  | with_reducible refine w_seq ?_ | with_reducible refine w_next ?_ | with_reducible refine w_set ?_ | with_reducible refine w_drop ?_ | with_reducible refine w_ret ?_ | with_reducible refine w_retN ?_
  | with_reducible refine w_if ?_ | ((with_reducible refine' w_var ?hv ?_); (case hv => exact rfl)) | with_reducible refine w_c ?_ | with_reducible refine w_nil ?_ | with_reducible refine w_cons ?_ | with_reducible refine w_op ?_ | with_reducible refine w_un ?_
  | with_reducible refine w_test ?_ | with_reducible refine w_tB ?_ | with_reducible refine w_not ?_ | with_reducible refine w_and ?_ | with_reducible refine w_or ?_ | with_reducible refine w_bl ?_
  | with_reducible refine w_andV ?_ | with_reducible refine w_orV ?_ | with_reducible refine w_notV ?_ | with_reducible refine w_ifE ?_ | with_reducible refine w_chain ?_ | with_reducible refine w_i0 ?_
  | with_reducible refine w_call ?_ | with_reducible refine w_callS ?_ | with_reducible refine w_cB ?_ | with_reducible refine w_tup ?_ | with_reducible refine w_lst ?_ | with_reducible refine w_fldV ?_
  | with_reducible refine w_neF ?_ | with_reducible refine w_neT ?_ | with_reducible refine w_notN ?_ | with_reducible refine w_isN ?_ | with_reducible refine w_gname ?_ | with_reducible refine w_gsub ?_ | with_reducible refine w_asg ?_ | with_reducible refine w_sl ?_ | with_reducible refine w_noP ?_ | with_reducible refine w_int1 ?_ | with_reducible refine w_part ?_ | with_reducible refine w_yes ?_ | with_reducible refine w_nT ?_ | with_reducible refine w_nF ?_ | with_reducible refine w_iteT ?_ | with_reducible refine w_iteF ?_))
namespace L2
open PySem PySem.Spec PyProof.Rows
/-! ### try: several clauses, each with or without 'as n' -/
abbrev Clause := Value × Option Nat × (Addr → Value → Option Addr → TS)
def bindI : Option Nat → Addr → St → St
  | none, _, σ => σ
  | some i, a, σ => σ.set i (some (.ref a))
def freeI : Option Nat → Ends → Ends
  | none, D => D
  | some i, D => { nx := fun σ H => D.nx (σ.set i none) H, rt := D.rt, bk := fun σ H => D.bk (σ.set i none) H, ct := fun σ H => D.ct (σ.set i none) H }
def wMix (K : PySem.W.Frag) (W0 : WX) (D : Ends) : List Clause → WX
  | [] => W0
  | (c, oi, ts) :: r => fun cls d σ H => ∃ b, PySem.W.exmOne K cls c = some b ∧ (b = true → ∀ a, H a = none → ts a cls d (freeI oi D) (bindI oi a σ) H) ∧ (b = false → wMix K W0 D r cls d σ H)
inductive HdsMix (X : Cx) : List ExceptHandler → List Clause → Prop
  | nil : HdsMix X [] []
  | plain {x : Str} {c : Value} {ts : Addr → Value → Option Addr → TS} {st : Stmt} {sts : List Stmt} {q1 q2 : Pos} {hr : List ExceptHandler} {lr : List Clause} (hc : Names X x c)
      (body : ∀ (a : Addr) (oe : Obj) (cls : Value) (d : Option Addr) (pn : List (Addr × Obj)), Zc cls d oe → (∃ vs, oe.data = .fields vs) → PSs (X.suite a ((a, oe) :: pn)) (st :: sts) (ts a cls d)) (rest : HdsMix X hr lr) :
      HdsMix X (.ExceptHandler (some (.Name x q1)) none (st :: sts) q2 :: hr) ((c, none, ts) :: lr)
  | named {x n : Str} {i : Nat} {c : Value} {ts : Addr → Value → Option Addr → TS} {st : Stmt} {sts : List Stmt} {q1 q2 : Pos} {hr : List ExceptHandler} {lr : List Clause} (hc : Names X x c) (hi : X.N[i]? = some n) (hk : X.env.kindOf n = some .local)
      (body : ∀ (a : Addr) (oe : Obj) (cls : Value) (d : Option Addr) (pn : List (Addr × Obj)), Zc cls d oe → (∃ vs, oe.data = .fields vs) → PSs (X.suite a ((a, oe) :: pn)) (st :: sts) (ts a cls d)) (rest : HdsMix X hr lr) :
      HdsMix X (.ExceptHandler (some (.Name x q1)) (some n) (st :: sts) q2 :: hr) ((c, some i, ts) :: lr)
section
variable {X : Cx} {body : List Stmt} {h0 : ExceptHandler} {hr : List ExceptHandler} {l : List Clause} {pos : Pos} {tb : WX → TS} {W0 : WX}
theorem ps_try_mix (hst : X.stack = X.env :: X.outer) (hfr : X.env.frame = some X.env.locals) (hnd : X.N.Nodup) (tk : Takes X W0)
    (hb : ∀ (W : WX) (pn : List (Addr × Obj)) (xe : Value → Shared → Prop), Takes (X.tr pn xe) W → PassesOwn (model X.prog X.w) X.A X.env xe → PSs (X.tr pn xe) body (tb W))
    (hh : HdsMix X (h0 :: hr) l) : PS X (.Try body (h0 :: hr) [] [] pos) (fun D σ H => tb (wMix X.K W0 D l) D σ H) := by
  refine ⟨fun pins s σ H D I wish => ?_⟩
  have ok := I.ok
  have frames : X.A.frames = some (X.env :: X.outer) := by rw [ok.frames, hst]
  refine wpAny_Try_except ?_
  let xe : Value → Shared → Prop := fun e t1 => wpAny (model X.prog X.w) X.A (noteFrame e X.env) (fun _ t2 => wpAny (model X.prog X.w) X.A (setFlight e none) (fun _ t3 => wpAny (model X.prog X.w) X.A (handleBy e X.env (h0 :: hr)) (SP X pins D) X.xe t3) X.xe t2) X.xe t1
  refine wpAny_mono ((hb (wMix X.K W0 D l) (X.pn ++ pins) xe (fun u t x => ?_) PassesOwn.looking).run [] s σ H D (I.toTry _) wish) (fun f t r => ?_) fun e t z => z
  · obtain ⟨a, B, sI, pins', σ1, H1, cls, d, rfl, J0, nb, up, sky, na, os, ag, w1⟩ := x
    have J : Inv X pins σ1 H1 sI := J0.ofTry ok
    have sky1 : Sky B (X.env :: X.outer) a (Zc cls d) X.env.locals t.heap := by rw [← hst]; exact sky
    show wpAny (model X.prog X.w) X.A (noteFrame (.ref a) X.env) _ _ _
    refine Sky.land Zc.steady frames hfr sky1 fun g gl gup => ?_
    have Jg : Inv X pins σ1 H1 { t with heap := g } := J.landed nb gl.1 (up.trans gup) os ag
    obtain ⟨oe, vs, ge, gz, gd⟩ := gl.there
    have nfr : a ∉ frs (X.env :: X.outer) := fun m => by
      obtain ⟨_, o1, e1, n1⟩ := gl.2.2.1.mem m
      rw [ge] at e1
      cases e1
      exact n1 _ gd
    have nLoc : a ≠ X.env.locals := fun z => nfr (List.mem_filterMap.mpr ⟨X.env, .head _, by rw [hfr, z]⟩)
    have nFs : a ∉ X.fs := fun m => by
      obtain ⟨e, he, q⟩ := List.mem_filterMap.mp m
      exact nfr (List.mem_filterMap.mpr ⟨e, .tail _ he, q⟩)
    have Sg := Jg.suite ge gd na nLoc nFs
    have test : ∀ {x : Str} {c : Value} {np : Pos} {Q : Value → Shared → Prop} {E : Value → Shared → Prop}, Names X x c → Q c { t with heap := g } → wpAny (model X.prog X.w) (X.A.mark (some (.ref a))) (eval (.Name x np) X.env) Q E { t with heap := g } := fun hc q => by
      obtain ⟨k1, k2, k3 | ⟨k3, k4, k5⟩⟩ := hc
      · exact ld_glob (X := X.suite a ((a, oe) :: (X.pn ++ pins))) Sg k1 k3 q k2
      · exact ld_blt (X := X.suite a ((a, oe) :: (X.pn ++ pins))) Sg k1 k3 k4 q k5 k2
    have look : PySem.W.Looks (model X.prog X.w) g (typeOf (.ref a)) cls := fun A Q E s' k q => wpAny_typeOf_ref (k _ _ ge) (by rw [gz.1]; exact q)
    have go : ∀ {hs2 : List ExceptHandler} {l2 : List Clause}, HdsMix X hs2 l2 → wMix X.K W0 D l2 cls d σ1 H1 → wpAny (model X.prog X.w) X.A (handleBy (.ref a) X.env hs2) (SP X pins D) X.xe { t with heap := g } := by
      intro hs2 l2 hm
      induction hm with
      | nil =>
        intro w2
        refine wpAny_handleBy_nil ?_
        obtain ⟨_, _, _, o2, v2, T2, _, _, he2, _, hd2, at2, _⟩ := id gl
        unfold PySem.passOn
        refine wpAny_bind (wpAny_field he2 hd2 at2 ?_)
        rw [if_neg (show ¬ ((Value.ref T2 == Value.none) = true) by simp)]
        have out : wpAny (model X.prog X.w) X.A (setFlight (.ref a) X.env.frame) (fun _ t4 => wpAny (model X.prog X.w) X.A (throw (.ref a) : Sem Flow) (SP X pins D) X.xe t4) X.xe { t with heap := g } := by
          rw [hfr]
          exact HandSPX.setFlight_upZ gl fun g4 gg4 up4 => wpAny_throw (tk _ _ ⟨a, B, sI, pins, σ1, H1, cls, d, rfl, J, nb, (up.trans gup).trans up4, .inr (.inr (by rw [hst]; exact gg4)), na, os, ag, w2⟩)
        first | exact wpAny_bind (wpAny_pure (wpAny_bind out)) | exact wpAny_bind out
      | plain hc bd rest ih =>
        rintro ⟨b, e1, yes, no⟩
        refine wpAny_handleBy_cons (codeAny_handlers_test ?_) nofun
        refine test hc ((PySem.W.exm_one (M := model X.prog X.w) Jg.kIn look e1).here ?_)
        cases b with
        | false => exact ih (no rfl)
        | true =>
          refine codeAny_handlers_suite (HandSPX.lands_againZ gl fun g4 gl4 up4 => ?_)
          have J4 : Inv X pins σ1 H1 { t with heap := g4 } := J.landed nb gl4.1 ((up.trans gup).trans up4) os ag
          obtain ⟨o4, v4, e4, z4, d4⟩ := gl4.there
          refine wpAny_mono ((bd a o4 cls d (X.pn ++ pins) z4 ⟨_, d4⟩).run [] _ _ H1 _ (J4.suite e4 d4 na nLoc nFs) (yes rfl a na)) (fun f t6 r => ?_) fun _ _ z => z.elim
          match f, r with
          | .next, ⟨σ6, H6, S6, q6⟩ => exact ⟨_, _, S6.unsuite ok, q6⟩
          | .brk, ⟨σ6, H6, S6, q6⟩ => exact ⟨_, _, S6.unsuite ok, q6⟩
          | .cont, ⟨σ6, H6, S6, q6⟩ => exact ⟨_, _, S6.unsuite ok, q6⟩
          | .ret u, ⟨v6, σ6, H6, S6, r6, q6⟩ => exact ⟨_, _, _, S6.unsuite ok, r6, q6⟩
      | named hc hi hk bd rest ih =>
        rintro ⟨b, e1, yes, no⟩
        refine wpAny_handleBy_cons (codeAny_handlers_test ?_) nofun
        refine test hc ((PySem.W.exm_one (M := model X.prog X.w) Jg.kIn look e1).here ?_)
        cases b with
        | false => exact ih (no rfl)
        | true =>
          refine codeAny_handlers_suite_as (HandSPX.lands_againZ gl fun g4 gl4 up4 => ?_)
          have J4 : Inv X pins σ1 H1 { t with heap := g4 } := J.landed nb gl4.1 ((up.trans gup).trans up4) os ag
          obtain ⟨o4, v4, e4, z4, d4⟩ := gl4.there
          refine store_ok (X := X.suite a ((a, o4) :: (X.pn ++ pins))) (v := .ref a) (J4.suite e4 d4 na nLoc nFs) hnd hi (.inl hk) rfl (fun t5 S5 => ?_) (.inr hk)
          refine wpAny_mono ((bd a o4 cls d (X.pn ++ pins) z4 ⟨_, d4⟩).run [] t5 _ H1 _ S5 (yes rfl a na)) (fun f t6 r => ?_) fun _ _ z => z.elim
          match f, r with
          | .next, ⟨σ6, H6, S6, q6⟩ => exact gone_ok (S6.unsuite ok) hnd hi hk fun t7 J7 => ⟨_, _, J7, q6⟩
          | .brk, ⟨σ6, H6, S6, q6⟩ => exact gone_ok (S6.unsuite ok) hnd hi hk fun t7 J7 => ⟨_, _, J7, q6⟩
          | .cont, ⟨σ6, H6, S6, q6⟩ => exact gone_ok (S6.unsuite ok) hnd hi hk fun t7 J7 => ⟨_, _, J7, q6⟩
          | .ret u, ⟨v6, σ6, H6, S6, r6, q6⟩ => exact gone_ok (S6.unsuite ok) hnd hi hk fun t7 J7 => ⟨_, _, _, J7, r6, q6⟩
    exact go hh w1
  · match f, r with
    | .next, ⟨σ', H', J', q⟩ => exact wpAny_execs_nil ⟨σ', H', J'.ofTry ok, q⟩
    | .brk, ⟨σ', H', J', q⟩ => exact ⟨σ', H', J'.ofTry ok, q⟩
    | .cont, ⟨σ', H', J', q⟩ => exact ⟨σ', H', J'.ofTry ok, q⟩
    | .ret u, ⟨v, σ', H', J', rr, q⟩ => exact ⟨v, σ', H', J'.ofTry ok, rr, q⟩
end
end L2
end B9_part
section B10_part
set_option Elab.async false
set_option linter.all false
set_option maxRecDepth 100000
set_option maxHeartbeats 1000000
set_option pp.deepTerms true
open PySem PySem.Spec PyProof.Rows L2
/-- go on as far as nothing is open -/
local macro_rules | `(tactic| walk_at "go") => `(tactic| repeat (first
  | with_reducible refine w_seq ?_ | with_reducible refine w_next ?_ | with_reducible refine w_set ?_ | with_reducible refine w_drop ?_ | with_reducible refine w_ret ?_ | with_reducible refine w_retN ?_
  | with_reducible refine w_if ?_ | ((with_reducible refine' w_var ?hv ?_); (case hv => exact rfl)) | with_reducible refine w_c ?_ | with_reducible refine w_nil ?_ | with_reducible refine w_cons ?_ | with_reducible refine w_op ?_ | with_reducible refine w_un ?_
  | with_reducible refine w_test ?_ | with_reducible refine w_tB ?_ | with_reducible refine w_not ?_ | with_reducible refine w_and ?_ | with_reducible refine w_or ?_ | with_reducible refine w_bl ?_
  | with_reducible refine w_andV ?_ | with_reducible refine w_orV ?_ | with_reducible refine w_notV ?_ | with_reducible refine w_ifE ?_ | with_reducible refine w_chain ?_ | with_reducible refine w_i0 ?_
  | with_reducible refine w_call ?_ | with_reducible refine w_callS ?_ | with_reducible refine w_cB ?_ | with_reducible refine w_tup ?_ | with_reducible refine w_lst ?_ | with_reducible refine w_fldV ?_
  | with_reducible refine w_neF ?_ | with_reducible refine w_neT ?_ | with_reducible refine w_notN ?_ | with_reducible refine w_isN ?_ | with_reducible refine w_gname ?_ | with_reducible refine w_gsub ?_ | with_reducible refine w_asg ?_ | with_reducible refine w_sl ?_ | with_reducible refine w_noP ?_ | with_reducible refine w_int1 ?_ | with_reducible refine w_part ?_ | with_reducible refine w_yes ?_ | with_reducible refine w_nT ?_ | with_reducible refine w_nF ?_ | with_reducible refine w_iteT ?_ | with_reducible refine w_iteF ?_))
namespace L2
open PySem PySem.Spec PyProof.Rows
/-! ### C(e, .., k = v) that may raise, the raising wished for at the slots -/
def tMakeKS (C : Addr) (n m : Nat) (sp : Sp) (E : St → XK) (t tk : TA) : TE := fun σ H Q => t σ H fun vs H1 => tk σ H1 fun zs H2 => vs.length = n ∧ zs.length = m ∧ ∀ x dx, H2 x = none → H2 dx = none → dx ≠ x →
  sp ((V.ref x :: vs) ++ zs) (upd (upd H2 dx (.own x)) x (.ins C dx [])) (fun v H3 => v = .non ∧ Q (.ref x) H3) (E σ)
section
variable {X : Cx} {CX : CXT} {k n : Nat} {f C : Addr} {fd : FuncData} {ps ks : List Str} {sp : Sp} {E : St → XK} {x : Str} {p pos : Pos} {e : Expr} {es : List Expr} {kws : List Keyword} {t tk : TA}
theorem make_ks {pins : List (Addr × Obj)} {σ : St} {H : Hp} {s : Shared} {Q : VK} {us ws : List Value} {vs zs : List V} (M : Mk X.K C f) (F : FnOk X.prog X.w X.K X.mg X.base CX k f fd ps sp) (hr : Room (k + 1) X.A)
    (hb : KBn X.K fd ps (n + 1) ks (fun us ws => us ++ ws) (fun vs zs => vs ++ zs)) (hx : PassesAt CX X σ (E σ)) (I : Inv X pins σ H s) (r : Vals vs us) (rz : Vals zs ws) (l1 : vs.length = n) (l2 : zs.length = ks.length)
    (h : ∀ x dx, H x = none → H dx = none → dx ≠ x → sp ((V.ref x :: vs) ++ zs) (upd (upd H dx (.own x)) x (.ins C dx [])) (fun v H2 => v = .non ∧ Q (.ref x) H2) (E σ)) :
    wpAny (model X.prog X.w) X.A (call (.ref C) us (ks.zip ws)) (EP X pins σ Q) X.xe s := by
  let new : Addr := s.heap.objs.size + 1
  have told := h new s.heap.objs.size (I.hok.fresh (Nat.le_succ _)) (I.hok.fresh (Nat.le_refl _)) (Nat.ne_of_lt (Nat.lt_succ_self _))
  have J := Inv.made (C := C) I
  have one : Vals (V.ref new :: vs) (Value.ref new :: us) := .cons rfl r
  have many : (Value.ref new :: us).length = n + 1 := by rw [List.length_cons, ← r.length, l1]
  have went := F.run _ X.stack _ _ ⟨Value.ref new :: us, ks.zip ws⟩ ((Value.ref new :: us) ++ ws) _ _ (E σ) (hr.make C us (ks.zip ws)) (J.env0.make C us (ks.zip ws)) (hb.to _ (Value.ref new :: us) ws J.kIn many (rz.length.symm.trans l2)) (hb.rel one rz) told
  refine wpAny_call (make_map (f := f) I.kIn M.makes M.init (beq_iff_eq.mp M.fn) (codeAny_mono went fun r s' got => ?_))
  rcases r with e | (_ | _ | _ | u)
  · exact hx pins _ _ e s' J got
  · exact got.elim
  · exact got.elim
  · exact got.elim
  · obtain ⟨v, H', J', rv, ev, q⟩ := J.after got
    subst ev
    exact ⟨rv, V.ref new, H', J', rfl, q⟩
theorem pe_makeKS (M : Mk X.K C f) (F : FnOk X.prog X.w X.K X.mg X.base CX k f fd ps sp) (hr : Room (k + 1) X.A) (hg : Gl X x) (hm : X.mg x = some (.ref C)) (hb : KBn X.K fd ps (n + 1) ks (fun us ws => us ++ ws) (fun vs zs => vs ++ zs)) (hx : ∀ σ, PassesAt CX X σ (E σ)) (ha : PA X (e :: es) t) (hkw : PK X kws tk)
    (hall : (backToKw pos (keywordEach kws X.env)).all (·.1.isSome) = true := by rfl) (hks : (backToKw pos (keywordEach kws X.env)).filterMap (·.1) = ks := by rfl) (hdb : (x == ("__debug__" : Str)) = false := by decide)
    (he : starEach (e :: es) X.env = (false, eval e X.env) :: starEach es X.env := by rfl) (hpl : ((backTo pos (starEach (e :: es) X.env)).any (·.1) || (backToKw pos (keywordEach kws X.env)).any (·.1.isNone)) = false := by rfl) :
    PE X (.Call (.Name x p) (e :: es) kws pos) (tMakeKS C n ks.length sp E t tk) := ⟨fun pins s σ H Q I h =>
  wpAny_Call_Name_kw (ld_glob I hg hm (PySem.W.callWith_KW (h₀ := X.base) I.ok.mod.kin M.kp hall (thn (ha.run pos pins s σ H _ I h) fun us s1 ⟨vs, H1, I1, r, q⟩ =>
    thn (hkw.run pos pins s1 σ H1 _ I1 q) fun ws s2 ⟨zs, H2, I2, rz, l1, l2, q2⟩ => ⟨I2.kIn, by rw [hks]; exact make_ks M F hr hb (hx σ) I2 r rz l1 l2 q2⟩) hpl he) hdb)⟩
theorem w_makeKS {m : Nat} {σ : St} {H : Hp} {Q : VK} (h : t σ H fun vs H1 => tk σ H1 fun zs H2 => vs.length = n ∧ zs.length = m ∧ ∀ x dx, H2 x = none → H2 dx = none → dx ≠ x → sp ((V.ref x :: vs) ++ zs) (upd (upd H2 dx (.own x)) x (.ins C dx [])) (fun v H3 => v = .non ∧ Q (.ref x) H3) (E σ)) :
    tMakeKS C n m sp E t tk σ H Q := h
end
end L2
namespace K3
/-! ### what a caught error tells -/
theorem inst_at {X : Cx} {a D dd : Addr} {oe : Obj} {pn pins : List (Addr × Obj)} {σ : L2.St} {H : Hp} {s : Shared} {fs : List (Str × V)} (hz : Zc (.ref D) (some dd) oe) (hf : ∃ vs, oe.data = .fields vs) (I : Inv (X.suite a ((a, oe) :: pn)) pins σ H s) (ed : H dd = some (.xd fs)) :
    ∃ od, PySem.W.InstAt s.heap a oe D (some od) ∧ (∀ n v, fs.lookup n = some v → ∃ u, PySem.W.lookIn n od = some (some u) ∧ RelV v u) := by
  have pin := (I.pin (a, oe) (List.mem_append_left _ List.mem_cons_self)).1
  obtain ⟨vs, dat⟩ := hf
  have obj : ObjOk X.prog X.w H s.heap dd (.xd fs) := I.hok dd _ ed
  obtain ⟨names, ns, rel⟩ := obj
  obtain ⟨od, at_, look_⟩ := lookIn_ns ns
  refine ⟨od, ⟨pin, hz.1, by unfold PySem.W.notCls; rw [dat] <;> rfl, by rw [hz.2]; exact at_⟩, fun n v hv => ?_⟩
  obtain ⟨u, hu, ru⟩ := RelO.some_of (v := v) (o := names n) (by rw [← hv]; exact rel n)
  exact ⟨u, by rw [look_, hu], ru⟩
def ErrD (K : PySem.W.Frag) (cls : Value) (d : Option Addr) (D : Addr) (H : Hp) (fs : List (Str × V)) : Prop := cls = .ref D ∧ ∃ dd, d = some dd ∧ H dd = some (.xd fs)
theorem ErrD.same {K : PySem.W.Frag} {cls : Value} {d : Option Addr} {D : Addr} {H H' : Hp} {fs : List (Str × V)} (h : ErrD K cls d D H fs) (e : Same H H') : ErrD K cls d D H' fs := let ⟨h1, dd, h2, h3⟩ := h; ⟨h1, dd, h2, e _ _ h3⟩
/-- e.n, e the caught error -/
def tXfA (K : PySem.W.Frag) (a : Addr) (cls : Value) (d : Option Addr) (n : Str) (te : TE) : TE := fun σ H Q => te σ H fun x H1 => ∃ (D : Addr) (fs : List (Str × V)) (v : V), x = .ref a ∧ ErrD K cls d D H1 fs ∧ XfC K D ∧ NoAttr K D n ∧ fs.lookup n = some v ∧ Q v H1
theorem pe_xfA {X : Cx} {a : Addr} {oe : Obj} {cls : Value} {d : Option Addr} {pn : List (Addr × Obj)} {e : Expr} {te : TE} {pos : Pos} {n : Str} (hz : Zc cls d oe) (hf : ∃ vs, oe.data = .fields vs) (he : PE (X.suite a ((a, oe) :: pn)) e te) (hb : attributeBase e n X.env (eval e X.env) = eval e X.env := by rfl) :
    PE (X.suite a ((a, oe) :: pn)) (.Attribute e n pos) (tXfA X.K a cls d n te) := ⟨fun pins s σ H Q I h => attr_of hb (thn (he.run pins s σ H _ I h) fun u s1 ⟨x, H1, J, rx, D, fs, v, ex, ⟨ecl, dd, edd, hxd⟩, xf, hno, hl, q⟩ => by
  subst ex ecl edd
  obtain rfl : u = Value.ref a := rx
  obtain ⟨od, at_, look_⟩ := inst_at hz hf J hxd
  obtain ⟨r, hr, rr⟩ := look_ n v hl
  exact HandSPX.exc_get J.kIn at_ xf.ga xf.gg xf.exC (PySem.W.findObj_own xf.hdC hno rfl hr) (handed_of rr) ⟨v, H1, J.tok _, rr, q⟩)⟩
theorem w_xfA {K : PySem.W.Frag} {a : Addr} {cls : Value} {d : Option Addr} {σ : L2.St} {H : Hp} {Q : VK} {i : Nat} {x n : Str} {fs : List (Str × V)} {v : V} (hσ : σ[i]? = some (some (V.ref a))) (hed : ErrD K cls d (He.ga K x) H fs) (EC : ErrC K x) (hno : NoAttr K (He.ga K x) n) (hl : fs.lookup n = some v) (q : Q v H) :
    tXfA K a cls d n (tVar i) σ H Q := ⟨_, hσ, He.ga K x, fs, v, rfl, hed, EC.f, hno, hl, q⟩
end K3
end B10_part
section Q0_part
set_option Elab.async false
set_option linter.all false
set_option maxRecDepth 100000
set_option maxHeartbeats 1000000
set_option pp.deepTerms true
open PySem PySem.Spec PyProof.Rows L2
/-- go on as far as nothing is open -/
local macro_rules | `(tactic| walk_at "go") => `(tactic| repeat (first
  | with_reducible refine w_seq ?_ | with_reducible refine w_next ?_ | with_reducible refine w_set ?_ | with_reducible refine w_drop ?_ | with_reducible refine w_ret ?_ | with_reducible refine w_retN ?_
  | with_reducible refine w_if ?_ | ((with_reducible refine' w_var ?hv ?_); (case hv => exact rfl)) | with_reducible refine w_c ?_ | with_reducible refine w_nil ?_ | with_reducible refine w_cons ?_ | with_reducible refine w_op ?_ | with_reducible refine w_un ?_
  | with_reducible refine w_test ?_ | with_reducible refine w_tB ?_ | with_reducible refine w_not ?_ | with_reducible refine w_and ?_ | with_reducible refine w_or ?_ | with_reducible refine w_bl ?_
  | with_reducible refine w_andV ?_ | with_reducible refine w_orV ?_ | with_reducible refine w_notV ?_ | with_reducible refine w_ifE ?_ | with_reducible refine w_chain ?_ | with_reducible refine w_i0 ?_
  | with_reducible refine w_call ?_ | with_reducible refine w_callS ?_ | with_reducible refine w_cB ?_ | with_reducible refine w_tup ?_ | with_reducible refine w_lst ?_ | with_reducible refine w_fldV ?_
  | with_reducible refine w_neF ?_ | with_reducible refine w_neT ?_ | with_reducible refine w_notN ?_ | with_reducible refine w_isN ?_ | with_reducible refine w_gname ?_ | with_reducible refine w_gsub ?_ | with_reducible refine w_asg ?_ | with_reducible refine w_sl ?_ | with_reducible refine w_noP ?_ | with_reducible refine w_int1 ?_ | with_reducible refine w_part ?_ | with_reducible refine w_meth ?_ | with_reducible refine w_din ?_ | with_reducible refine w_dnotin ?_ | with_reducible refine w_dgt ?_ | with_reducible refine w_dget1 ?_ | with_reducible refine w_dget2 ?_ | with_reducible refine w_dput ?_ | with_reducible refine w_yes ?_ | with_reducible refine w_nT ?_ | with_reducible refine w_nF ?_ | with_reducible refine w_iteT ?_ | with_reducible refine w_iteF ?_))
namespace L2
open PySem PySem.Spec PyProof.Rows
section
variable {X : Cx} {k : Nat} {f C : Addr} {ps : List Str} {sp : Sp} {m : Str} {o e : Expr} {es : List Expr} {apos pos : Pos} {t : TA} {ta : TE}
/-- o.m(e, ..) of an own instance, nothing is raised -/
theorem pe_mO {pl : Sem Bool} (O : Ok X.prog X.w X.K X.mg X.base k f ps sp) (hr : Room k X.A) (c : Cls X.K C) (hm : Meth X.K C m f) (he : PE X o ta) (ha : PA X (e :: es) t)
    (hst : starEach (e :: es) X.env = (false, eval e X.env) :: starEach es X.env := by rfl) (hpl : (backTo pos (starEach es X.env)).any (·.1) = false := by rfl)
    (ht : eval (.Call (.Attribute o m apos) (e :: es) [] pos) X.env = (do
      let ov ← eval o X.env
      standAt apos.atName
      let (f, first) ← holding [ov] (getMethod ov m pl)
      callWith pos f first (backTo pos (starEach (e :: es) X.env)) (backToKw pos (keywordEach [] X.env))) := by rfl) :
    PE X (.Call (.Attribute o m apos) (e :: es) [] pos) (tMeth C m sp [] E0 ta t) := by
  obtain ⟨fd, F, b, kp⟩ := O.run
  exact pe_meth he c hm F hr b .nil passL ha hst hpl ht
theorem pe_mO0 {pl : Sem Bool} (O : Ok X.prog X.w X.K X.mg X.base k f ps sp) (hr : Room k X.A) (c : Cls X.K C) (hm : Meth X.K C m f) (he : PE X o ta)
    (ht : eval (.Call (.Attribute o m apos) [] [] pos) X.env = (do
      let ov ← eval o X.env
      standAt apos.atName
      let (f, first) ← holding [ov] (getMethod ov m pl)
      callWith pos f first (backTo pos (starEach [] X.env)) (backToKw pos (keywordEach [] X.env))) := by rfl) :
    PE X (.Call (.Attribute o m apos) [] [] pos) (tMeth C m sp [] E0 ta tNil) := by
  obtain ⟨fd, F, b, kp⟩ := O.run
  exact pe_meth0 he c hm F hr b .nil passL ht
end
/-- x in t, t a tuple of data -/
def rInTD (K : PySem.W.Frag) : R2 := fun x y H Q => ∃ d ds, Dp K H x d ∧ Dp K H y (.tuple ds) ∧ SeqAt.shaped d = true ∧ SeqAt.shaped (.tuple ds) = true ∧ Q (.bl (ds.any fun z => PyData.eqv z d)) H
theorem op_inTD {X : Cx} (hu : X.A.units + 65 < cLine) : OpR X (compareOp .In) (rInTD X.K) := by
  intro pins s σ H x y v u Q I rx ry ⟨d, ds, hd, he, sd, se, q⟩
  obtain ⟨as, r1⟩ := Dp.reads I d x v hd rx
  obtain ⟨bs, r2⟩ := Dp.reads I (.tuple ds) y u he ry
  exact SeqAt.in_tuple_reads r2 r1 (SeqAt.canLay_of_shaped se) (SeqAt.canLay_of_shaped sd) (room_in_shaped sd hu) ⟨.bl _, H, I, rfl, q⟩
section
variable {σ : St} {H : Hp} {ta : TE} {t : TA} {Q : VK}
theorem w_din {ty td : TE} (h : ty σ H fun y H1 => td σ H1 fun x H2 => ∃ a o, x = .ref a ∧ DGet H2 a y o ∧ Q (.bl o.isSome) H2) : tDIn ty td σ H Q := h
theorem w_dnotin {ty td : TE} (h : ty σ H fun y H1 => td σ H1 fun x H2 => ∃ a o, x = .ref a ∧ DGet H2 a y o ∧ Q (.bl (!o.isSome)) H2) : tDNotIn ty td σ H Q := h
theorem w_dgt {td ty : TE} (h : td σ H fun x H1 => ty σ H1 fun y H2 => ∃ a v, x = .ref a ∧ DGet H2 a y (some v) ∧ Q v H2) : tDGet td ty σ H Q := h
theorem w_dget1 {td ty : TE} (h : td σ H fun x H1 => ∃ a, x = .ref a ∧ IsD H1 a ∧ ty σ H1 fun y H2 => ∃ o, DGet H2 a y o ∧ Q (o.getD .non) H2) : tDGet1 td ty σ H Q := h
theorem w_dget2 {td ty tx : TE} (h : td σ H fun x H1 => ∃ a, x = .ref a ∧ IsD H1 a ∧ ty σ H1 fun y H2 => tx σ H2 fun z H3 => ∃ o, DGet H3 a y o ∧ Q (o.getD z) H3) : tDGet2 td ty tx σ H Q := h
theorem w_dput {td ty tv : TE} {D : Ends} (h : tv σ H fun v H1 => td σ H1 fun x H2 => ty σ H2 fun y H3 => ∃ a H4, x = .ref a ∧ DPut H3 a y v H4 ∧ D.nx σ H4) : sDPut td ty tv D σ H := h
theorem w_meth {C : Addr} {m : Str} {sp : Sp} {dvs : List V} {E : XK} (h : ta σ H fun x H1 => ∃ a dx fs, x = .ref a ∧ H1 a = some (.ins C dx fs) ∧ fs.lookup m = none ∧ t σ H1 fun vs H2 => sp (x :: (vs ++ dvs)) H2 Q E) : tMeth C m sp dvs E ta t σ H Q := h
end
end L2
namespace K3
theorem Room.units70 {k : Nat} {A : Around} (h : Room k A) : A.units + 70 < cLine := Nat.lt_of_le_of_lt (by omega) h.un
theorem Room.units4 {k : Nat} {A : Around} (h : Room k A) : A.units + 4 < cLine := Nat.lt_of_le_of_lt (by omega) h.un
/-! ### answers: any text, number, truth, None or tuple of texts -/
inductive An where
  | str (z : Str)
  | int (i : Int)
  | bl (b : Bool)
  | non
  | tup (zs : List Str)
deriving DecidableEq
inductive AnO (H : Hp) : V → An → Prop where
  | str (z) : AnO H (.str z) (.str z)
  | int (i) : AnO H (.int i) (.int i)
  | bl (b) : AnO H (.bl b) (.bl b)
  | non : AnO H .non .non
  | tup {p zs} : H p = some (.tup (List.map V.str zs)) → AnO H (.ref p) (.tup zs)
theorem AnO.same {H H' : Hp} (e : Same H H') {v : V} {x : An} (h : AnO H v x) : AnO H' v x := by
  cases h with
  | str => exact .str _
  | int => exact .int _
  | bl => exact .bl _
  | non => exact .non
  | tup h => exact .tup (e _ _ h)
def An.data : An → PyData
  | .str z => .str z | .int i => .int i | .bl b => .bool b | .non => .none | .tup zs => .tuple (zs.map PyData.str)
theorem strs_dp {K : PySem.W.Frag} {H : Hp} : ∀ zs : List Str, DpAll K H (zs.map V.str) (zs.map PyData.str)
  | [] => .nil
  | z :: zs => .cons (.str z) (strs_dp zs)
theorem AnO.dp {K : PySem.W.Frag} {H : Hp} {v : V} {x : An} (h : AnO H v x) : Dp K H v x.data := by
  cases h with
  | str => exact .str _
  | int => exact .int _
  | bl => exact .bl _
  | non => exact .non
  | tup h => exact .tup (SqT.of h) (strs_dp _)
/-- texts are of signs that there are -/
def An.ok : An → Prop
  | .str z => PySem.PyData.strOk z = true
  | .tup zs => zs.length ≤ 1000 ∧ ∀ z ∈ zs, PySem.PyData.strOk z = true
  | _ => True
theorem strs_lay : ∀ {zs : List Str}, (∀ z ∈ zs, PySem.PyData.strOk z = true) → PyData.canLayAll0 (zs.map PyData.str) = true ∧ PyData.depthAll (zs.map PyData.str) ≤ 0
  | [], _ => ⟨rfl, Nat.le_refl _⟩
  | z :: zs, h => by
    obtain ⟨a, b⟩ := strs_lay fun y hy => h y (List.mem_cons_of_mem _ hy)
    simp only [List.map_cons, PyData.canLayAll0, PyData.canLay0, PyData.depthAll, PyData.depth]
    exact ⟨by rw [a, h z (List.mem_cons_self ..)]; rfl, by omega⟩
theorem shaped_of {d : PyData} (h : d.canLay0 = true) (k : d.depth ≤ 64) : SeqAt.shaped d = true := Bool.and_eq_true_iff.mpr ⟨h, decide_eq_true k⟩
theorem strs_shaped {zs : List Str} (h : ∀ z ∈ zs, PySem.PyData.strOk z = true) : SeqAt.shaped (.tuple (zs.map PyData.str)) = true ∧ SeqAt.shaped (.list (zs.map PyData.str)) = true := by
  obtain ⟨a, b⟩ := strs_lay h
  exact ⟨shaped_of (by simpa [PyData.canLay0] using a) (by simp only [PyData.depth]; omega), shaped_of (by simpa [PyData.canLay0] using a) (by simp only [PyData.depth]; omega)⟩
theorem str_shaped {z : Str} (h : PySem.PyData.strOk z = true) : SeqAt.shaped (.str z) = true := shaped_of (by simpa [PyData.canLay0] using h) (by simp [PyData.depth])
theorem An.shaped {x : An} (h : x.ok) : SeqAt.shaped x.data = true := by
  cases x with
  | str z => exact str_shaped h
  | tup zs => exact (strs_shaped h.2).1
  | _ => rfl
theorem eqv_strs : ∀ {xs ys : List Str}, PyData.eqvAll (xs.map PyData.str) (ys.map PyData.str) = decide (xs = ys)
  | [], [] => by simp [PyData.eqvAll]
  | [], y :: ys => by simp [PyData.eqvAll]
  | x :: xs, [] => by simp [PyData.eqvAll]
  | x :: xs, y :: ys => by
    have ih := eqv_strs (xs := xs) (ys := ys)
    simp only [List.map_cons, PyData.eqvAll, ih, PyData.eqv, List.cons.injEq, Bool.decide_and]
    congr 1
def An.isInt : An → Bool
  | .int _ => true
  | _ => false
def Rw.ans : Rw → An → Bool
  | .one _ os _, .str z => decide (z ∈ os)
  | .some _ os _, .tup zs => decide (zs = os.filter fun o => decide (o ∈ zs))
  | .number _ lo hi _, .int i => decide (lo ≤ i) && decide (i ≤ hi)
  | _, _ => false
def spAnB (f : An → Bool) (_ : PySem.W.Frag) : Sp := fun vs H Q _ => ∃ (v : V) (x : An), vs = [v] ∧ AnO H v x ∧ ∀ H', Same H H' → Q (.bl (f x)) H'
def spChosen (K : PySem.W.Frag) : Sp := fun vs H Q _ => ∃ (t p : Addr) (os zs : List Str), vs = [.ref t, .ref p] ∧ SqT K H t (os.map V.str) ∧ H p = some (.tup (zs.map V.str)) ∧ os.length ≤ 1000 ∧
  ∀ q H', Same H H' → H q = none → H' q = some (.lst ((os.filter fun o => decide (o ∈ zs)).map V.str)) → Q (.ref q) H'
def spIsAns (K : PySem.W.Frag) : Sp := fun vs H Q _ => ∃ (qv v : V) (r : Rw) (x : An), vs = [qv, v] ∧ RO K H qv r ∧ r.isQ = true ∧ AnO H v x ∧ x.ok ∧ r.opts.length ≤ 1000 ∧ (∀ o ∈ r.opts, PySem.PyData.strOk o = true) ∧ ∀ H', Same H H' → Q (.bl (r.ans x)) H'
def An.tyn : An → String
  | .str _ => "str" | .int _ => "int" | .bl _ => "bool" | .non => "NoneType" | .tup _ => "tuple"
theorem An.ty {K : PySem.W.Frag} {H : Hp} {v : V} {x : An} (h : AnO H v x) : TyX K H v (.type x.tyn) := by
  cases h with
  | str => exact .base (.str _)
  | int => exact .base (.int _)
  | bl => exact .base (.bl _)
  | non => exact .base .non
  | tup h => exact .base (.tup h)
theorem isB {y : String} {x : An} {K : PySem.W.Frag} {H : Hp} {v : V} {b : Bool} {Q : VK} (h : AnO H v x) (k : kitB x.tyn y = some b) (q : Q (.bl b) H) : rIsi K [v, .ty y] H Q :=
  ⟨v, .ty y, _, .type y, b, rfl, .ty y, An.ty h, kit_ty k, q⟩
theorem kii : kitB "int" "int" = some true := by decide +kernel
theorem kib : kitB "int" "bool" = some false := by decide +kernel
theorem kbi : kitB "bool" "int" = some true := by decide +kernel
theorem kbb : kitB "bool" "bool" = some true := by decide +kernel
theorem ksi : kitB "str" "int" = some false := by decide +kernel
theorem kni : kitB "NoneType" "int" = some false := by decide +kernel
theorem kti : kitB "tuple" "int" = some false := by decide +kernel
theorem kst : kitB "str" "tuple" = some false := by decide +kernel
theorem kit2 : kitB "int" "tuple" = some false := by decide +kernel
theorem kbt : kitB "bool" "tuple" = some false := by decide +kernel
theorem knt : kitB "NoneType" "tuple" = some false := by decide +kernel
theorem ktt : kitB "tuple" "tuple" = some true := by decide +kernel
def An.isTup : An → Bool
  | .tup _ => true | _ => false
theorem kit_tup : ∀ (x : An), kitB x.tyn "tuple" = some x.isTup
  | .str _ => kst | .int _ => kit2 | .bl _ => kbt | .non => knt | .tup _ => ktt
theorem filter_take {os : List Str} {zs : List Str} {i : Nat} {o : Str} (h : os[i]? = some o) : ((os.take (i + 1)).filter fun o => decide (o ∈ zs)) = ((os.take i).filter fun o => decide (o ∈ zs)) ++ if o ∈ zs then [o] else [] := by
  rw [List.take_add_one, h, List.filter_append]
  congr 1
  by_cases c : o ∈ zs <;> simp [c]
theorem any_str {os : List Str} {x : An} : ((os.map PyData.str).any fun z => PyData.eqv z x.data) = (match x with | .str z => decide (z ∈ os) | _ => false) := by
  induction os with
  | nil => cases x <;> rfl
  | cons o os ih =>
    rw [List.map_cons, List.any_cons, ih]
    cases x with
    | str z =>
      show ((o == z) || decide (z ∈ os)) = decide (z ∈ o :: os)
      by_cases e : o = z
      · rw [e]; simp
      · rw [beq_false_of_ne e, Bool.false_or]
        exact decide_eq_decide.mpr ⟨fun h => List.mem_cons_of_mem _ h, fun h => (List.mem_cons.mp h).resolve_left fun q => e q.symm⟩
    | _ => rfl
end K3
end Q0_part
section Q1_part
set_option Elab.async false
set_option linter.all false
set_option maxRecDepth 100000
set_option maxHeartbeats 1000000
set_option pp.deepTerms true
open PySem PySem.Spec PyProof.Rows L2
/-- go on as far as nothing is open -/
local macro_rules | `(tactic| walk_at "go") => `(tactic| repeat (first
  | with_reducible refine w_seq ?_ | with_reducible refine w_next ?_ | with_reducible refine w_set ?_ | with_reducible refine w_drop ?_ | with_reducible refine w_ret ?_ | with_reducible refine w_retN ?_
  | with_reducible refine w_if ?_ | ((with_reducible refine' w_var ?hv ?_); (case hv => exact rfl)) | with_reducible refine w_c ?_ | with_reducible refine w_nil ?_ | with_reducible refine w_cons ?_ | with_reducible refine w_op ?_ | with_reducible refine w_un ?_
  | with_reducible refine w_test ?_ | with_reducible refine w_tB ?_ | with_reducible refine w_not ?_ | with_reducible refine w_and ?_ | with_reducible refine w_or ?_ | with_reducible refine w_bl ?_
  | with_reducible refine w_andV ?_ | with_reducible refine w_orV ?_ | with_reducible refine w_notV ?_ | with_reducible refine w_ifE ?_ | with_reducible refine w_chain ?_ | with_reducible refine w_i0 ?_
  | with_reducible refine w_call ?_ | with_reducible refine w_callS ?_ | with_reducible refine w_cB ?_ | with_reducible refine w_tup ?_ | with_reducible refine w_lst ?_ | with_reducible refine w_fldV ?_
  | with_reducible refine w_neF ?_ | with_reducible refine w_neT ?_ | with_reducible refine w_notN ?_ | with_reducible refine w_isN ?_ | with_reducible refine w_gname ?_ | with_reducible refine w_gsub ?_ | with_reducible refine w_asg ?_ | with_reducible refine w_sl ?_ | with_reducible refine w_noP ?_ | with_reducible refine w_int1 ?_ | with_reducible refine w_part ?_ | with_reducible refine w_meth ?_ | with_reducible refine w_din ?_ | with_reducible refine w_dnotin ?_ | with_reducible refine w_dgt ?_ | with_reducible refine w_dget1 ?_ | with_reducible refine w_dget2 ?_ | with_reducible refine w_dput ?_ | with_reducible refine w_yes ?_ | with_reducible refine w_nT ?_ | with_reducible refine w_nF ?_ | with_reducible refine w_iteT ?_ | with_reducible refine w_iteF ?_))
namespace K3
section
variable {P : Program} {w : World} {K : PySem.W.Frag} {mg : Str → Option Value} {base : Heap}
end
end K3
end Q1_part
section Q2_part
set_option Elab.async false
set_option linter.all false
set_option maxRecDepth 100000
set_option maxHeartbeats 1000000
set_option pp.deepTerms true
open PySem PySem.Spec PyProof.Rows L2
/-- go on as far as nothing is open -/
local macro_rules | `(tactic| walk_at "go") => `(tactic| repeat (first
  | with_reducible refine w_seq ?_ | with_reducible refine w_next ?_ | with_reducible refine w_set ?_ | with_reducible refine w_drop ?_ | with_reducible refine w_ret ?_ | with_reducible refine w_retN ?_
  | with_reducible refine w_if ?_ | ((with_reducible refine' w_var ?hv ?_); (case hv => exact rfl)) | with_reducible refine w_c ?_ | with_reducible refine w_nil ?_ | with_reducible refine w_cons ?_ | with_reducible refine w_op ?_ | with_reducible refine w_un ?_
  | with_reducible refine w_test ?_ | with_reducible refine w_tB ?_ | with_reducible refine w_not ?_ | with_reducible refine w_and ?_ | with_reducible refine w_or ?_ | with_reducible refine w_bl ?_
  | with_reducible refine w_andV ?_ | with_reducible refine w_orV ?_ | with_reducible refine w_notV ?_ | with_reducible refine w_ifE ?_ | with_reducible refine w_chain ?_ | with_reducible refine w_i0 ?_
  | with_reducible refine w_call ?_ | with_reducible refine w_callS ?_ | with_reducible refine w_cB ?_ | with_reducible refine w_tup ?_ | with_reducible refine w_lst ?_ | with_reducible refine w_fldV ?_
  | with_reducible refine w_neF ?_ | with_reducible refine w_neT ?_ | with_reducible refine w_notN ?_ | with_reducible refine w_isN ?_ | with_reducible refine w_gname ?_ | with_reducible refine w_gsub ?_ | with_reducible refine w_asg ?_ | with_reducible refine w_sl ?_ | with_reducible refine w_noP ?_ | with_reducible refine w_int1 ?_ | with_reducible refine w_part ?_ | with_reducible refine w_meth ?_ | with_reducible refine w_din ?_ | with_reducible refine w_dnotin ?_ | with_reducible refine w_dgt ?_ | with_reducible refine w_dget1 ?_ | with_reducible refine w_dget2 ?_ | with_reducible refine w_dput ?_ | with_reducible refine w_yes ?_ | with_reducible refine w_nT ?_ | with_reducible refine w_nF ?_ | with_reducible refine w_iteT ?_ | with_reducible refine w_iteF ?_))
namespace L2
open PySem PySem.Spec PyProof.Rows
theorem valV_append {κ : Type} [DecidableEq κ] {a b : List (κ × V)} {k : κ} : valV (a ++ b) k = (valV a k).or (valV b k) := by
  induction a with
  | nil => rfl
  | cons p r ih =>
    by_cases e : p.1 = k
    · rw [List.cons_append, valV_pos e, valV_pos e]; rfl
    · rw [List.cons_append, valV_neg e, valV_neg e, ih]
end L2
namespace K3
/-- the question of this name among a form's rows -/
def formQ (rs : List Rw) (z : Str) : Option Rw := (qsOf (Rws.flat rs none 0)).find? fun r => decide (r.name = z)
def inRd (rs : List Rw) (z : Str) : Bool := repB (Rws.flat rs none 0) z
def qNames (rs : List Rw) : List Str := (qsOf (Rws.flat rs none 0)).map Rw.name
theorem formQ_names {rs : List Rw} {z : Str} : (formQ rs z).isSome = decide (z ∈ qNames rs) := by
  unfold formQ qNames
  induction qsOf (Rws.flat rs none 0) with
  | nil => rfl
  | cons r qs ih =>
    rw [List.find?_cons, List.map_cons]
    by_cases e : r.name = z
    · rw [e]; simp
    · rw [decide_eq_false e]
      rw [ih]
      exact decide_eq_decide.mpr ⟨fun h => List.mem_cons_of_mem _ h, fun h => (List.mem_cons.mp h).resolve_left fun q => e q.symm⟩
theorem formQ_isQ {rs : List Rw} {z : Str} {r : Rw} (h : formQ rs z = some r) : r.isQ = true ∧ r.name = z ∧ r ∈ qsOf (Rws.flat rs none 0) := by
  have h1 := List.find?_some h
  have h2 := List.mem_of_find?_eq_some h
  refine ⟨?_, of_decide_eq_true h1, h2⟩
  obtain ⟨e, _, h3⟩ := List.mem_filterMap.mp h2
  cases hq : e.1.isQ with
  | false => rw [hq] at h3; cases h3
  | true =>
    rw [hq, if_pos rfl] at h3
    rw [← Option.some.inj h3]
    exact hq
/-! ### what a form that is made has been checked for -/
theorem thenF_inv {a b : Option Flt} (h : thenF a b = none) : a = none ∧ b = none := by
  cases a with
  | none => exact ⟨rfl, h⟩
  | some f => cases h
theorem nameF_inv {z : Str} (h : nameF z = none) : isName z = true := by
  unfold nameF at h
  cases hz : isName z with
  | true => rfl
  | false => rw [hz] at h; cases h
theorem namesF_inv : ∀ {os : List Str}, namesF os = none → ∀ o ∈ os, isName o = true
  | [], _, _, h => by cases h
  | z :: r, h, o, ho => by
    obtain ⟨h1, h2⟩ := thenF_inv (show thenF (nameF z) (namesF r) = none from h)
    rcases List.mem_cons.mp ho with rfl | ho
    · exact nameF_inv h1
    · exact namesF_inv h2 o ho
theorem optF_inv {os : List Str} {m : Nat} (h : optF os m = none) : 1 ≤ os.length ∧ os.length ≤ m ∧ ∀ o ∈ os, isName o = true := by
  unfold optF at h
  split at h
  · rename_i c
    exact ⟨c.1, c.2, namesF_inv (thenF_inv h).1⟩
  · cases h
theorem ck_mem : ∀ {F : List (Rw × Option Nat)} {L : AL}, ckRows L F = none → ∀ e ∈ F, ∃ L', ckRow L' e.1 e.2 = none
  | (r, ar) :: F, L, h, e, he => by
    obtain ⟨h1, h2⟩ := thenF_inv (show thenF (ckRow L r ar) (ckRows (if r.isN then L ++ [(r.name, r, ar)] else L) F) = none from h)
    rcases List.mem_cons.mp he with rfl | he
    · exact ⟨L, h1⟩
    · exact ck_mem h2 e he
theorem formF_inv {rs : List Rw} (h : formF rs = none) : 1 ≤ Rws.cnt rs ∧ Rws.cnt rs ≤ 40 ∧ ckRows [] (Rws.flat rs none 0) = none := by
  unfold formF at h
  split at h
  · rename_i c
    exact ⟨c.1, c.2, h⟩
  · cases h
theorem form_row {rs : List Rw} (h : formF rs = none) {e : Rw × Option Nat} (he : e ∈ Rws.flat rs none 0) : (e.1.isN = true → isName e.1.name = true) ∧ e.1.opts.length ≤ 6 ∧ ∀ o ∈ e.1.opts, isName o = true := by
  obtain ⟨L, hc⟩ := ck_mem (formF_inv h).2.2 e he
  obtain ⟨h1, hc⟩ := thenF_inv (show thenF _ _ = none from hc)
  obtain ⟨h2, _⟩ := thenF_inv hc
  refine ⟨fun hn => ?_, ?_⟩
  · unfold ckName at h1
    rw [hn, if_pos rfl] at h1
    exact nameF_inv (thenF_inv h1).1
  · cases hr : e.1 with
    | one n os w =>
      rw [hr] at h2
      obtain ⟨_, b, c⟩ := optF_inv (show optF os 6 = none from h2)
      exact ⟨b, c⟩
    | some n os w =>
      rw [hr] at h2
      obtain ⟨_, b, c⟩ := optF_inv (show optF os 4 = none from h2)
      exact ⟨Nat.le_trans b (by decide), c⟩
    | _ => exact ⟨Nat.zero_le _, fun o h => nomatch h⟩
theorem name_ok {z : Str} (h : isName z = true) : PySem.PyData.strOk z = true ∧ z.length ≤ 8 := by
  unfold isName at h
  obtain ⟨_, h⟩ := Bool.and_eq_true_iff.mp h
  obtain ⟨h8, h⟩ := Bool.and_eq_true_iff.mp h
  refine ⟨?_, of_decide_eq_true h8⟩
  have key : ∀ c : Nat, (decide (c ∈ lets.cps.toList) || decide (c ∈ figs.cps.toList)) = true → c < 0x110000 := by
    have a : ∀ c ∈ lets.cps.toList ++ figs.cps.toList, c < 0x110000 := by decide +kernel
    intro c hc
    rcases Bool.or_eq_true_iff.mp hc with hc | hc
    · exact a c (List.mem_append_left _ (of_decide_eq_true hc))
    · exact a c (List.mem_append_right _ (of_decide_eq_true hc))
  have : z.cps.toList.all (fun c => decide (c < 0x110000)) = true := by
    cases hl : z.cps.toList with
    | nil => rfl
    | cons c r =>
      rw [hl] at h
      obtain ⟨_, h⟩ := Bool.and_eq_true_iff.mp h
      exact List.all_eq_true.mpr fun x hx => decide_eq_true (key x (List.all_eq_true.mp h x hx))
  unfold PySem.PyData.strOk
  rw [← Array.all_toList]
  exact this
theorem form_q {rs : List Rw} (h : formF rs = none) {z : Str} {r : Rw} (hr : formQ rs z = some r) : r.opts.length ≤ 1000 ∧ ∀ o ∈ r.opts, PySem.PyData.strOk o = true := by
  obtain ⟨_, _, hm⟩ := formQ_isQ hr
  obtain ⟨e, he, h3⟩ := List.mem_filterMap.mp hm
  have : e.1 = r := by
    split at h3
    · exact Option.some.inj h3
    · cases h3
  obtain ⟨_, b, c⟩ := form_row h he
  rw [this] at b c
  exact ⟨Nat.le_trans b (by decide), fun o ho => (name_ok (c o ho)).1⟩
/-- a form that was made of the rows rs -/
structure FormO (K : PySem.W.Frag) (H : Hp) (a : Addr) (rs : List Rw) : Prop where
  ok : formF rs = none
  at_ : ∃ dx t d d2 xs kvs kv2, H a = some (.ins (He.ga K "Form") dx [("rows", .ref t), ("questions", .ref d), ("repeated", .ref d2)]) ∧ SqT K H t xs ∧ ROs K H xs rs ∧
    H d = some (.dK kvs) ∧ Paired (QE K H) kvs (qsOf (Rws.flat rs none 0)) ∧ H d2 = some (.dK kv2) ∧ ∀ z, (valV kv2 (Sum.inr z)).isSome = inRd rs z
theorem FormO.same {K : PySem.W.Frag} {H H' : Hp} (e : Same H H') {a : Addr} {rs : List Rw} (h : FormO K H a rs) : FormO K H' a rs := by
  obtain ⟨o, dx, t, d, d2, xs, kvs, kv2, h1, h2, h3, h4, h5, h6, h7⟩ := h
  exact ⟨o, dx, t, d, d2, xs, kvs, kv2, e _ _ h1, e.sqt h2, ROs.same e h3, e _ _ h4, L2.Paired.mapP h5 fun _ _ z => ⟨z.1, RO.same e z.2⟩, e _ _ h6, h7⟩
theorem qe_val {K : PySem.W.Frag} {H : Hp} {z : Str} : ∀ {kvs : List (Key × V)} {qs : List Rw}, Paired (QE K H) kvs qs → match qs.find? fun r => decide (r.name = z) with
    | some r => ∃ v, valV kvs (Sum.inr z) = some v ∧ RO K H v r
    | none => valV kvs (Sum.inr z) = none
  | _, _, .nil => rfl
  | _, _, .cons (a := kv) (b := r) h t => by
    rw [List.find?_cons]
    by_cases e : r.name = z
    · rw [decide_eq_true e]
      exact ⟨kv.2, valV_pos (by rw [h.1, e]), h.2⟩
    · rw [decide_eq_false e]
      have ne : ¬ kv.1 = Sum.inr z := by rw [h.1]; exact fun q => e (Sum.inr.inj q)
      have ih := qe_val (z := z) t
      dsimp only
      split
      · rename_i r' hr
        rw [hr] at ih
        obtain ⟨v, h1, h2⟩ := ih
        exact ⟨v, by rw [valV_neg ne]; exact h1, h2⟩
      · rename_i hr
        rw [hr] at ih
        rw [valV_neg ne]
        exact ih
theorem qe_keys {K : PySem.W.Frag} {H : Hp} : ∀ {kvs : List (Key × V)} {qs : List Rw}, Paired (QE K H) kvs qs → kvs.map (fun kv => kV kv.1) = (qs.map Rw.name).map V.str
  | _, _, .nil => rfl
  | _, _, .cons h t => by rw [List.map_cons, List.map_cons, List.map_cons, qe_keys t, h.1]; rfl
def spNames (K : PySem.W.Frag) : Sp := fun vs H Q _ => ∃ (a : Addr) (rs : List Rw), vs = [.ref a] ∧ FormO K H a rs ∧ ∀ p H', Same H H' → H p = none → H' p = some (.lst ((qNames rs).map V.str)) → Q (.ref p) H'
def spQuestion (K : PySem.W.Frag) : Sp := fun vs H Q E => ∃ (a : Addr) (z : Str) (rs : List Rw), vs = [.ref a, .str z] ∧ FormO K H a rs ∧ match formQ rs z with
  | some r => ∀ v H', Same H H' → RO K H v r → Q v H'
  | none => ∀ cls d H', Same H H' → IsF K (.quest z) cls d H' → E cls d H'
def spInRd (K : PySem.W.Frag) : Sp := fun vs H Q _ => ∃ (a : Addr) (z : Str) (rs : List Rw), vs = [.ref a, .str z] ∧ FormO K H a rs ∧ ∀ H', Same H H' → Q (.bl (inRd rs z)) H'
def spHasQ (K : PySem.W.Frag) : Sp := fun vs H Q _ => ∃ (a : Addr) (z : Str) (rs : List Rw), vs = [.ref a, .str z] ∧ FormO K H a rs ∧ ∀ H', Same H H' → Q (.bl (formQ rs z).isSome) H'
/-- whether an answer fits the form's question at its spot -/
def belB (rs : List Rw) (n : Str) (k : Int) (x : An) : Bool := match formQ rs n with
  | none => false
  | some r => (inRd rs n == decide (k ≠ 0)) && r.ans x
def SpotAt (H : Hp) (v : V) (s : Str × Int) : Prop := ∃ p, v = .ref p ∧ H p = some (.tup [.str s.1, .int s.2])
theorem SpotAt.same {H H' : Hp} (e : Same H H') {v : V} {s : Str × Int} (h : SpotAt H v s) : SpotAt H' v s := let ⟨p, h1, h2⟩ := h; ⟨p, h1, e _ _ h2⟩
def spBelongs (K : PySem.W.Frag) : Sp := fun vs H Q _ => ∃ (sv v : V) (a : Addr) (s : Str × Int) (x : An) (rs : List Rw), vs = [sv, v, .ref a] ∧ SpotAt H sv s ∧ AnO H v x ∧ x.ok ∧ FormO K H a rs ∧ ∀ H', Same H H' → Q (.bl (belB rs s.1 s.2 x)) H'
section
variable {P : Program} {w : World} {K : PySem.W.Frag} {mg : Str → Option Value} {base : Heap}
theorem sc_Form_names : FnScope ["self"] ["self"] (defScope s_Form_names) := ⟨rfl, rfl, rfl, by decide +kernel, rfl, by decide +kernel, by decide +kernel⟩
theorem ok_Form_names (T : Tx K mg) : Ok P w K mg base 1 (He.ma K (He.ga K "Form") "names") ["self"] (spNames K) := by
  obtain ⟨fd, F⟩ := T.f_Form_names
  refine ⟨fd, F.ok (k := 0) sc_Form_names (fun vs H Q E h => ?_) (fun cdv A outer s_ H vs Q E hr h => ?_), F.bindsN fun _ _ _ _ _ _ us hl => match us, hl with | [_], _ => rfl, F.kp⟩
  · obtain ⟨a, rs, rfl, hf, q⟩ := h
    rfl
  obtain ⟨a, rs, rfl, hf, q⟩ := h
  have hu65 := K3.Room.units65 hr
  have hu70 := K3.Room.units70 hr
  have hu4 := K3.Room.units4 hr
  have hu64 := Nat.lt_of_succ_lt hu65
  have hu0 := Nat.lt_of_le_of_lt (Nat.le_add_right _ 65) hu65
  have hu1 := Nat.lt_of_le_of_lt (Nat.add_le_add_left (show 1 ≤ 65 by decide) _) hu65
  refine ⟨_, pss_one (ps_ret (pe_callTy (call_list_dK (by rfl)) (by rfl) T.z_list (by decide +kernel) (pa_cons (pe_fld (pv 0) rfl) pa_nil))), ?_⟩
  obtain ⟨hok, dx, t, d, d2, xs, kvs, kv2, h1, h2, h3, h4, h5, h6, h7⟩ := hf
  walk_at "go"
  refine ⟨a, _, dx, _, _, rfl, h1, T.cl_Form, T.n_Form_questions, rfl, ?_⟩
  walk_at "go"
  refine ⟨d, kvs, rfl, h4, fun p hp => ?_⟩
  refine q p _ (Same.new hp _) hp ?_
  rw [upd_same, qe_keys h5]
  rfl
theorem sc_Form_question : FnScope ["self", "name"] ["self", "name"] (defScope s_Form_question) := ⟨rfl, rfl, rfl, by decide +kernel, rfl, by decide +kernel, by decide +kernel⟩
theorem ok_Form_question (T : Tx K mg) : Ok P w K mg base 3 (He.ma K (He.ga K "Form") "question") ["self", "name"] (spQuestion K) := by
  obtain ⟨fd, F⟩ := T.f_Form_question
  refine ⟨fd, F.ok (k := 2) sc_Form_question (fun vs H Q E h => ?_) (fun cdv A outer s_ H vs Q E hr h => ?_), F.bindsN fun _ _ _ _ _ _ us hl => match us, hl with | [_, _], _ => rfl, F.kp⟩
  · obtain ⟨a, z, rs, rfl, hf, q⟩ := h
    rfl
  obtain ⟨a, z, rs, rfl, hf, q⟩ := h
  have hu65 := K3.Room.units65 hr
  have hu70 := K3.Room.units70 hr
  have hu4 := K3.Room.units4 hr
  have hu64 := Nat.lt_of_succ_lt hu65
  have hu0 := Nat.lt_of_le_of_lt (Nat.le_add_right _ 65) hu65
  have hu1 := Nat.lt_of_le_of_lt (Nat.add_le_add_left (show 1 ≤ 65 by decide) _) hu65
  refine ⟨_, pss_cons (ps_if (pt_cmp (pc_dnotin hu1 (pv 1) (pe_fld (pv 0) rfl))) (pss_one (ps_err1 (T.err (x := "NoQuestion") (by decide)) T.m_NoQuestion_init (ok_NoQuestion T) (hr.mono (by omega)) T.g_NoQuestion (takes_of rfl rfl rfl rfl) (pv 1))) pss_nil)
      (pss_one (ps_ret (pe_dget hu1 (pe_fld (pv 0) rfl) (pv 1) (fun _ _ => rfl)))), ?_⟩
  obtain ⟨hok, dx, t, d, d2, xs, kvs, kv2, h1, h2, h3, h4, h5, h6, h7⟩ := hf
  have qv := qe_val (z := z) h5
  walk_at "go"
  refine ⟨a, _, dx, _, _, rfl, h1, T.cl_Form, T.n_Form_questions, rfl, ?_⟩
  refine ⟨d, _, rfl, DGet.k (k := Sum.inr z) h4, ?_⟩
  unfold formQ at q
  cases hf : (qsOf (Rws.flat rs none 0)).find? fun r => decide (r.name = z) with
  | some r =>
    rw [hf] at q qv
    obtain ⟨v, hv, hr0⟩ := qv
    rw [hv]
    refine ⟨_, rfl, ?_⟩
    show if false = true then _ else _
    walk_at "go"
    refine ⟨a, _, dx, _, _, rfl, h1, T.cl_Form, T.n_Form_questions, rfl, ?_⟩
    walk_at "go"
    refine ⟨d, v, rfl, hv ▸ DGet.k (k := Sum.inr z) h4, ?_⟩
    exact q v H (Same.refl _) hr0
  | none =>
    rw [hf] at q qv
    rw [qv]
    refine ⟨_, rfl, ?_⟩
    show if true = true then _ else _
    walk_at "go"
    refine w_err1 ?_
    walk_at "go"
    exact gErr1_of fun d' H2 e2 h2 => q _ _ H2 e2 ⟨rfl, d', rfl, h2⟩
theorem sc_has_question : FnScope ["form", "name"] ["form", "name"] (defScope s_has_question) := ⟨rfl, rfl, rfl, by decide +kernel, rfl, by decide +kernel, by decide +kernel⟩
theorem ok_has_question (T : Tx K mg) : Ok P w K mg base 2 (He.ga K "has_question") ["form", "name"] (spHasQ K) := by
  obtain ⟨fd, F⟩ := T.f_has_question
  have OMnames := ok_Form_names (P := P) (w := w) (base := base) T
  refine ⟨fd, F.ok (k := 1) sc_has_question (fun vs H Q E h => ?_) (fun cdv A outer s_ H vs Q E hr h => ?_), F.bindsN fun _ _ _ _ _ _ us hl => match us, hl with | [_, _], _ => rfl, F.kp⟩
  · obtain ⟨a, z, rs, rfl, hf, q⟩ := h
    rfl
  obtain ⟨a, z, rs, rfl, hf, q⟩ := h
  have hu65 := K3.Room.units65 hr
  have hu70 := K3.Room.units70 hr
  have hu4 := K3.Room.units4 hr
  have hu64 := Nat.lt_of_succ_lt hu65
  have hu0 := Nat.lt_of_le_of_lt (Nat.le_add_right _ 65) hu65
  have hu1 := Nat.lt_of_le_of_lt (Nat.add_le_add_left (show 1 ≤ 65 by decide) _) hu65
  have rMnames : Room 1 _ := hr.mono (by decide)
  refine ⟨_, pss_one (ps_ret (pe_cmpR op_in_seq (pv 1) (pe_mO0 OMnames rMnames T.cl_Form T.m_Form_names (pv 0)) rfl)), ?_⟩
  walk_at "go"
  obtain ⟨hok, dx, t, d, d2, xs, kvs, kv2, h1, _⟩ := id hf
  refine ⟨a, dx, _, rfl, h1, rfl, ?_⟩
  walk_at "go"
  refine ⟨a, rs, rfl, hf, fun p H1 e1 _ hp => ?_⟩
  refine ⟨p, _, rfl, .inl (SqL.of hp), rfl, flat_strs _, ?_⟩
  show Q (.bl (inV (.str z) _)) H1
  rw [inV_strs, ← formQ_names]
  exact q H1 e1
end
end K3
end Q2_part
section Q3_part
set_option Elab.async false
set_option linter.all false
set_option maxRecDepth 100000
set_option maxHeartbeats 1000000
set_option pp.deepTerms true
open PySem PySem.Spec PyProof.Rows L2
/-- go on as far as nothing is open -/
local macro_rules | `(tactic| walk_at "go") => `(tactic| repeat (first
  | with_reducible refine w_seq ?_ | with_reducible refine w_next ?_ | with_reducible refine w_set ?_ | with_reducible refine w_drop ?_ | with_reducible refine w_ret ?_ | with_reducible refine w_retN ?_
  | with_reducible refine w_if ?_ | ((with_reducible refine' w_var ?hv ?_); (case hv => exact rfl)) | with_reducible refine w_c ?_ | with_reducible refine w_nil ?_ | with_reducible refine w_cons ?_ | with_reducible refine w_op ?_ | with_reducible refine w_un ?_
  | with_reducible refine w_test ?_ | with_reducible refine w_tB ?_ | with_reducible refine w_not ?_ | with_reducible refine w_and ?_ | with_reducible refine w_or ?_ | with_reducible refine w_bl ?_
  | with_reducible refine w_andV ?_ | with_reducible refine w_orV ?_ | with_reducible refine w_notV ?_ | with_reducible refine w_ifE ?_ | with_reducible refine w_chain ?_ | with_reducible refine w_i0 ?_
  | with_reducible refine w_call ?_ | with_reducible refine w_callS ?_ | with_reducible refine w_cB ?_ | with_reducible refine w_tup ?_ | with_reducible refine w_lst ?_ | with_reducible refine w_fldV ?_
  | with_reducible refine w_neF ?_ | with_reducible refine w_neT ?_ | with_reducible refine w_notN ?_ | with_reducible refine w_isN ?_ | with_reducible refine w_gname ?_ | with_reducible refine w_gsub ?_ | with_reducible refine w_asg ?_ | with_reducible refine w_sl ?_ | with_reducible refine w_noP ?_ | with_reducible refine w_int1 ?_ | with_reducible refine w_part ?_ | with_reducible refine w_meth ?_ | with_reducible refine w_din ?_ | with_reducible refine w_dnotin ?_ | with_reducible refine w_dgt ?_ | with_reducible refine w_dget1 ?_ | with_reducible refine w_dget2 ?_ | with_reducible refine w_dput ?_ | with_reducible refine w_yes ?_ | with_reducible refine w_nT ?_ | with_reducible refine w_nF ?_ | with_reducible refine w_iteT ?_ | with_reducible refine w_iteF ?_))
namespace K3
/-! ### answers by their spots -/
abbrev Spot := Str × Int
abbrev Ans := List (Spot × An)
def keyOf (s : Spot) : List Key := [Sum.inr s.1, Sum.inl s.2]
theorem keyOf_inj {s t : Spot} (h : keyOf s = keyOf t) : s = t := by
  unfold keyOf at h
  simp only [List.cons.injEq, Sum.inr.injEq, Sum.inl.injEq, and_true] at h
  exact Prod.ext h.1 h.2
def EN (H : Hp) (kv : List Key × V) (x : Spot × An) : Prop := kv.1 = keyOf x.1 ∧ AnO H kv.2 x.2 ∧ x.2.ok
def lookA (al : Ans) (s : Spot) : Option An := (al.find? fun y => decide (y.1 = s)).map (·.2)
def putA (al : Ans) (s : Spot) (x : An) : Ans := if (lookA al s).isSome then al.map (fun y => if y.1 = s then (y.1, x) else y) else al ++ [(s, x)]
/-- all but the tuples' dicts stands -/
def NT (H H' : Hp) : Prop := ∀ b o, (∀ kvs, o ≠ .dT kvs) → H b = some o → H' b = some o
theorem Same.nt {H H' : Hp} (e : Same H H') : NT H H' := fun b o _ h => e b o h
theorem NT.trans {H H1 H2 : Hp} (a : NT H H1) (b : NT H1 H2) : NT H H2 := fun c o n h => b c o n (a c o n h)
theorem NT.si {H H' : Hp} (e : NT H H') : SI H H' := fun b o k h => e b o (fun kvs z => by rw [z] at k; cases k) h
theorem NT.upd {H : Hp} {d : Addr} {kvs : List (List Key × V)} (h : H d = some (.dT kvs)) (o : HO) : NT H (L2.upd H d o) := fun b u n q => by
  rw [upd_ne (fun z => by rw [z, h] at q; exact n kvs (Option.some.inj q).symm)]
  exact q
theorem AnO.nt {H H' : Hp} (e : NT H H') {v : V} {x : An} (h : AnO H v x) : AnO H' v x := by
  cases h with
  | str => exact .str _
  | int => exact .int _
  | bl => exact .bl _
  | non => exact .non
  | tup h => exact .tup (e _ _ (fun _ z => nomatch z) h)
theorem AnO.keep {H H' : Hp} (k : ∀ c xs, H c = some (.tup xs) → H' c = some (.tup xs)) {v : V} {x : An} (h : AnO H v x) : AnO H' v x := by
  cases h with
  | str => exact .str _
  | int => exact .int _
  | bl => exact .bl _
  | non => exact .non
  | tup h => exact .tup (k _ _ h)
theorem SqT.nt {K : PySem.W.Frag} {H H' : Hp} (e : NT H H') {a : Addr} {xs : List V} (h : SqT K H a xs) : SqT K H' a xs := e.si.sqt h
theorem SpotAt.nt {H H' : Hp} (e : NT H H') {v : V} {s : Spot} (h : SpotAt H v s) : SpotAt H' v s := let ⟨p, h1, h2⟩ := h; ⟨p, h1, e _ _ (fun _ z => nomatch z) h2⟩
theorem FormO.nt {K : PySem.W.Frag} {H H' : Hp} (e : NT H H') {a : Addr} {rs : List Rw} (h : FormO K H a rs) : FormO K H' a rs := by
  obtain ⟨o, dx, t, d, d2, xs, kvs, kv2, h1, h2, h3, h4, h5, h6, h7⟩ := h
  exact ⟨o, dx, t, d, d2, xs, kvs, kv2, e _ _ (fun _ z => nomatch z) h1, e.si.sqt h2, ROs.si e.si h3, e _ _ (fun _ z => nomatch z) h4, L2.Paired.mapP h5 fun _ _ z => ⟨z.1, RO.si e.si z.2⟩, e _ _ (fun _ z => nomatch z) h6, h7⟩
theorem EN.keep {H H' : Hp} (k : ∀ c xs, H c = some (.tup xs) → H' c = some (.tup xs)) {kv : List Key × V} {x : Spot × An} (h : EN H kv x) : EN H' kv x := ⟨h.1, h.2.1.keep k, h.2.2⟩
theorem EN.nt {H H' : Hp} (e : NT H H') {kv : List Key × V} {x : Spot × An} (h : EN H kv x) : EN H' kv x := ⟨h.1, h.2.1.nt e, h.2.2⟩
/-- answers by their spots, in a dict at d -/
structure AD (H : Hp) (d : Addr) (kvs : List (List Key × V)) (al : Ans) : Prop where
  ents : Paired (EN H) kvs al
  nd : (al.map (·.1)).Nodup
theorem AD.nt {H H' : Hp} (e : NT H H') {d : Addr} {kvs : List (List Key × V)} {al : Ans} (h : AD H d kvs al) : AD H' d kvs al := ⟨L2.Paired.mapP h.ents fun _ _ z => z.nt e, h.nd⟩
theorem en_val {H : Hp} {s : Spot} : ∀ {kvs : List (List Key × V)} {al : Ans}, Paired (EN H) kvs al → match lookA al s with
    | some x => ∃ v, valV kvs (keyOf s) = some v ∧ AnO H v x ∧ x.ok
    | none => valV kvs (keyOf s) = none
  | _, _, .nil => rfl
  | _, _, .cons (a := kv) (b := y) h t => by
    unfold lookA
    rw [List.find?_cons]
    by_cases e : y.1 = s
    · rw [decide_eq_true e]
      exact ⟨kv.2, valV_pos (by rw [h.1, e]), h.2.1, h.2.2⟩
    · rw [decide_eq_false e]
      have ne : ¬ kv.1 = keyOf s := by rw [h.1]; exact fun q => e (keyOf_inj q)
      have ih := en_val (s := s) t
      rw [valV_neg ne]
      exact ih
theorem en_put {H : Hp} {kvs : List (List Key × V)} {al : Ans} {s : Spot} {v : V} {x : An} (h : Paired (EN H) kvs al) (hv : AnO H v x) (hx : x.ok) : Paired (EN H) (putK kvs (keyOf s) v) (putA al s x) := by
  have e : (kvs.any fun kv => decide (kv.1 = keyOf s)) = (lookA al s).isSome := by
    rw [valV_any]
    have := en_val (s := s) h
    cases hl : lookA al s with
    | none => rw [hl] at this; rw [this]; rfl
    | some y => rw [hl] at this; obtain ⟨u, hu, _⟩ := this; rw [hu]; rfl
  unfold putK putA
  rw [e]
  by_cases c : (lookA al s).isSome = true
  · rw [if_pos c, if_pos c]
    clear e c
    induction h with
    | nil => exact .nil
    | @cons kv y kvs al g _ ih =>
      rw [List.map_cons, List.map_cons]
      refine .cons ?_ ih
      by_cases k : y.1 = s
      · rw [if_pos k, if_pos (show kv.1 = keyOf s by rw [g.1, k])]
        exact ⟨g.1, hv, hx⟩
      · rw [if_neg k, if_neg (show ¬ kv.1 = keyOf s by rw [g.1]; exact fun q => k (keyOf_inj q))]
        exact g
  · rw [if_neg c, if_neg c]
    exact K3.Paired.app h (.cons ⟨rfl, hv, hx⟩ .nil)
theorem look_mem {al : Ans} {s : Spot} (h : lookA al s = none) : s ∉ al.map (·.1) := by
  intro z
  obtain ⟨y, hy, e⟩ := List.mem_map.mp z
  unfold lookA at h
  rw [Option.map_eq_none_iff, List.find?_eq_none] at h
  exact h y hy (decide_eq_true e)
theorem put_keys {al : Ans} {s : Spot} {x : An} : (putA al s x).map (·.1) = if (lookA al s).isSome then al.map (·.1) else al.map (·.1) ++ [s] := by
  unfold putA
  split
  · rw [List.map_map]
    congr 1
    funext y
    show (if y.1 = s then (y.1, x) else y).1 = y.1
    split <;> rfl
  · rw [List.map_append]
    rfl
theorem put_nd {al : Ans} {s : Spot} {x : An} (h : (al.map (·.1)).Nodup) : ((putA al s x).map (·.1)).Nodup := by
  rw [put_keys]
  split
  · exact h
  · rename_i c
    refine nodup_snoc h (look_mem ?_)
    cases e : lookA al s with
    | none => rfl
    | some y => rw [e] at c; exact absurd rfl c
theorem put_len {al : Ans} {s : Spot} {x : An} : (putA al s x).length ≤ al.length + 1 := by
  unfold putA
  split
  · rw [List.length_map]; omega
  · rw [List.length_append]; exact Nat.le_refl _
theorem look_at {al : Ans} (nd : (al.map (·.1)).Nodup) {i : Nat} {y : Spot × An} (h : al[i]? = some y) : lookA al y.1 = some y.2 := by
  induction al generalizing i with
  | nil => simp at h
  | cons z al ih =>
    rw [List.map_cons, List.nodup_cons] at nd
    unfold lookA
    rw [List.find?_cons]
    cases i with
    | zero =>
      have e : z = y := by simpa using h
      subst e
      simp
    | succ i =>
      have h' : al[i]? = some y := by simpa using h
      have ne : ¬ z.1 = y.1 := fun q => nd.1 (q ▸ List.mem_map_of_mem (List.mem_of_getElem? h'))
      rw [decide_eq_false ne]
      exact ih nd.2 h'
theorem val_at {H : Hp} {kvs : List (List Key × V)} {al : Ans} (nd : (al.map (·.1)).Nodup) (h : Paired (EN H) kvs al) {i : Nat} {k : List Key} {v : V} {y : Spot × An} (hk : kvs[i]? = some (k, v)) (hy : al[i]? = some y) : valV kvs (keyOf y.1) = some v := by
  induction h generalizing i with
  | nil => simp at hk
  | @cons kv z kvs al g _ ih =>
    rw [List.map_cons, List.nodup_cons] at nd
    cases i with
    | zero =>
      have e1 : kv = (k, v) := by simpa using hk
      have e2 : z = y := by simpa using hy
      subst e1 e2
      exact valV_pos g.1
    | succ i =>
      have h2 : al[i]? = some y := by simpa using hy
      have ne : ¬ kv.1 = keyOf y.1 := by rw [g.1]; exact fun q => nd.1 (keyOf_inj q ▸ List.mem_map_of_mem (List.mem_of_getElem? h2))
      rw [valV_neg ne]
      exact ih nd.2 (by simpa using hk) h2
theorem DGet.tf {H : Hp} {a b : Addr} {kvs : List (List Key × V)} {k : List Key} (e : Rd H a (.dT kvs)) (eb : H b = some (.tup (k.map kV))) : DGet H a (.ref b) (valV kvs k) := .inr ⟨kvs, k, b, e, rfl, eb, rfl⟩
/-- what the question old is called -/
def newOf (cs : List (Str × Str)) (z : Str) : Option Str := (cs.reverse.find? fun c => decide (c.1 = z)).map (·.2)
def stepA (cs : List (Str × Str)) (acc : Ans) (y : Spot × An) : Ans := match newOf cs y.1.1 with
  | some n => putA acc (n, y.1.2) y.2
  | none => if y.1.1 ∈ cs.map (·.2) then acc else putA acc y.1 y.2
def calledF (cs : List (Str × Str)) (al : Ans) : Ans := al.foldl (stepA cs) []
/-- an edition's number, rows and calls -/
structure Ed where
  num : Int
  rs : List Rw
  cs : List (Str × Str)
def ledF (al : Ans) (e : Ed) : Ans := (calledF e.cs al).filter fun y => belB e.rs y.1.1 y.1.2 y.2
theorem newOf_take {cs : List (Str × Str)} {i : Nat} {c : Str × Str} (h : cs[i]? = some c) (z : Str) : newOf (cs.take (i + 1)) z = if c.1 = z then some c.2 else newOf (cs.take i) z := by
  unfold newOf
  rw [List.take_add_one, h]
  show (((cs.take i ++ [c]).reverse).find? _).map _ = _
  rw [List.reverse_append, List.reverse_singleton, List.singleton_append, List.find?_cons]
  by_cases e : c.1 = z
  · rw [decide_eq_true e, if_pos e]; rfl
  · rw [decide_eq_false e, if_neg e]
structure CallsO (K : PySem.W.Frag) (H : Hp) (t : Addr) (cs : List (Str × Str)) : Prop where
  at_ : ∃ ps : List Addr, SqT K H t (ps.map V.ref) ∧ Paired (fun p c => SqT K H p [.str c.1, .str c.2]) ps cs
theorem CallsO.nt {K : PySem.W.Frag} {H H' : Hp} (e : NT H H') {t : Addr} {cs : List (Str × Str)} (h : CallsO K H t cs) : CallsO K H' t cs := let ⟨ps, h1, h2⟩ := h.at_; ⟨ps, SqT.nt e h1, L2.Paired.mapP h2 fun _ _ z => SqT.nt e z⟩
theorem CallsO.same {K : PySem.W.Frag} {H H' : Hp} (e : Same H H') {t : Addr} {cs : List (Str × Str)} (h : CallsO K H t cs) : CallsO K H' t cs := h.nt (Same.nt e)
structure EdO (K : PySem.W.Frag) (H : Hp) (a : Addr) (e : Ed) : Prop where
  at_ : ∃ dx f t, H a = some (.ins (He.ga K "Edition") dx [("number", .int e.num), ("form", .ref f), ("calls", .ref t)]) ∧ FormO K H f e.rs ∧ CallsO K H t e.cs
  few : e.cs.length ≤ 1000
theorem EdO.nt {K : PySem.W.Frag} {H H' : Hp} (k : NT H H') {a : Addr} {e : Ed} (h : EdO K H a e) : EdO K H' a e := by
  obtain ⟨⟨dx, f, t, h1, h2, h3⟩, h4⟩ := h
  exact ⟨⟨dx, f, t, k _ _ (fun _ z => nomatch z) h1, h2.nt k, h3.nt k⟩, h4⟩
theorem EdO.same {K : PySem.W.Frag} {H H' : Hp} (k : Same H H') {a : Addr} {e : Ed} (h : EdO K H a e) : EdO K H' a e := h.nt (Same.nt k)
/-- what is told is a new dict of these -/
def RetA (al : Ans) (H : Hp) (Q : VK) : Prop := ∀ p H' kvs, Same H H' → H p = none → H' p = some (.dT kvs) → AD H' p kvs al → Q (.ref p) H'
def spCalled (K : PySem.W.Frag) : Sp := fun vs H Q _ => ∃ (d t : Addr) (kvs : List (List Key × V)) (al : Ans) (cs : List (Str × Str)), vs = [.ref d, .ref t] ∧ H d = some (.dT kvs) ∧ AD H d kvs al ∧ al.length ≤ 10000 ∧ CallsO K H t cs ∧ cs.length ≤ 1000 ∧ RetA (calledF cs al) H Q
def spLed (K : PySem.W.Frag) : Sp := fun vs H Q _ => ∃ (d a : Addr) (kvs : List (List Key × V)) (al : Ans) (e : Ed), vs = [.ref d, .ref a] ∧ H d = some (.dT kvs) ∧ AD H d kvs al ∧ al.length ≤ 10000 ∧ EdO K H a e ∧ RetA (ledF al e) H Q
def spLedOver (K : PySem.W.Frag) : Sp := fun vs H Q _ => ∃ (d l : Addr) (kvs : List (List Key × V)) (al : Ans) (as : List V) (es : List Ed), vs = [.ref d, .ref l] ∧ H d = some (.dT kvs) ∧ AD H d kvs al ∧ al.length ≤ 10000 ∧ SqE K H l as ∧ Paired (fun v e => ∃ a, v = .ref a ∧ EdO K H a e) as es ∧ RetA (es.foldl ledF al) H Q
/-- a dict locked while it is walked, and free again -/
theorem Same.locked {H H' : Hp} {d : Addr} {u : HO} {od : Obj} (h : H d = some u) (e : Same (upd H d (.frz od u)) H') : Same H (upd H' d u) := fun b o q => by
  by_cases c : b = d
  · rw [c] at q ⊢
    rw [upd_same, ← q, h]
  · rw [upd_ne c]
    exact e b o (by rw [upd_ne c]; exact q)
theorem step_nd {cs : List (Str × Str)} {acc : Ans} {y : Spot × An} (h : (acc.map (·.1)).Nodup) : ((stepA cs acc y).map (·.1)).Nodup := by
  unfold stepA
  split
  · exact put_nd h
  · split
    · exact h
    · exact put_nd h
theorem called_nd {cs : List (Str × Str)} {al : Ans} : ((calledF cs al).map (·.1)).Nodup := by
  have : ∀ {al acc : Ans}, (acc.map (·.1)).Nodup → ((al.foldl (stepA cs) acc).map (·.1)).Nodup := by
    intro al
    induction al with
    | nil => exact fun h => h
    | cons y al ih => exact fun h => ih (step_nd h)
  exact this List.nodup_nil
theorem called_len {cs : List (Str × Str)} : ∀ {al acc : Ans}, (al.foldl (stepA cs) acc).length ≤ acc.length + al.length
  | [], acc => Nat.le_refl _
  | y :: al, acc => by
    have h1 := called_len (cs := cs) (al := al) (acc := stepA cs acc y)
    have h2 : (stepA cs acc y).length ≤ acc.length + 1 := by
      unfold stepA
      split
      · exact put_len
      · split
        · omega
        · exact put_len
    rw [List.foldl_cons, List.length_cons]
    omega
theorem led_len {al : Ans} {e : Ed} : (ledF al e).length ≤ al.length := by
  have := called_len (cs := e.cs) (al := al) (acc := [])
  unfold ledF calledF
  refine Nat.le_trans (List.length_filter_le _ _) ?_
  simpa using this
section
variable {P : Program} {w : World} {K : PySem.W.Frag} {mg : Str → Option Value} {base : Heap}
end
end K3
end Q3_part
section Q4_part
set_option Elab.async false
set_option linter.all false
set_option maxRecDepth 100000
set_option maxHeartbeats 1000000
set_option pp.deepTerms true
open PySem PySem.Spec PyProof.Rows L2
/-- go on as far as nothing is open -/
local macro_rules | `(tactic| walk_at "go") => `(tactic| repeat (first
  | with_reducible refine w_seq ?_ | with_reducible refine w_next ?_ | with_reducible refine w_set ?_ | with_reducible refine w_drop ?_ | with_reducible refine w_ret ?_ | with_reducible refine w_retN ?_
  | with_reducible refine w_if ?_ | ((with_reducible refine' w_var ?hv ?_); (case hv => exact rfl)) | with_reducible refine w_c ?_ | with_reducible refine w_nil ?_ | with_reducible refine w_cons ?_ | with_reducible refine w_op ?_ | with_reducible refine w_un ?_
  | with_reducible refine w_test ?_ | with_reducible refine w_tB ?_ | with_reducible refine w_not ?_ | with_reducible refine w_and ?_ | with_reducible refine w_or ?_ | with_reducible refine w_bl ?_
  | with_reducible refine w_andV ?_ | with_reducible refine w_orV ?_ | with_reducible refine w_notV ?_ | with_reducible refine w_ifE ?_ | with_reducible refine w_chain ?_ | with_reducible refine w_i0 ?_
  | with_reducible refine w_call ?_ | with_reducible refine w_callS ?_ | with_reducible refine w_cB ?_ | with_reducible refine w_tup ?_ | with_reducible refine w_lst ?_ | with_reducible refine w_fldV ?_
  | with_reducible refine w_neF ?_ | with_reducible refine w_neT ?_ | with_reducible refine w_notN ?_ | with_reducible refine w_isN ?_ | with_reducible refine w_gname ?_ | with_reducible refine w_gsub ?_ | with_reducible refine w_asg ?_ | with_reducible refine w_sl ?_ | with_reducible refine w_noP ?_ | with_reducible refine w_int1 ?_ | with_reducible refine w_part ?_ | with_reducible refine w_meth ?_ | with_reducible refine w_din ?_ | with_reducible refine w_dnotin ?_ | with_reducible refine w_dgt ?_ | with_reducible refine w_dget1 ?_ | with_reducible refine w_dget2 ?_ | with_reducible refine w_dput ?_ | with_reducible refine w_yes ?_ | with_reducible refine w_nT ?_ | with_reducible refine w_nF ?_ | with_reducible refine w_iteT ?_ | with_reducible refine w_iteF ?_))
namespace K3
section
variable {P : Program} {w : World} {K : PySem.W.Frag} {mg : Str → Option Value} {base : Heap}
theorem filt_take {al : Ans} {f : Spot × An → Bool} {i : Nat} {y : Spot × An} (h : al[i]? = some y) : (al.take (i + 1)).filter f = (al.take i).filter f ++ (if f y = true then [y] else []) := by
  rw [List.take_add_one, h, List.filter_append]
  congr 1
  cases hf : f y <;> simp [hf]
theorem filt_nd {al : Ans} {f : Spot × An → Bool} (h : (al.map (·.1)).Nodup) : ((al.filter f).map (·.1)).Nodup := (List.Sublist.map _ List.filter_sublist).nodup h
theorem put_new {kvs : List (List Key × V)} {k : List Key} {v : V} (h : valV kvs k = none) : putK kvs k v = kvs ++ [(k, v)] := by
  unfold putK
  rw [valV_any, h, if_neg (by decide)]
theorem en_new {H : Hp} {kvs : List (List Key × V)} {al : Ans} {s : Spot} (h : Paired (EN H) kvs al) (n : s ∉ al.map (·.1)) : valV kvs (keyOf s) = none := by
  have := en_val (s := s) h
  have e : lookA al s = none := by
    unfold lookA
    rw [Option.map_eq_none_iff, List.find?_eq_none]
    exact fun y hy z => n (of_decide_eq_true z ▸ List.mem_map_of_mem hy)
  rw [e] at this
  exact this
theorem nd_take {al : Ans} (h : (al.map (·.1)).Nodup) {i : Nat} {y : Spot × An} (hy : al[i]? = some y) {f : Spot × An → Bool} : y.1 ∉ ((al.take i).filter f).map (·.1) := by
  intro z
  obtain ⟨x, hx, e⟩ := List.mem_map.mp z
  obtain ⟨j, hj, hx2⟩ := List.mem_take_iff_getElem.mp (List.mem_filter.mp hx).1
  have li : i < al.length := (List.getElem?_eq_some_iff.mp hy).1
  have hj' : j < i := by omega
  have h1 : (al.map (·.1))[j]? = (al.map (·.1))[i]? := by
    rw [List.getElem?_map, List.getElem?_map, hy, List.getElem?_eq_getElem (show j < al.length by omega), hx2]
    exact congrArg some e
  have := List.getElem_inj h |>.mp (show (al.map (·.1))[j]'(by rw [List.length_map]; omega) = (al.map (·.1))[i]'(by rw [List.length_map]; omega) by
    rw [List.getElem?_eq_getElem (by rw [List.length_map]; omega), List.getElem?_eq_getElem (by rw [List.length_map]; omega)] at h1
    exact Option.some.inj h1)
  omega
end
end K3
end Q4_part
section Q5_part
set_option Elab.async false
set_option linter.all false
set_option maxRecDepth 100000
set_option maxHeartbeats 1000000
set_option pp.deepTerms true
open PySem PySem.Spec PyProof.Rows L2
/-- go on as far as nothing is open -/
local macro_rules | `(tactic| walk_at "go") => `(tactic| repeat (first
  | with_reducible refine w_seq ?_ | with_reducible refine w_next ?_ | with_reducible refine w_set ?_ | with_reducible refine w_drop ?_ | with_reducible refine w_ret ?_ | with_reducible refine w_retN ?_
  | with_reducible refine w_if ?_ | ((with_reducible refine' w_var ?hv ?_); (case hv => exact rfl)) | with_reducible refine w_c ?_ | with_reducible refine w_nil ?_ | with_reducible refine w_cons ?_ | with_reducible refine w_op ?_ | with_reducible refine w_un ?_
  | with_reducible refine w_test ?_ | with_reducible refine w_tB ?_ | with_reducible refine w_not ?_ | with_reducible refine w_and ?_ | with_reducible refine w_or ?_ | with_reducible refine w_bl ?_
  | with_reducible refine w_andV ?_ | with_reducible refine w_orV ?_ | with_reducible refine w_notV ?_ | with_reducible refine w_ifE ?_ | with_reducible refine w_chain ?_ | with_reducible refine w_i0 ?_
  | with_reducible refine w_call ?_ | with_reducible refine w_callS ?_ | with_reducible refine w_cB ?_ | with_reducible refine w_tup ?_ | with_reducible refine w_lst ?_ | with_reducible refine w_fldV ?_
  | with_reducible refine w_neF ?_ | with_reducible refine w_neT ?_ | with_reducible refine w_notN ?_ | with_reducible refine w_isN ?_ | with_reducible refine w_gname ?_ | with_reducible refine w_gsub ?_ | with_reducible refine w_asg ?_ | with_reducible refine w_sl ?_ | with_reducible refine w_noP ?_ | with_reducible refine w_int1 ?_ | with_reducible refine w_part ?_ | with_reducible refine w_meth ?_ | with_reducible refine w_din ?_ | with_reducible refine w_dnotin ?_ | with_reducible refine w_dgt ?_ | with_reducible refine w_dget1 ?_ | with_reducible refine w_dget2 ?_ | with_reducible refine w_dput ?_ | with_reducible refine w_yes ?_ | with_reducible refine w_nT ?_ | with_reducible refine w_nF ?_ | with_reducible refine w_iteT ?_ | with_reducible refine w_iteF ?_))
namespace L2
open PySem PySem.Spec PyProof.Rows
/-- a def whose last parameters are handed in by name, and its promise -/
structure OkK (P : Program) (w : World) (K : PySem.W.Frag) (mg : Str → Option Value) (base : Heap) (k : Nat) (f : Addr) (ps : List Str) (n : Nat) (ks : List Str) (sp : Sp) : Prop where
  run : ∃ fd, FnOk P w K mg base (L2.CX P w) k f fd ps sp ∧ KBn K fd ps n ks (fun us ws => us ++ ws) (fun vs zs => vs ++ zs) ∧ PySem.W.keepIn K (.ref f) = true
theorem kb_of {K : PySem.W.Frag} {x qual : Str} {params : Arguments} {body : List Stmt} {scope : Scope} {f : Addr} {fd : FuncData} {ps ks : List Str} {n : Nat} {dfl : List (Str × V)} (F : FunD K x qual params body scope [] dfl f fd)
    (h : ∀ (kV doc pm : Value) (an : Option Addr) (cdv ct : Value) (us ws : List Value), us.length = n → ws.length = ks.length → bindArgs (PySem.W.fnOf x qual params body scope .none kV doc pm an cdv ct) ⟨us, ks.zip ws⟩ = pure (ps.zip (us ++ ws))) : KBn K fd ps n ks (fun us ws => us ++ ws) (fun vs zs => vs ++ zs) := by
  obtain ⟨oc, od, dV, kV, doc, pm, an, cdv, ct, osl, rfl, lk, hcd, hD, hK⟩ := F.ex
  rcases hD with ⟨_, rfl⟩ | ⟨e, _⟩
  · exact ⟨fun s us ws _ h1 h2 => .of_eq (h kV doc pm an cdv ct us ws h1 h2), fun a b => a.append b⟩
  · exact absurd rfl e
section
variable {X : Cx} {k n : Nat} {f : Addr} {ps ks : List Str} {sp : Sp} {x : Str} {e : Expr} {es : List Expr} {kws : List Keyword} {p pos : Pos} {t tk : TA}
theorem pe_fK (O : OkK X.prog X.w X.K X.mg X.base k f ps n ks sp) (hr : Room k X.A) (hm : X.mg x = some (.ref f)) (ha : PA X (e :: es) t) (hkw : PK X kws tk) (hg : Gl X x := by rfl) (hall : (backToKw pos (keywordEach kws X.env)).all (·.1.isSome) = true := by rfl)
    (hks : (backToKw pos (keywordEach kws X.env)).filterMap (·.1) = ks := by rfl) (hdb : (x == ("__debug__" : Str)) = false := by decide) (he : starEach (e :: es) X.env = (false, eval e X.env) :: starEach es X.env := by rfl)
    (hpl : ((backTo pos (starEach (e :: es) X.env)).any (·.1) || (backToKw pos (keywordEach kws X.env)).any (·.1.isNone)) = false := by rfl) : PE X (.Call (.Name x p) (e :: es) kws pos) (tCallN n ks.length sp (fun vs zs => vs ++ zs) E0 t tk) := by
  obtain ⟨fd, F, b, kp⟩ := O.run
  exact pe_callN F hr hg hm kp b passL ha hkw hall hks hdb he hpl
theorem w_callN {σ : L2.St} {H : Hp} {Q : VK} {E : XK} {m : Nat} (h : t σ H fun vs H1 => tk σ H1 fun zs H2 => vs.length = n ∧ zs.length = m ∧ sp (vs ++ zs) H2 Q E) : tCallN n m sp (fun vs zs => vs ++ zs) E t tk σ H Q := h
end
section
variable {X : Cx} {k : Nat} {f C : Addr} {ps : List Str} {sp : Sp} {x : Str} {e : Expr} {es : List Expr} {p pos : Pos} {t : TA}
/-- C(e, ..), nothing is raised -/
theorem pe_cls (M : Mk X.K C f) (O : Ok X.prog X.w X.K X.mg X.base k f ps sp) (hr : Room (k + 1) X.A) (hm : X.mg x = some (.ref C)) (ha : PA X (e :: es) t) (hg : Gl X x := by rfl) (hdb : (x == ("__debug__" : Str)) = false := by decide)
    (he : starEach (e :: es) X.env = (false, eval e X.env) :: starEach es X.env := by rfl) (hpl : (backTo pos (starEach es X.env)).any (·.1) = false := by rfl) :
    PE X (.Call (.Name x p) (e :: es) [] pos) (tMake C sp [] E0 t) := by
  obtain ⟨fd, F, b, kp⟩ := O.run
  exact pe_make M F hr hg hm b .nil passL ha hdb he hpl
theorem w_make {C : Addr} {sp : Sp} {dvs : List V} {E : XK} {t : TA} {σ : St} {H : Hp} {Q : VK} (h : t σ H fun vs H1 => ∀ x dx, H1 x = none → H1 dx = none → dx ≠ x → sp (.ref x :: (vs ++ dvs)) (upd (upd H1 dx (.own x)) x (.ins C dx [])) (fun v H2 => v = .non ∧ Q (.ref x) H2) E) : tMake C sp dvs E t σ H Q := h
end
end L2
namespace K3
theorem w_makeK {C : Addr} {n m : Nat} {sp : Sp} {gV : List V → List V → List V} {E : XK} {t tk : TA} {σ : L2.St} {H : Hp} {Q : VK} (h : t σ H fun vs H1 => tk σ H1 fun zs H2 => vs.length = n ∧ zs.length = m ∧ ∀ x dx, H2 x = none → H2 dx = none → dx ≠ x → sp (gV (.ref x :: vs) zs) (upd (upd H2 dx (.own x)) x (.ins C dx [])) (fun v H3 => v = .non ∧ Q (.ref x) H3) E) : tMakeK C n m sp gV E t tk σ H Q := h
theorem mkIT {K : PySem.W.Frag} {x f1 f2 f3 : Str} {v1 v3 : V} {l : Addr} {xs : List V} {H1 : Hp} {Q : VK} {E : XK} (hl : H1 l = some (.lst xs)) (q : ∀ a t H', H1 a = none → Same H1 H' → Ins K H' a x [(f1, v1), (f2, .ref t), (f3, v3)] → SqT K H' t xs → Q (.ref a) H') :
    ∀ a dx, H1 a = none → H1 dx = none → dx ≠ a → spIT K x f1 f2 f3 [.ref a, v1, .ref l, v3] (upd (upd H1 dx (.own a)) a (.ins (He.ga K x) dx [])) (fun v H2 => v = .non ∧ Q (.ref a) H2) E := by
  intro a dx ha hd hne
  have st : ∀ b o, H1 b = some o → upd (upd H1 dx (.own a)) a (.ins (He.ga K x) dx []) b = some o := fun b o hb => by rw [upd_ne (ne_of_none hb ha), upd_ne (ne_of_none hb hd)]; exact hb
  exact ⟨a, dx, l, v1, v3, xs, rfl, .inl (SqL.of (st _ _ hl)), upd_same, fun t H' h1 h2 h3 => ⟨rfl, q a t H' ha (fun b o hb => h3 b o (ne_of_none hb ha) (st b o hb)) ⟨dx, h1⟩ h2⟩⟩
theorem mkIS {K : PySem.W.Frag} {v3 : V} {l : Addr} {xs : List V} {H1 : Hp} {Q : VK} {E : XK} (hl : H1 l = some (.lst xs)) (q : ∀ a t H', H1 a = none → Same H1 H' → Ins K H' a "Section" [("rows", .ref t), ("where", v3)] → SqT K H' t xs → Q (.ref a) H') :
    ∀ a dx, H1 a = none → H1 dx = none → dx ≠ a → spIS K [.ref a, .ref l, v3] (upd (upd H1 dx (.own a)) a (.ins (He.ga K "Section") dx [])) (fun v H2 => v = .non ∧ Q (.ref a) H2) E := by
  intro a dx ha hd hne
  have st : ∀ b o, H1 b = some o → upd (upd H1 dx (.own a)) a (.ins (He.ga K "Section") dx []) b = some o := fun b o hb => by rw [upd_ne (ne_of_none hb ha), upd_ne (ne_of_none hb hd)]; exact hb
  exact ⟨a, dx, l, v3, xs, rfl, .inl (SqL.of (st _ _ hl)), upd_same, fun t H' h1 h2 h3 => ⟨rfl, q a t H' ha (fun b o hb => h3 b o (ne_of_none hb ha) (st b o hb)) ⟨dx, h1⟩ h2⟩⟩
theorem mkIK {K : PySem.W.Frag} {x : Str} {fs : List Str} {ws : List V} {H1 : Hp} {Q : VK} {E : XK} (hl : ws.length = fs.length) (q : ∀ a H', H1 a = none → Same H1 H' → Ins K H' a x (fs.zip ws) → Q (.ref a) H') :
    ∀ a dx, H1 a = none → H1 dx = none → dx ≠ a → spI K x fs (.ref a :: ws) (upd (upd H1 dx (.own a)) a (.ins (He.ga K x) dx [])) (fun v H2 => v = .non ∧ Q (.ref a) H2) E := by
  intro a dx ha hd hne
  refine ⟨a, dx, ws, rfl, hl, upd_same, fun H' h1 h2 => ⟨rfl, q a H' ha (fun b o hb => ?_) ⟨dx, h1⟩⟩⟩
  have nb : b ≠ a := ne_of_none hb ha
  exact h2 b o nb (by rw [upd_ne nb, upd_ne (ne_of_none hb hd)]; exact hb)
theorem ROs.app {K : PySem.W.Frag} {B : Hp} : ∀ {xs ys : List V} {rs ss : List Rw}, ROs K B xs rs → ROs K B ys ss → ROs K B (xs ++ ys) (rs ++ ss)
  | _, _, _, _, .nil, h => h
  | _, _, _, _, .cons a t, h => .cons a (ROs.app t h)
end K3
end Q5_part
section Q6_part
set_option Elab.async false
set_option linter.all false
set_option maxRecDepth 100000
set_option maxHeartbeats 1000000
set_option pp.deepTerms true
open PySem PySem.Spec PyProof.Rows L2
/-- go on as far as nothing is open -/
local macro_rules | `(tactic| walk_at "go") => `(tactic| repeat (first
  | with_reducible refine w_seq ?_ | with_reducible refine w_next ?_ | with_reducible refine w_set ?_ | with_reducible refine w_drop ?_ | with_reducible refine w_ret ?_ | with_reducible refine w_retN ?_
  | with_reducible refine w_if ?_ | ((with_reducible refine' w_var ?hv ?_); (case hv => exact rfl)) | with_reducible refine w_c ?_ | with_reducible refine w_nil ?_ | with_reducible refine w_cons ?_ | with_reducible refine w_op ?_ | with_reducible refine w_un ?_
  | with_reducible refine w_test ?_ | with_reducible refine w_tB ?_ | with_reducible refine w_not ?_ | with_reducible refine w_and ?_ | with_reducible refine w_or ?_ | with_reducible refine w_bl ?_
  | with_reducible refine w_andV ?_ | with_reducible refine w_orV ?_ | with_reducible refine w_notV ?_ | with_reducible refine w_ifE ?_ | with_reducible refine w_chain ?_ | with_reducible refine w_i0 ?_
  | with_reducible refine w_call ?_ | with_reducible refine w_callS ?_ | with_reducible refine w_cB ?_ | with_reducible refine w_tup ?_ | with_reducible refine w_lst ?_ | with_reducible refine w_fldV ?_
  | with_reducible refine w_neF ?_ | with_reducible refine w_neT ?_ | with_reducible refine w_notN ?_ | with_reducible refine w_isN ?_ | with_reducible refine w_gname ?_ | with_reducible refine w_gsub ?_ | with_reducible refine w_asg ?_ | with_reducible refine w_sl ?_ | with_reducible refine w_noP ?_ | with_reducible refine w_int1 ?_ | with_reducible refine w_part ?_ | with_reducible refine w_meth ?_ | with_reducible refine w_din ?_ | with_reducible refine w_dnotin ?_ | with_reducible refine w_dgt ?_ | with_reducible refine w_dget1 ?_ | with_reducible refine w_dget2 ?_ | with_reducible refine w_dput ?_ | with_reducible refine w_yes ?_ | with_reducible refine w_nT ?_ | with_reducible refine w_nF ?_ | with_reducible refine w_iteT ?_ | with_reducible refine w_iteF ?_))
namespace K3
/-! ### an edition's making -/
def pairF : List (Str × Str) → Option Flt
  | [] => none
  | c :: r => thenF (nameF c.1) (thenF (nameF c.2) (pairF r))
def questsF (rs : List Rw) : List (Str × Str) → Option Flt
  | [] => none
  | c :: r => if (formQ rs c.2).isSome then questsF rs r else some (.quest c.2)
def cntF (n : Int) (cs : List (Str × Str)) : Option Flt := if n < 1 then some (.count "edition" n) else if n = 1 ∧ 0 < cs.length then some (.count "calls" cs.length) else none
def callsF (rs : List Rw) (cs : List (Str × Str)) : Option Flt := thenF (pairF cs) (thenF (dupF (cs.map (·.1))) (thenF (dupF (cs.map (·.2))) (questsF rs cs)))
def edF (e : Ed) : Option Flt := thenF (cntF e.num e.cs) (callsF e.rs e.cs)
theorem pairF_take {cs : List (Str × Str)} : ∀ {i : Nat} {c : Str × Str}, cs[i]? = some c → pairF (cs.take i) = none → (thenF (nameF c.1) (nameF c.2) = none → pairF (cs.take (i + 1)) = none) ∧ (∀ f, thenF (nameF c.1) (nameF c.2) = some f → pairF cs = some f) := by
  induction cs with
  | nil => intro i c h; simp at h
  | cons a r ih =>
    intro i c h hn
    cases i with
    | zero =>
      have e : a = c := by simpa using h
      subst e
      refine ⟨fun z => ?_, fun f z => ?_⟩
      · show thenF (nameF a.1) (thenF (nameF a.2) none) = none
        rw [thenF_none]
        exact z
      · show thenF (nameF a.1) (thenF (nameF a.2) (pairF r)) = some f
        cases h1 : nameF a.1 with
        | some g => rw [h1] at z; exact z
        | none =>
          rw [h1] at z
          have z : nameF a.2 = some f := z
          rw [z]
          rfl
    | succ i =>
      have h' : r[i]? = some c := by simpa using h
      obtain ⟨n1, n2⟩ := thenF_inv (show thenF (nameF a.1) (thenF (nameF a.2) (pairF (r.take i))) = none from hn)
      obtain ⟨n2, n3⟩ := thenF_inv n2
      obtain ⟨q1, q2⟩ := ih h' n3
      refine ⟨fun z => ?_, fun f z => ?_⟩
      · show thenF (nameF a.1) (thenF (nameF a.2) (pairF (r.take (i + 1)))) = none
        rw [n1, n2, q1 z]
        rfl
      · show thenF (nameF a.1) (thenF (nameF a.2) (pairF r)) = some f
        rw [n1, n2, q2 f z]
        rfl
theorem questsF_take {rs : List Rw} {cs : List (Str × Str)} : ∀ {i : Nat} {c : Str × Str}, cs[i]? = some c → questsF rs (cs.take i) = none → ((formQ rs c.2).isSome = true → questsF rs (cs.take (i + 1)) = none) ∧ ((formQ rs c.2).isSome = false → questsF rs cs = some (.quest c.2)) := by
  induction cs with
  | nil => intro i c h; simp at h
  | cons a r ih =>
    intro i c h hn
    cases i with
    | zero =>
      have e : a = c := by simpa using h
      subst e
      refine ⟨fun z => ?_, fun z => ?_⟩
      · show (if (formQ rs a.2).isSome = true then none else _) = none
        rw [z]; rfl
      · show (if (formQ rs a.2).isSome = true then questsF rs r else some (.quest a.2)) = _
        rw [z]; rfl
    | succ i =>
      have h' : r[i]? = some c := by simpa using h
      have hn : (if (formQ rs a.2).isSome = true then questsF rs (r.take i) else some (.quest a.2)) = none := hn
      cases ha : (formQ rs a.2).isSome with
      | false => rw [ha] at hn; cases hn
      | true =>
        rw [ha] at hn
        obtain ⟨q1, q2⟩ := ih h' hn
        refine ⟨fun z => ?_, fun z => ?_⟩
        · show (if (formQ rs a.2).isSome = true then questsF rs (r.take (i + 1)) else some (.quest a.2)) = none
          rw [ha]; exact q1 z
        · show (if (formQ rs a.2).isSome = true then questsF rs r else some (.quest a.2)) = _
          rw [ha]; exact q2 z
def spCnt (K : PySem.W.Frag) : Sp := fun vs H Q E => ∃ (n : Int) (t : Addr) (cs : List (Str × Str)), vs = [.int n, .ref t] ∧ CallsO K H t cs ∧ End K (cntF n cs) H Q E
def spCalls (K : PySem.W.Frag) : Sp := fun vs H Q E => ∃ (t f : Addr) (cs : List (Str × Str)) (rs : List Rw), vs = [.ref t, .ref f] ∧ CallsO K H t cs ∧ cs.length ≤ 1000 ∧ (∀ c ∈ cs, c.1.length ≤ 1000 ∧ c.2.length ≤ 1000) ∧ FormO K H f rs ∧ End K (callsF rs cs) H Q E
/-- pairs, each a tuple, in a list or a tuple -/
def PairsO (K : PySem.W.Frag) (H : Hp) (a : Addr) (cs : List (Str × Str)) : Prop := ∃ ps : List Addr, SqE K H a (ps.map V.ref) ∧ Paired (fun p c => SqT K H p [.str c.1, .str c.2]) ps cs
/-- what Edition.__init__ leaves: B is what stood ahead of the new instance at x -/
def EdEnd (K : PySem.W.Frag) (e : Ed) (x dx f : Addr) (B : Hp) (Q : VK) (E : XK) : Prop := match edF e with
  | some g => ∀ cls d H', Same B H' → IsF K g cls d H' → E cls d H'
  | none => ∀ H' t, Same B H' → H' x = some (.ins (He.ga K "Edition") dx [("number", .int e.num), ("form", .ref f), ("calls", .ref t)]) → CallsO K H' t e.cs → Q .non H'
def spEd (K : PySem.W.Frag) : Sp := fun vs H Q E => ∃ (x dx f c : Addr) (e : Ed) (B : Hp), vs = [.ref x, .int e.num, .ref f, .ref c] ∧ Same B H ∧ B x = none ∧ PairsO K B c e.cs ∧ FormO K B f e.rs ∧ e.cs.length ≤ 1000 ∧ (∀ p ∈ e.cs, p.1.length ≤ 1000 ∧ p.2.length ≤ 1000) ∧
  H x = some (.ins (He.ga K "Edition") dx []) ∧ EdEnd K e x dx f B Q E
section
variable {P : Program} {w : World} {K : PySem.W.Frag} {mg : Str → Option Value} {base : Heap}
theorem lc_pairs {t D : Addr} {ps : List Addr} {cs : List (Str × Str)} {te : TE} {vs : List Nat} {σ : L2.St} {i1 i2 : Nat} {H1 : Hp} {Qd : Hp → Prop} (f : Str × Str → V)
    (ht : SqT K H1 t (ps.map V.ref)) (hps : Paired (fun p c => SqT K H1 p [.str c.1, .str c.2]) ps cs) (hD : H1 D = none) (hl : cs.length ≤ 10000)
    (hw : ∀ x y, wipe (((wipe σ vs).set i1 (some x)).set i2 (some y)) vs = wipe σ vs)
    (he : ∀ (c : Str × Str) (H' : Hp) (Q : VK), Q (f c) H' → te (((wipe σ vs).set i1 (some (.str c.1))).set i2 (some (.str c.2))) H' Q)
    (hd : ∀ H', Same H1 H' → H' D = some (.lst (cs.map f)) → Qd H') :
    ∃ W : Nat → Nat → Hp → Prop, (∃ m, W 0 m (upd H1 D (.lst []))) ∧ ∀ i m H, W i m H →
    ((Itt K t).stop i H ∧ Qd H) ∨ ((Itt K t).go i H ∧ ∃ Nx : Hp → Prop, (∀ H', Nx H' → ∃ m', m' < m ∧ W (i + 1) m' H') ∧ ∀ x H', (Itt K t).yld i H x H' → gTup K 2 (gCons (gName i1) (gCons (gName i2) gNil)) x (wipe σ vs) H' fun σ2 H2 =>
      wipe σ2 vs = wipe σ vs ∧ tYes σ2 H2 fun b H3 => if b = true then te σ2 H3 fun y H4 => ∃ acc, H4 D = some (.lst acc) ∧ acc.length < sizeLine ∧ Nx (upd H4 D (.lst (acc ++ [y]))) else Nx H3) := by
  refine lc_it (walk_tup (K := K) (a := t) (xs := ps.map V.ref)) (fun i H' => Same H1 H' ∧ H' D = some (.lst ((cs.take i).map f))) ⟨Same.new hD _, upd_same⟩ (fun i H' _ z => z.1.sqt ht) ?_ ?_
  · rintro i v H2 H2' hi ⟨e1, h1⟩ ⟨e2', hv⟩
    have e2 := e2'.symm
    subst e2
    rw [List.length_map] at hi
    obtain ⟨p, hp, rfl⟩ := map_ref hv
    obtain ⟨c, hc, hpc⟩ := K3.Paired.get hps hp
    refine ⟨p, _, rfl, e1.sqt hpc, rfl, _, _, rfl, ?_⟩
    walk_at "go"
    refine ⟨_, _, rfl, ?_⟩
    walk_at "go"
    refine ⟨rfl, hw _ _, ?_⟩
    walk_at "go"
    have lcs : i < cs.length := (List.getElem?_eq_some_iff.mp hc).1
    refine he c _ _ ⟨_, h1, ?_, e1.mut hD, ?_⟩
    · rw [List.length_map, List.length_take]
      exact Nat.lt_of_le_of_lt (show _ ≤ 10000 by omega) (by decide)
    · rw [upd_same, List.take_add_one, hc, List.map_append]
      rfl
  · rintro H2 ⟨e1, h1⟩
    rw [List.length_map, hps.length, List.take_length] at h1
    exact hd H2 e1 h1
theorem sc_refuse_counts : FnScope ["number", "calls"] ["number", "calls"] (defScope s_refuse_counts) := ⟨rfl, rfl, rfl, by decide +kernel, rfl, by decide +kernel, by decide +kernel⟩
theorem ok_refuse_counts (T : Tx K mg) : Ok P w K mg base 3 (He.ga K "refuse_counts") ["number", "calls"] (spCnt K) := by
  obtain ⟨fd, F⟩ := T.f_refuse_counts
  refine ⟨fd, F.ok (k := 2) sc_refuse_counts (fun vs H Q E h => ?_) (fun cdv A outer s_ H vs Q E hr h => ?_), F.bindsN fun _ _ _ _ _ _ us hl => match us, hl with | [_, _], _ => rfl, F.kp⟩
  · obtain ⟨n, t, cs, rfl, hc, q⟩ := h
    rfl
  obtain ⟨n, t, cs, rfl, hc, q⟩ := h
  have hu65 := K3.Room.units65 hr
  have hu70 := K3.Room.units70 hr
  have hu4 := K3.Room.units4 hr
  have hu64 := Nat.lt_of_succ_lt hu65
  have hu0 := Nat.lt_of_le_of_lt (Nat.le_add_right _ 65) hu65
  have hu1 := Nat.lt_of_le_of_lt (Nat.add_le_add_left (show 1 ≤ 65 by decide) _) hu65
  refine ⟨_, pss_cons (ps_if (pt_cmpR op_lt (pv 0) pe_int (nomark _)) (pss_one (ps_err2 (T.err (x := "BadCount") (by decide)) T.m_BadCount_init (ok_BadCount T) (hr.mono (by omega)) T.g_BadCount (takes_of rfl rfl rfl rfl) pe_str (pv 0))) pss_nil)
      (pss_one (ps_if (pw_and (pt_cmpR op_eq (pv 0) pe_int (nomark _)) (pw_and1 (pt_cmpR op_gt (pe_callB call_len_seq (by rfl) T.z_len PySem.boot_len (pa_cons (pv 1) pa_nil)) pe_int (nomark _)))).pt (pss_one (ps_err2 (T.err (x := "BadCount") (by decide)) T.m_BadCount_init (ok_BadCount T) (hr.mono (by omega)) T.g_BadCount (takes_of rfl rfl rfl rfl) pe_str (pe_callB call_len_seq (by rfl) T.z_len PySem.boot_len (pa_cons (pv 1) pa_nil)))) pss_nil)), ?_⟩
  obtain ⟨ps, ht, hps⟩ := id hc.at_
  walk_at "go"
  have lps := hps.length
  have q0 : ∀ g, cntF n cs = some g → ∀ cls d H', Same H H' → IsF K g cls d H' → E cls d H' := fun g h => by
    rw [h] at q
    exact q
  have q1 : cntF n cs = none → Q .non H := fun h => by
    rw [h] at q
    exact q H (Same.refl _)
  by_cases c1 : n < 1
  · rw [decide_eq_true c1]
    walk_at "go"
    refine w_err2 ?_
    walk_at "go"
    exact gErr2_of fun dd H4 e4 h4 => q0 (.count "edition" n) (by unfold cntF; rw [if_pos c1]) _ _ H4 e4 ⟨rfl, dd, rfl, h4⟩
  · rw [decide_eq_false c1]
    walk_at "go"
    refine ⟨rfl, ?_⟩
    rw [decV]
    walk_at "go"
    by_cases c2 : n = 1
    · rw [decide_eq_true c2]
      walk_at "go"
      refine ⟨t, _, rfl, .inr ht, ?_⟩
      rw [List.length_map, lps]
      walk_at "go"
      by_cases c3 : (0 : Int) < (cs.length : Int)
      · rw [decide_eq_true c3]
        walk_at "go"
        refine w_err2 ?_
        walk_at "go"
        refine ⟨t, _, rfl, .inr ht, ?_⟩
        rw [List.length_map, lps]
        exact gErr2_of fun dd H4 e4 h4 => q0 (.count "calls" cs.length) (by unfold cntF; rw [if_neg c1, if_pos ⟨c2, by omega⟩]) _ _ H4 e4 ⟨rfl, dd, rfl, h4⟩
      · rw [decide_eq_false c3]
        walk_at "go"
        exact q1 (by unfold cntF; rw [if_neg c1, if_neg (fun z => c3 (by have := z.2; omega))])
    · rw [decide_eq_false c2]
      walk_at "go"
      exact q1 (by unfold cntF; rw [if_neg c1, if_neg (fun z => c2 z.1)])
theorem sc_refuse_calls : FnScope ["calls", "form", "old", "new"] ["calls", "form"] (defScope s_refuse_calls) := ⟨rfl, rfl, rfl, by decide +kernel, rfl, by decide +kernel, by decide +kernel⟩
theorem ok_refuse_calls (T : Tx K mg) : Ok P w K mg base 4 (He.ga K "refuse_calls") ["calls", "form"] (spCalls K) := by
  obtain ⟨fd, F⟩ := T.f_refuse_calls
  have Ohas_question := ok_has_question (P := P) (w := w) (base := base) T
  have Orefuse_twice := ok_refuse_twice (P := P) (w := w) (base := base) T
  have Orefuse_no_name := ok_refuse_no_name (P := P) (w := w) (base := base) T
  refine ⟨fd, F.ok (k := 3) sc_refuse_calls (fun vs H Q E h => ?_) (fun cdv A outer s_ H vs Q E hr h => ?_), F.bindsN fun _ _ _ _ _ _ us hl => match us, hl with | [_, _], _ => rfl, F.kp⟩
  · obtain ⟨t, f, cs, rs, rfl, hc, lc, ln, hf, q⟩ := h
    rfl
  obtain ⟨t, f, cs, rs, rfl, hc, lc, ln, hf, q⟩ := h
  have hu65 := K3.Room.units65 hr
  have hu70 := K3.Room.units70 hr
  have hu4 := K3.Room.units4 hr
  have hu64 := Nat.lt_of_succ_lt hu65
  have hu0 := Nat.lt_of_le_of_lt (Nat.le_add_right _ 65) hu65
  have hu1 := Nat.lt_of_le_of_lt (Nat.add_le_add_left (show 1 ≤ 65 by decide) _) hu65
  have rhas_question : Room 2 _ := hr.mono (by decide)
  have rrefuse_twice : Room 3 _ := hr.mono (by decide)
  have rrefuse_no_name : Room 3 _ := hr.mono (by decide)
  refine ⟨_, pss_cons (ps_for (passes_of rfl) (by rfl) (pi_tup (pv 0)) (pg_tup (by rfl) (pgs_cons (pg_name (i := 2) sc_refuse_calls.nd rfl (Or.inl rfl)) (pgs_cons (pg_name (i := 3) sc_refuse_calls.nd rfl (Or.inl rfl)) pgs_nil))) (pss_cons (ps_expr (pe_fE (takes_of rfl rfl rfl rfl) Orefuse_no_name rrefuse_no_name T.g_refuse_no_name (pa_cons (pv 2) pa_nil)))
      (pss_one (ps_expr (pe_fE (takes_of rfl rfl rfl rfl) Orefuse_no_name rrefuse_no_name T.g_refuse_no_name (pa_cons (pv 3) pa_nil))))))
      (pss_cons (ps_expr (pe_fE (takes_of rfl rfl rfl rfl) Orefuse_twice rrefuse_twice T.g_refuse_twice (pa_cons (by exact pe_lc (own := [("old", 2), ("new", 3)]) (g := gTup K 2 (gCons (gName 2) (gCons (gName 3) gNil))) (tt := tYes) (te := (tVar 2)) (by rfl) sc_refuse_calls.nd (pi_tup (pv 0)) (blkOk_by (own := [("old", 2), ("new", 3)]) (N := ["calls", "form", "old", "new"]) (sc := defScope s_refuse_calls) (by decide +kernel)) (fun _ _ _ _ _ => (pg_tup (by rfl) (pgs_cons (pg_name (i := 2) sc_refuse_calls.nd rfl (Or.inl rfl)) (pgs_cons (pg_name (i := 3) sc_refuse_calls.nd rfl (Or.inl rfl)) pgs_nil)))) (fun _ _ _ _ _ => pts_nil) (fun _ _ _ _ _ => (pv 2))) pa_nil)))
      (pss_cons (ps_expr (pe_fE (takes_of rfl rfl rfl rfl) Orefuse_twice rrefuse_twice T.g_refuse_twice (pa_cons (by exact pe_lc (own := [("old", 2), ("new", 3)]) (g := gTup K 2 (gCons (gName 2) (gCons (gName 3) gNil))) (tt := tYes) (te := (tVar 3)) (by rfl) sc_refuse_calls.nd (pi_tup (pv 0)) (blkOk_by (own := [("old", 2), ("new", 3)]) (N := ["calls", "form", "old", "new"]) (sc := defScope s_refuse_calls) (by decide +kernel)) (fun _ _ _ _ _ => (pg_tup (by rfl) (pgs_cons (pg_name (i := 2) sc_refuse_calls.nd rfl (Or.inl rfl)) (pgs_cons (pg_name (i := 3) sc_refuse_calls.nd rfl (Or.inl rfl)) pgs_nil)))) (fun _ _ _ _ _ => pts_nil) (fun _ _ _ _ _ => (pv 3))) pa_nil)))
      (pss_one (ps_for (passes_of rfl) (by rfl) (pi_tup (pv 0)) (pg_tup (by rfl) (pgs_cons (pg_name (i := 2) sc_refuse_calls.nd rfl (Or.inl rfl)) (pgs_cons (pg_name (i := 3) sc_refuse_calls.nd rfl (Or.inl rfl)) pgs_nil))) (pss_one (ps_if (pt_not (pt_val (pe_f Ohas_question rhas_question T.g_has_question (pa_cons (pv 1) (pa_cons (pv 3) pa_nil))))) (pss_one (ps_err1 (T.err (x := "NoQuestion") (by decide)) T.m_NoQuestion_init (ok_NoQuestion T) (hr.mono (by omega)) T.g_NoQuestion (takes_of rfl rfl rfl rfl) (pv 3))) pss_nil)))))), ?_⟩
  obtain ⟨ps, ht, hps⟩ := id hc.at_
  walk_at "go"
  have lps := hps.length
  refine ⟨_, rfl, t, rfl, ⟨_, ht⟩, ?_⟩
  refine for_it (walk_tup (K := K) (a := t) (xs := ps.map V.ref)) (fun (i : Nat) σ H' => ∃ o2 o3 : Option V, σ = [some (.ref t), some (.ref f), o2, o3] ∧ Same H H' ∧ pairF (cs.take i) = none) ⟨none, none, rfl, Same.refl _, rfl⟩ (fun i σ H' _ ⟨_, _, _, e, _⟩ => e.sqt ht) ?_ ?_
  · rintro i x σ H1 H1' hi ⟨o2, o3, rfl, e1, hn⟩ ⟨e1', hx⟩
    have e1s := e1'.symm
    subst e1s
    obtain ⟨p, hp, rfl⟩ := map_ref hx
    obtain ⟨c, hcc, hpc⟩ := K3.Paired.get hps hp
    obtain ⟨l1, l2⟩ := ln c (List.mem_of_getElem? hcc)
    obtain ⟨g1, g2⟩ := pairF_take hcc hn
    have bad : ∀ g, thenF (nameF c.1) (nameF c.2) = some g → ∀ cls d H', Same H H' → IsF K g cls d H' → E cls d H' := fun g h => by
      have : callsF rs cs = some g := by unfold callsF; rw [g2 g h]; rfl
      rw [this] at q
      exact q
    refine ⟨p, _, rfl, e1.sqt hpc, rfl, _, _, rfl, ?_⟩
    walk_at "go"
    refine ⟨_, _, rfl, ?_⟩
    walk_at "go"
    refine ⟨rfl, ?_⟩
    walk_at "go"
    refine ⟨c.1, rfl, l1, ?_⟩
    cases h1 : nameF c.1 with
    | some g => exact fun cls d H2 e2 h2 => bad g (by rw [h1]; rfl) cls d H2 (e1.trans e2) h2
    | none =>
      intro H2 e2
      walk_at "go"
      refine ⟨c.2, rfl, l2, ?_⟩
      cases h2 : nameF c.2 with
      | some g => exact fun cls d H3 e3 h3 => bad g (by rw [h1, h2]; rfl) cls d H3 ((e1.trans e2).trans e3) h3
      | none =>
        intro H3 e3
        exact ⟨_, _, rfl, (e1.trans e2).trans e3, g1 (by rw [h1, h2]; rfl)⟩
  · rintro σ H1 ⟨o2, o3, rfl, e1, hn⟩
    rw [List.length_map, lps, List.take_length] at hn
    have q2 : End K (thenF (dupF (cs.map (·.1))) (thenF (dupF (cs.map (·.2))) (questsF rs cs))) H1 Q E := by
      have : callsF rs cs = thenF (dupF (cs.map (·.1))) (thenF (dupF (cs.map (·.2))) (questsF rs cs)) := by unfold callsF; rw [hn]; rfl
      rw [this] at q
      exact q.mono e1
    have ht1 := e1.sqt ht
    have hps1 : Paired (fun p c => SqT K H1 p [.str c.1, .str c.2]) ps cs := L2.Paired.mapP hps fun _ _ z => e1.sqt z
    walk_at "go"
    refine lc_open ?_
    refine ⟨_, rfl, t, rfl, ⟨_, ht1⟩, fun D hD => ?_⟩
    refine lc_pairs (fun c => .str c.1) ht1 hps1 hD (by omega) (fun _ _ => rfl) (fun c H' Q h => ?_) fun H2 e2 h2 => ?_
    · walk_at "go"
      exact h
    walk_at "go"
    refine ⟨D, cs.map (·.1), rfl, .lst (by rw [h2, List.map_map]; rfl), by rw [List.length_map]; exact lc, ?_⟩
    refine End_seq (q2.mono e2) fun H3 e3 q3 => ?_
    have e23 := e2.trans e3
    have ht3 := e23.sqt ht1
    have hps3 : Paired (fun p c => SqT K H3 p [.str c.1, .str c.2]) ps cs := L2.Paired.mapP hps1 fun _ _ z => e23.sqt z
    walk_at "go"
    refine lc_open ?_
    refine ⟨_, rfl, t, rfl, ⟨_, ht3⟩, fun D2 hD2 => ?_⟩
    refine lc_pairs (fun c => .str c.2) ht3 hps3 hD2 (by omega) (fun _ _ => rfl) (fun c H' Q h => ?_) fun H4 e4 h4 => ?_
    · walk_at "go"
      exact h
    walk_at "go"
    refine ⟨D2, cs.map (·.2), rfl, .lst (by rw [h4, List.map_map]; rfl), by rw [List.length_map]; exact lc, ?_⟩
    refine End_seq (q3.mono e4) fun H5 e5 q5 => ?_
    have e05 := (e1.trans e23).trans (e4.trans e5)
    have hf5 := hf.same e05
    walk_at "go"
    refine ⟨_, rfl, t, rfl, ⟨_, e05.sqt ht⟩, ?_⟩
    refine for_it (walk_tup (K := K) (a := t) (xs := ps.map V.ref)) (fun (i : Nat) σ H' => ∃ o2 o3 : Option V, σ = [some (.ref t), some (.ref f), o2, o3] ∧ Same H5 H' ∧ questsF rs (cs.take i) = none) ⟨_, _, rfl, Same.refl _, rfl⟩ (fun i σ H' _ ⟨_, _, _, e, _⟩ => (e05.trans e).sqt ht) ?_ ?_
    · rintro i x σ H6 H6' hi ⟨o4, o5, rfl, e6, hn6⟩ ⟨e6', hx⟩
      have e6s := e6'.symm
      subst e6s
      obtain ⟨p, hp, rfl⟩ := map_ref hx
      obtain ⟨c, hcc, hpc⟩ := K3.Paired.get hps hp
      obtain ⟨g1, g2⟩ := questsF_take (rs := rs) hcc hn6
      refine ⟨p, _, rfl, (e05.trans e6).sqt hpc, rfl, _, _, rfl, ?_⟩
      walk_at "go"
      refine ⟨_, _, rfl, ?_⟩
      walk_at "go"
      refine ⟨rfl, ?_⟩
      walk_at "go"
      refine ⟨f, c.2, rs, rfl, hf5.same e6, fun H7 e7 => ?_⟩
      cases hq : (formQ rs c.2).isSome with
      | true =>
        walk_at "go"
        exact ⟨_, _, rfl, e6.trans e7, g1 hq⟩
      | false =>
        walk_at "go"
        refine w_err1 ?_
        walk_at "go"
        have := g2 hq
        rw [this] at q5
        exact gErr1_of fun dd H8 e8 h8 => q5 _ _ H8 ((e6.trans e7).trans e8) ⟨rfl, dd, rfl, h8⟩
    · rintro σ H6 ⟨o4, o5, rfl, e6, hn6⟩
      rw [List.length_map, lps, List.take_length] at hn6
      rw [hn6] at q5
      exact q5 H6 e6
theorem sc_Edition_init : FnScope ["self", "number", "form", "calls", "pairs", "old", "new"] ["self", "number", "form", "calls"] (defScope s_Edition_init) := ⟨rfl, rfl, rfl, by decide +kernel, rfl, by decide +kernel, by decide +kernel⟩
theorem ok_Edition (T : Tx K mg) {fd : FuncData} {dfl : List (Str × V)} (F : FunD K "__init__" "Edition.__init__" (defArgs s_Edition_init) (defBody s_Edition_init) (defScope s_Edition_init) [] dfl (He.ma K (He.ga K "Edition") "__init__") fd) : FnOk P w K mg base (L2.CX P w) 5 (He.ma K (He.ga K "Edition") "__init__") fd ["self", "number", "form", "calls"] (spEd K) := by
  have Orefuse_counts := ok_refuse_counts (P := P) (w := w) (base := base) T
  have Orefuse_calls := ok_refuse_calls (P := P) (w := w) (base := base) T
  refine F.ok (k := 4) sc_Edition_init (fun vs H Q E h => ?_) (fun cdv A outer s_ H vs Q E hr h => ?_)
  · obtain ⟨x, dx, f, c, e, B, rfl, _⟩ := h
    rfl
  obtain ⟨x, dx, f, c, e, B, rfl, e0, hBx, ⟨ps, ⟨bq, hc⟩, hps⟩, hf, lc, ln, hx, q⟩ := h
  have rrefuse_counts : Room 3 _ := hr.mono (by decide)
  have rrefuse_calls : Room 4 _ := hr
  refine ⟨_, pss_cons (ps_set (i := 4) sc_Edition_init.nd rfl (Or.inl rfl) (pe_callTy call_tuple_of (by rfl) T.z_tuple (by decide +kernel) (pa_cons (by exact pe_lc (own := [("old", 5), ("new", 6)]) (g := gTup K 2 (gCons (gName 5) (gCons (gName 6) gNil))) (tt := tYes) (te := (tTup (tCons (tVar 5) (tCons (tVar 6) tNil)))) (by rfl) sc_Edition_init.nd (pi_seq (pv 3)) (blkOk_by (own := [("old", 5), ("new", 6)]) (N := ["self", "number", "form", "calls", "pairs", "old", "new"]) (sc := defScope s_Edition_init) (by decide +kernel)) (fun _ _ _ _ _ => (pg_tup (by rfl) (pgs_cons (pg_name (i := 5) sc_Edition_init.nd rfl (Or.inl rfl)) (pgs_cons (pg_name (i := 6) sc_Edition_init.nd rfl (Or.inl rfl)) pgs_nil)))) (fun _ _ _ _ _ => pts_nil) (fun _ _ _ _ _ => (pe_tup (pa_cons (pv 5) (pa_cons (pv 6) pa_nil))))) pa_nil)))
      (pss_cons (ps_expr (pe_fE (takes_of rfl rfl rfl rfl) Orefuse_counts rrefuse_counts T.g_refuse_counts (pa_cons (pv 1) (pa_cons (pv 4) pa_nil))))
      (pss_cons (ps_expr (pe_fE (takes_of rfl rfl rfl rfl) Orefuse_calls rrefuse_calls T.g_refuse_calls (pa_cons (pv 4) (pa_cons (pv 2) pa_nil))))
      (pss_cons (ps_fld (pv 0) (pv 1) rfl)
      (pss_cons (ps_fld (pv 0) (pv 2) rfl)
      (pss_one (ps_fld (pv 0) (pv 4) rfl)))))), ?_⟩
  walk_at "go"
  have hc0 : SqB K H bq c (ps.map V.ref) := hc.same e0
  have hps0 : Paired (fun p c => SqT K H p [.str c.1, .str c.2]) ps e.cs := L2.Paired.mapP hps fun _ _ z => e0.sqt z
  have lps := hps.length
  refine lc_open ?_
  refine ⟨_, rfl, c, bq, rfl, ⟨_, hc0⟩, fun D hD => ?_⟩
  refine lc_it (walk_B (K := K) (a := c) (xs := ps.map V.ref) (b := bq)) (fun i H' => Same H H' ∧ ∃ ws : List Addr, H' D = some (.lst (ws.map V.ref)) ∧ Paired (fun p c => H' p = some (.tup [.str c.1, .str c.2])) ws (e.cs.take i)) ⟨Same.new hD _, [], upd_same, .nil⟩ (fun i H' _ z => hc0.same z.1) ?_ ?_
  · rintro i v H2 H2' hi ⟨e1, ws, h1, hws⟩ ⟨e2', hv⟩
    have e2 := e2'.symm
    subst e2
    rw [List.length_map] at hi
    obtain ⟨p, hp, rfl⟩ := map_ref hv
    obtain ⟨c', hc', hpc⟩ := K3.Paired.get hps0 hp
    refine ⟨p, _, rfl, e1.sqt hpc, rfl, _, _, rfl, ?_⟩
    walk_at "go"
    refine ⟨_, _, rfl, ?_⟩
    walk_at "go"
    refine ⟨rfl, rfl, ?_⟩
    walk_at "go"
    refine ⟨(by show 2 ≤ sizeLine; decide), fun p0 hp0 => ?_⟩
    have s2 := Same.new hp0 (.tup [V.str c'.1, V.str c'.2])
    have lcs : i < e.cs.length := (List.getElem?_eq_some_iff.mp hc').1
    have lw := hws.length
    rw [List.length_take] at lw
    refine ⟨_, s2 _ _ h1, ?_, (e1.trans s2).mut hD, ws ++ [p0], ?_, ?_⟩
    · rw [List.length_map]
      exact Nat.lt_of_le_of_lt (show _ ≤ 1000 by omega) (by decide)
    · rw [upd_same, List.map_append]
      rfl
    · rw [List.take_add_one, hc']
      have nD : ∀ b, (upd H2 p0 (.tup [V.str c'.1, V.str c'.2])) b = some (.tup [V.str c'.1, V.str c'.2]) → b ≠ D := fun b hb z => by rw [z, s2 _ _ h1] at hb; cases hb
      refine K3.Paired.app (L2.Paired.mapP hws fun b cc hb => ?_) (.cons ?_ .nil)
      · rw [upd_ne (fun z => by rw [z, h1] at hb; cases hb)]
        exact s2 _ _ hb
      · rw [upd_ne (nD _ upd_same)]
        exact upd_same
  · rintro H2 ⟨e1, ws, h1, hws⟩
    rw [List.length_map, lps, List.take_length] at hws
    walk_at "go"
    refine ⟨D, _, rfl, .inl ⟨SqL.of h1, fun t ht => ?_⟩⟩
    have s2 := Same.new ht (.tup (ws.map V.ref))
    have e12 := e1.trans s2
    have hcO : CallsO K (upd H2 t (.tup (ws.map V.ref))) t e.cs := ⟨⟨ws, SqT.of upd_same, L2.Paired.mapP hws fun _ _ z => SqT.of (s2 _ _ z)⟩⟩
    generalize upd H2 t (.tup (ws.map V.ref)) = H3 at s2 e12 hcO
    have q0 : ∀ g, edF e = some g → ∀ cls d H', Same B H' → IsF K g cls d H' → E cls d H' := fun g h => by
      unfold EdEnd at q
      rw [h] at q
      exact q
    have e03 := e0.trans e12
    walk_at "go"
    refine ⟨e.num, t, e.cs, rfl, hcO, ?_⟩
    cases h1 : cntF e.num e.cs with
    | some g => exact fun cls d H4 e4 h4 => q0 g (by unfold edF; rw [h1]; rfl) cls d H4 (e03.trans e4) h4
    | none =>
      intro H4 e4
      walk_at "go"
      have hf4 := hf.same (e03.trans e4)
      refine ⟨t, f, e.cs, e.rs, rfl, hcO.same e4, lc, ln, hf4, ?_⟩
      cases h2 : callsF e.rs e.cs with
      | some g => exact fun cls d H5 e5 h5 => q0 g (by unfold edF; rw [h1, h2]; rfl) cls d H5 ((e03.trans e4).trans e5) h5
      | none =>
        intro H5 e5
        have e45 := e4.trans e5
        have hx5 := (e12.trans e45) _ _ hx
        have hcO5 := hcO.same e45
        have q1 : ∀ H' t, Same B H' → H' x = some (.ins (He.ga K "Edition") dx [("number", .int e.num), ("form", .ref f), ("calls", .ref t)]) → CallsO K H' t e.cs → Q .non H' := by
          unfold EdEnd at q
          rw [show edF e = none by unfold edF; rw [h1, h2]; rfl] at q
          exact q
        walk_at "go"
        refine ⟨_, rfl, _, rfl, x, _, dx, _, rfl, hx5, T.cl_Edition, T.n_Edition_number, (by show 0 < 1000; decide), ?_⟩
        refine ⟨_, rfl, _, rfl, x, _, dx, _, rfl, upd_same, T.cl_Edition, T.n_Edition_form, (by show 1 < 1000; decide), ?_⟩
        refine ⟨_, rfl, _, rfl, x, _, dx, _, rfl, upd_same, T.cl_Edition, T.n_Edition_calls, (by show 2 < 1000; decide), ?_⟩
        refine q1 _ t ?_ upd_same ?_
        · exact Same.mut (Same.mut (Same.mut (e03.trans e45) hBx) hBx) hBx
        · obtain ⟨ws5, g1, g2⟩ := hcO5.at_
          have far : ∀ {H : Hp} {o o' : HO} {a : Addr} {C : Addr} {fs : List (Str × V)} {ys : List V}, H x = some (.ins C dx fs) → SqT K H a ys → SqT K (upd H x o) a ys := fun h g => SqT.far h g
          exact ⟨⟨ws5, SqT.far upd_same (SqT.far upd_same (SqT.far hx5 g1)), L2.Paired.mapP g2 fun _ _ z => SqT.far upd_same (SqT.far upd_same (SqT.far hx5 z))⟩⟩
end
end K3
end Q6_part
section W1_part
set_option Elab.async false
set_option linter.all false
set_option maxRecDepth 100000
set_option maxHeartbeats 1000000
set_option pp.deepTerms true
open PySem PySem.Spec PyProof.Rows L2
/-- go on as far as nothing is open -/
local macro_rules | `(tactic| walk_at "go") => `(tactic| repeat (first
  | with_reducible refine w_seq ?_ | with_reducible refine w_next ?_ | with_reducible refine w_set ?_ | with_reducible refine w_drop ?_ | with_reducible refine w_ret ?_ | with_reducible refine w_retN ?_
  | with_reducible refine w_if ?_ | ((with_reducible refine' w_var ?hv ?_); (case hv => exact rfl)) | with_reducible refine w_c ?_ | with_reducible refine w_nil ?_ | with_reducible refine w_cons ?_ | with_reducible refine w_op ?_ | with_reducible refine w_un ?_
  | with_reducible refine w_test ?_ | with_reducible refine w_tB ?_ | with_reducible refine w_not ?_ | with_reducible refine w_and ?_ | with_reducible refine w_or ?_ | with_reducible refine w_bl ?_
  | with_reducible refine w_andV ?_ | with_reducible refine w_orV ?_ | with_reducible refine w_notV ?_ | with_reducible refine w_ifE ?_ | with_reducible refine w_chain ?_ | with_reducible refine w_i0 ?_
  | with_reducible refine w_call ?_ | with_reducible refine w_callS ?_ | with_reducible refine w_cB ?_ | with_reducible refine w_tup ?_ | with_reducible refine w_lst ?_ | with_reducible refine w_fldV ?_
  | with_reducible refine w_neF ?_ | with_reducible refine w_neT ?_ | with_reducible refine w_notN ?_ | with_reducible refine w_isN ?_ | with_reducible refine w_gname ?_ | with_reducible refine w_gsub ?_ | with_reducible refine w_asg ?_ | with_reducible refine w_sl ?_ | with_reducible refine w_noP ?_ | with_reducible refine w_int1 ?_ | with_reducible refine w_part ?_ | with_reducible refine w_meth ?_ | with_reducible refine w_din ?_ | with_reducible refine w_dnotin ?_ | with_reducible refine w_dgt ?_ | with_reducible refine w_dget1 ?_ | with_reducible refine w_dget2 ?_ | with_reducible refine w_dput ?_ | with_reducible refine w_yes ?_ | with_reducible refine w_nT ?_ | with_reducible refine w_nF ?_ | with_reducible refine w_iteT ?_ | with_reducible refine w_iteF ?_))
namespace L2
open PySem PySem.Spec PyProof.Rows
def rIxA (K : PySem.W.Frag) : R2 := fun x y H Q => rIxE K x y H Q ∨ rIxS x y H Q
theorem ix_a {X : Cx} : IxR X (rIxA X.K) := by
  intro value slice pins s σ H x y v u Q I rx ry h hs
  rcases h with h | h
  · exact ix_e value slice pins s σ H x y v u Q I rx ry h hs
  · exact ix_str value slice pins s σ H x y v u Q I rx ry h hs
end L2
namespace K3
/-- the well of draws: at most n draws were counted -/
def Well (H : Hp) (s : Addr) (n : Nat) : Prop := ∃ a b c : Int, H s = some (.lst [.int a, .int b, .int c]) ∧ 0 ≤ b ∧ b < 2147483647 ∧ 0 ≤ c ∧ c ≤ (n : Int)
theorem Well.same {H H' : Hp} {s : Addr} {n : Nat} (h : Well H s n) (e : Same H H') : Well H' s n := let ⟨a, b, c, q, r⟩ := h; ⟨a, b, c, e _ _ q, r⟩
theorem Well.src {H : Hp} {s : Addr} {n : Nat} (h : Well H s n) : Src H s := let ⟨a, b, c, q, _⟩ := h; ⟨a, b, c, q⟩
theorem Well.upd {H : Hp} {s p : Addr} {n : Nat} (hs : Well H s n) (ne : p ≠ s) (o : HO) : Well (L2.upd H p o) s n := let ⟨a, b, c, h, r⟩ := hs; ⟨a, b, c, by rw [upd_ne ne.symm]; exact h, r⟩
theorem Well.mono {H : Hp} {s : Addr} {n m : Nat} (h : Well H s n) (k : n ≤ m) : Well H s m := let ⟨a, b, c, q, r1, r2, r3, r4⟩ := h; ⟨a, b, c, q, r1, r2, r3, by omega⟩
theorem Well.ne {H : Hp} {s p : Addr} {n : Nat} (h : Well H s n) (hp : H p = none) : p ≠ s := src_ne h.src hp
def most : Nat := 1000000000
def spWell (K : PySem.W.Frag) : Sp := fun vs H Q _ => ∃ c : Int, vs = [.int c] ∧ ∀ p H', H p = none → Same H H' → Well H' p 0 → Q (.ref p) H'
def spDrawW (K : PySem.W.Frag) : Sp := fun vs H Q _ => ∃ (s : Addr) (m : Int) (n : Nat), vs = [.ref s, .int m] ∧ Well H s n ∧ n ≤ most ∧ 0 < m ∧ m < 2 ^ 62 ∧ ∀ (r : Nat) H', (r : Int) < m → BM [s] H H' → Well H' s (n + 1) → Q (.int (r : Int)) H'
def spPickW (K : PySem.W.Frag) : Sp := fun vs H Q _ => ∃ (s : Addr) (n : Nat) (y : V), vs = [.ref s, y] ∧ Well H s n ∧ n ≤ most ∧
  ((∃ (l : Addr) (xs : List V), y = .ref l ∧ l ≠ s ∧ SqE K H l xs ∧ xs ≠ [] ∧ xs.length ≤ 100000 ∧ ∀ v H', v ∈ xs → BM [s] H H' → Well H' s (n + 1) → Q v H') ∨
   (∃ z : Str, y = .str z ∧ z.length ≤ 1000 ∧ z.cps.toList ≠ [] ∧ ∀ c H', c ∈ z.cps.toList → BM [s] H H' → Well H' s (n + 1) → Q (.str ⟨#[c]⟩) H'))
def spCellAt (K : PySem.W.Frag) : Sp := fun vs H Q _ => ∃ (a : Addr) (ns : List Int) (k : Nat), vs = [.ref a, .int (k : Int)] ∧ SqL K H a (ns.map V.int) ∧ Q (.int (ns.getD k 0)) H
theorem sql_bm {K : PySem.W.Frag} {H H' : Hp} {s a : Addr} (e : BM [s] H H') (ne : a ≠ s) {xs : List V} (h : SqL K H a xs) : SqL K H' a xs := by
  have n : a ∉ [s] := fun z => ne (List.mem_singleton.mp z)
  rcases h with (h | ⟨o, h⟩) | h
  · exact .inl (.inl (e.at h n))
  · exact .inl (.inr ⟨o, e.at h n⟩)
  · exact .inr h
theorem sqt_bm {K : PySem.W.Frag} {H H' : Hp} {s a : Addr} (e : BM [s] H H') (ne : a ≠ s) {xs : List V} (h : SqT K H a xs) : SqT K H' a xs := by
  have n : a ∉ [s] := fun z => ne (List.mem_singleton.mp z)
  rcases h with (h | ⟨o, h⟩) | h
  · exact .inl (.inl (e.at h n))
  · exact .inl (.inr ⟨o, e.at h n⟩)
  · exact .inr h
theorem sqe_bm {K : PySem.W.Frag} {H H' : Hp} {s a : Addr} (e : BM [s] H H') (ne : a ≠ s) {xs : List V} (h : SqE K H a xs) : SqE K H' a xs := by
  rcases h with ⟨_ | _, h⟩
  · exact ⟨false, sql_bm e ne h⟩
  · exact ⟨true, sqt_bm e ne h⟩
theorem mul01 (x : Int) (z : Bool) : CMul x (if z = true then 1 else 0) := .inr (by cases z <;> decide)
section
variable {P : Program} {w : World} {K : PySem.W.Frag} {mg : Str → Option Value} {base : Heap}
theorem sc_cell_at : FnScope ["_law_script", "_law_k"] ["_law_script", "_law_k"] (defScope s__law_cell_at) := ⟨rfl, rfl, rfl, by decide +kernel, rfl, by decide +kernel, by decide +kernel⟩
theorem ok_cell_at (T : Tx K mg) : Ok P w K mg base 1 (He.ga K "_law_cell_at") ["_law_script", "_law_k"] (spCellAt K) := by
  obtain ⟨fd, F⟩ := T.f__law_cell_at
  refine ⟨fd, F.ok (k := 0) sc_cell_at (fun vs H Q E h => ?_) (fun cdv A outer s_ H vs Q E hr h => ?_), F.bindsN fun _ _ _ _ _ _ us hl => match us, hl with | [_, _], _ => rfl, F.kp⟩
  · obtain ⟨a, ns, k, rfl, ha, q⟩ := h
    rfl
  obtain ⟨a, ns, k, rfl, ha, q⟩ := h
  have hu65 := K3.Room.units65 hr
  have hu70 := K3.Room.units70 hr
  have hu4 := K3.Room.units4 hr
  have hu64 := Nat.lt_of_succ_lt hu65
  have hu0 := Nat.lt_of_le_of_lt (Nat.le_add_right _ 65) hu65
  have hu1 := Nat.lt_of_le_of_lt (Nat.add_le_add_left (show 1 ≤ 65 by decide) _) hu65
  refine ⟨_, pss_cons (ps_if (pt_cmpR op_lt (pv 1) (pe_callB call_len_seq (by rfl) T.z_len PySem.boot_len (pa_cons (pv 0) pa_nil)) (nomark _)) (pss_one (ps_ret (pe_ix ix_list (pv 0) (pv 1) (fun _ _ => rfl)))) pss_nil)
      (pss_one (ps_ret pe_int)), ?_⟩
  walk_at "go"
  refine ⟨a, _, rfl, .inl ha, ?_⟩
  rw [List.length_map]
  walk_at "go"
  by_cases c : (k : Int) < (ns.length : Int)
  · rw [decide_eq_true c]
    walk_at "go"
    refine ⟨a, _, (k : Int), _, rfl, rfl, ha, at_getD (show k < ns.length by omega), q⟩
  · rw [decide_eq_false c]
    walk_at "go"
    rw [List.getD_eq_getElem?_getD, List.getElem?_eq_none (by omega)] at q
    exact q
theorem sc_well : FnScope ["_law_cell"] ["_law_cell"] (defScope s__law_well) := ⟨rfl, rfl, rfl, by decide +kernel, rfl, by decide +kernel, by decide +kernel⟩
theorem ok_well (T : Tx K mg) : Ok P w K mg base 1 (He.ga K "_law_well") ["_law_cell"] (spWell K) := by
  obtain ⟨fd, F⟩ := T.f__law_well
  refine ⟨fd, F.ok (k := 0) sc_well (fun vs H Q E h => ?_) (fun cdv A outer s_ H vs Q E hr h => ?_), F.bindsN fun _ _ _ _ _ _ us hl => match us, hl with | [_], _ => rfl, F.kp⟩
  · obtain ⟨c, rfl, q⟩ := h
    rfl
  obtain ⟨c, rfl, q⟩ := h
  have hu65 := K3.Room.units65 hr
  have hu70 := K3.Room.units70 hr
  have hu4 := K3.Room.units4 hr
  have hu64 := Nat.lt_of_succ_lt hu65
  have hu0 := Nat.lt_of_le_of_lt (Nat.le_add_right _ 65) hu65
  have hu1 := Nat.lt_of_le_of_lt (Nat.add_le_add_left (show 1 ≤ 65 by decide) _) hu65
  refine ⟨_, pss_one (ps_ret (pe_lst (pa_cons (pe_op op_mul (pv 0) (pe_callTy call_int1 (by rfl) T.z_int (by decide +kernel) (pa_cons (pe_cmpR op_ge (pv 0) (pe_op op_pow pe_int pe_int) rfl) pa_nil))) (pa_cons (pe_op op_mod (pv 0) pe_int) (pa_cons pe_int pa_nil))))), ?_⟩
  walk_at "go"
  refine w_i (by refine ⟨?_, ?_, ?_⟩ <;> decide) ?_
  walk_at "go"
  refine .inr ⟨_, rfl, ?_⟩
  refine w_i (mul01 _ _) ?_
  walk_at "go"
  refine w_i (by decide) ?_
  walk_at "go"
  have m1 := Int.emod_nonneg c (show (2147483647 : Int) ≠ 0 by decide)
  have m2 := Int.emod_lt_of_pos c (show (0 : Int) < 2147483647 by decide)
  exact ⟨(by show 3 ≤ sizeLine; decide), fun p hp => q p _ hp (Same.new hp _) ⟨_, _, _, upd_same, m1, m2, Int.le_refl _, Int.le_refl _⟩⟩
theorem sc_draw : FnScope ["_law_well_here", "_law_many", "_law_found", "_law_number"] ["_law_well_here", "_law_many"] (defScope s__law_draw) := ⟨rfl, rfl, rfl, by decide +kernel, rfl, by decide +kernel, by decide +kernel⟩
theorem ok_draw (T : Tx K mg) : Ok P w K mg base 1 (He.ga K "_law_draw") ["_law_well_here", "_law_many"] (spDrawW K) := by
  obtain ⟨fd, F⟩ := T.f__law_draw
  refine ⟨fd, F.ok (k := 0) sc_draw (fun vs H Q E h => ?_) (fun cdv A outer s_ H vs Q E hr h => ?_), F.bindsN fun _ _ _ _ _ _ us hl => match us, hl with | [_, _], _ => rfl, F.kp⟩
  · obtain ⟨s, m, n, rfl, ⟨a, b, c, hs, b0, b1, c0, c1⟩, n0, m0, m1, q⟩ := h
    rfl
  obtain ⟨s, m, n, rfl, ⟨a, b, c, hs, b0, b1, c0, c1⟩, n0, m0, m1, q⟩ := h
  have hu65 := K3.Room.units65 hr
  have hu70 := K3.Room.units70 hr
  have hu4 := K3.Room.units4 hr
  have hu64 := Nat.lt_of_succ_lt hu65
  have hu0 := Nat.lt_of_le_of_lt (Nat.le_add_right _ 65) hu65
  have hu1 := Nat.lt_of_le_of_lt (Nat.add_le_add_left (show 1 ≤ 65 by decide) _) hu65
  refine ⟨_, pss_cons (ps_if (pt_cmpR op_gt (pe_ix ix_list (pv 0) pe_int (fun _ _ => rfl)) pe_int (nomark _)) (pss_cons (ps_set (i := 2) sc_draw.nd rfl (Or.inl rfl) (pe_op op_mod (pe_ix ix_list (pv 0) pe_int (fun _ _ => rfl)) (pv 1)))
      (pss_cons (ps_asg (pe_op op_fdivW (pe_ix ix_list (pv 0) pe_int (fun _ _ => rfl)) (pv 1)) (pg_sub (pv 0) pe_int set_list))
      (pss_one (ps_ret (pv 2))))) pss_nil)
      (pss_cons (ps_asg (pe_op op_add (pe_ix ix_list (pv 0) pe_int (fun _ _ => rfl)) pe_int) (pg_sub (pv 0) pe_int set_list))
      (pss_cons (ps_set (i := 3) sc_draw.nd rfl (Or.inl rfl) (pe_op op_mod (pe_op op_pow (pe_op op_add (pe_op op_add (pe_ix ix_list (pv 0) pe_int (fun _ _ => rfl)) (pe_op op_mul pe_int (pe_ix ix_list (pv 0) pe_int (fun _ _ => rfl)))) pe_int) pe_int) pe_int))
      (pss_cons (ps_set (i := 3) sc_draw.nd rfl (Or.inl rfl) (pe_op op_mod (pe_op op_mul (pv 3) (pe_op op_add (pe_op op_fdiv (pv 3) pe_int) pe_int)) pe_int))
      (pss_one (ps_ret (pe_op op_mod (pe_op op_mod (pe_op op_mul (pv 3) (pe_op op_add (pe_op op_fdiv (pv 3) pe_int) pe_int)) pe_int) (pv 1))))))), ?_⟩
  have dv : CDivW a m := wide_div (b := 64) m0 (by omega) (by decide) (by decide)
  have qq : ∀ {r : Int} {H' : Hp}, 0 ≤ r → r < m → BM [s] H H' → Well H' s (n + 1) → Q (.int r) H' := fun {r H'} r0 r1 hb hs => by
    obtain ⟨n, rfl⟩ : ∃ n : Nat, r = (n : Int) := ⟨r.toNat, by omega⟩
    exact q n H' r1 hb hs
  walk_at "go"
  refine w_ixL hs rfl ?_
  walk_at "go"
  by_cases a0 : (0 : Int) < a
  · rw [show decide (a > 0) = true from decide_eq_true a0]
    walk_at "go"
    refine w_ixL hs rfl ?_
    walk_at "go"
    refine w_i m0 ?_
    walk_at "go"
    refine w_ixL hs rfl ?_
    walk_at "go"
    refine w_i dv ?_
    walk_at "go"
    refine w_setL hs rfl ?_
    walk_at "go"
    exact qq (Int.emod_nonneg _ (by omega)) (Int.emod_lt_of_pos _ m0) (BM.upd (List.mem_singleton.mpr rfl) _) ⟨_, _, _, upd_same, b0, b1, c0, by omega⟩
  · rw [show decide (a > 0) = false from decide_eq_false a0]
    walk_at "go"
    refine w_ixL hs rfl ?_
    walk_at "go"
    refine w_setL hs rfl ?_
    have hs2 : (upd H s (.lst ([V.int a, V.int b, V.int c].set 2 (V.int (c + 1))))) s = some (.lst [.int a, .int b, .int (c + 1)]) := upd_same
    have e2 : BM [s] H (upd H s (.lst ([V.int a, V.int b, V.int c].set 2 (V.int (c + 1))))) := BM.upd (List.mem_singleton.mpr rfl) _
    show tSeq _ _ _ _ (upd H s (.lst ([V.int a, V.int b, V.int c].set 2 (V.int (c + 1)))))
    generalize upd H s (.lst ([V.int a, V.int b, V.int c].set 2 (V.int (c + 1)))) = H2 at hs2 e2
    have nm : n ≤ 1000000000 := n0
    walk_at "go"
    refine w_ixL hs2 rfl ?_
    walk_at "go"
    refine w_ixL hs2 rfl ?_
    walk_at "go"
    refine w_i (.inl (by decide)) ?_
    walk_at "go"
    refine w_i (by refine ⟨?_, ?_, ?_⟩ <;> first | decide | omega) ?_
    walk_at "go"
    refine w_i (by decide) ?_
    walk_at "go"
    generalize hn : (b + 7919 * (c + 1) + 1) ^ (3 : Int).toNat % 2147483647 = num
    have hn0 : 0 ≤ num := by rw [← hn]; exact Int.emod_nonneg _ (by decide)
    have hn1 : num < 2147483647 := by rw [← hn]; exact Int.emod_lt_of_pos _ (by decide)
    refine w_i (by refine ⟨?_, ?_⟩ <;> decide) ?_
    walk_at "go"
    refine w_i (.inl ⟨by omega, by omega⟩) ?_
    walk_at "go"
    refine w_i (by decide) ?_
    walk_at "go"
    generalize hn2 : num * (num / 1009 + 69621) % 2147483629 = num2
    have hn20 : 0 ≤ num2 := by rw [← hn2]; exact Int.emod_nonneg _ (by decide)
    have hn21 : num2 < 2147483629 := by rw [← hn2]; exact Int.emod_lt_of_pos _ (by decide)
    refine w_i (by refine ⟨?_, ?_⟩ <;> decide) ?_
    walk_at "go"
    refine w_i (.inl ⟨by omega, by omega⟩) ?_
    walk_at "go"
    refine w_i (by decide) ?_
    walk_at "go"
    refine w_i m0 ?_
    exact qq (Int.emod_nonneg _ (by omega)) (Int.emod_lt_of_pos _ m0) e2 ⟨_, _, _, hs2, b0, b1, by omega, by omega⟩
theorem sc_pick : FnScope ["_law_well_here", "_law_some"] ["_law_well_here", "_law_some"] (defScope s__law_pick) := ⟨rfl, rfl, rfl, by decide +kernel, rfl, by decide +kernel, by decide +kernel⟩
theorem ok_pick (T : Tx K mg) : Ok P w K mg base 2 (He.ga K "_law_pick") ["_law_well_here", "_law_some"] (spPickW K) := by
  obtain ⟨fd, F⟩ := T.f__law_pick
  have O_law_draw := ok_draw (P := P) (w := w) (base := base) T
  refine ⟨fd, F.ok (k := 1) sc_pick (fun vs H Q E h => ?_) (fun cdv A outer s_ H vs Q E hr h => ?_), F.bindsN fun _ _ _ _ _ _ us hl => match us, hl with | [_, _], _ => rfl, F.kp⟩
  · obtain ⟨s, n, y, rfl, hs, n0, h⟩ := h
    rfl
  obtain ⟨s, n, y, rfl, hs, n0, h⟩ := h
  have hu65 := K3.Room.units65 hr
  have hu70 := K3.Room.units70 hr
  have hu4 := K3.Room.units4 hr
  have hu64 := Nat.lt_of_succ_lt hu65
  have hu0 := Nat.lt_of_le_of_lt (Nat.le_add_right _ 65) hu65
  have hu1 := Nat.lt_of_le_of_lt (Nat.add_le_add_left (show 1 ≤ 65 by decide) _) hu65
  have r_law_draw : Room 1 _ := hr.mono (by decide)
  refine ⟨_, pss_one (ps_ret (pe_ix ix_a (pv 1) (pe_f O_law_draw r_law_draw T.g__law_draw (pa_cons (pv 0) (pa_cons (pe_callB (cr_or call_len_seq call_len_str) (by rfl) T.z_len PySem.boot_len (pa_cons (pv 1) pa_nil)) pa_nil))) (fun _ _ => rfl))), ?_⟩
  rcases h with ⟨l, xs, rfl, nl, hl, ne, lm, q⟩ | ⟨z, rfl, hz, ne, q⟩
  · have l0 : 0 < xs.length := List.length_pos_iff.mpr ne
    walk_at "go"
    refine .inl ⟨l, xs, rfl, hl.either, ?_⟩
    walk_at "go"
    refine ⟨s, _, n, rfl, hs, n0, by omega, by omega, fun r H1 hr b1 w1 => ?_⟩
    have lr : r < xs.length := by omega
    exact .inl (w_ixE (sqe_bm b1 nl hl) (atI_nat (List.getElem?_eq_getElem lr)) (q _ H1 (List.getElem_mem lr) b1 w1))
  · have l0 : 0 < z.cps.toList.length := List.length_pos_iff.mpr ne
    have lz : z.length = z.cps.toList.length := (Array.length_toList).symm
    walk_at "go"
    refine .inr ⟨z, rfl, Nat.le_trans hz (by decide), ?_⟩
    walk_at "go"
    refine ⟨s, _, n, rfl, hs, n0, by omega, by omega, fun r H1 hr b1 w1 => ?_⟩
    have lr : r < z.cps.toList.length := by omega
    exact .inr ⟨z, (r : Int), _, rfl, rfl, Nat.le_trans hz (by decide), atI_nat (List.getElem?_eq_getElem lr), q _ H1 (List.getElem_mem lr) b1 w1⟩
end
end K3
end W1_part
section W2_part
set_option Elab.async false
set_option linter.all false
set_option maxRecDepth 100000
set_option maxHeartbeats 1000000
set_option pp.deepTerms true
open PySem PySem.Spec PyProof.Rows L2
/-- go on as far as nothing is open -/
local macro_rules | `(tactic| walk_at "go") => `(tactic| repeat (first
  | with_reducible refine w_seq ?_ | with_reducible refine w_next ?_ | with_reducible refine w_set ?_ | with_reducible refine w_drop ?_ | with_reducible refine w_ret ?_ | with_reducible refine w_retN ?_
  | with_reducible refine w_if ?_ | ((with_reducible refine' w_var ?hv ?_); (case hv => exact rfl)) | with_reducible refine w_c ?_ | with_reducible refine w_nil ?_ | with_reducible refine w_cons ?_ | with_reducible refine w_op ?_ | with_reducible refine w_un ?_
  | with_reducible refine w_test ?_ | with_reducible refine w_tB ?_ | with_reducible refine w_not ?_ | with_reducible refine w_and ?_ | with_reducible refine w_or ?_ | with_reducible refine w_bl ?_
  | with_reducible refine w_andV ?_ | with_reducible refine w_orV ?_ | with_reducible refine w_notV ?_ | with_reducible refine w_ifE ?_ | with_reducible refine w_chain ?_ | with_reducible refine w_i0 ?_
  | with_reducible refine w_call ?_ | with_reducible refine w_callS ?_ | with_reducible refine w_cB ?_ | with_reducible refine w_tup ?_ | with_reducible refine w_lst ?_ | with_reducible refine w_fldV ?_
  | with_reducible refine w_neF ?_ | with_reducible refine w_neT ?_ | with_reducible refine w_notN ?_ | with_reducible refine w_isN ?_ | with_reducible refine w_gname ?_ | with_reducible refine w_gsub ?_ | with_reducible refine w_asg ?_ | with_reducible refine w_sl ?_ | with_reducible refine w_noP ?_ | with_reducible refine w_int1 ?_ | with_reducible refine w_part ?_ | with_reducible refine w_meth ?_ | with_reducible refine w_din ?_ | with_reducible refine w_dnotin ?_ | with_reducible refine w_dgt ?_ | with_reducible refine w_dget1 ?_ | with_reducible refine w_dget2 ?_ | with_reducible refine w_dput ?_ | with_reducible refine w_yes ?_ | with_reducible refine w_nT ?_ | with_reducible refine w_nF ?_ | with_reducible refine w_iteT ?_ | with_reducible refine w_iteF ?_))
namespace L2
open PySem PySem.Spec PyProof.Rows
theorem nodup_le {α : Type} [DecidableEq α] : ∀ {l m : List α}, l.Nodup → (∀ x ∈ l, x ∈ m) → l.length ≤ m.length
  | [], _, _, _ => Nat.zero_le _
  | a :: l, m, h, s => by
    rw [List.nodup_cons] at h
    have ha := s a (List.mem_cons_self ..)
    have ih := nodup_le (l := l) (m := m.erase a) h.2 fun x hx => (List.mem_erase_of_ne (fun z => h.1 (by rw [← z]; exact hx))).mpr (s x (List.mem_cons_of_mem _ hx))
    rw [List.length_erase_of_mem ha] at ih
    have : 0 < m.length := List.length_pos_of_mem ha
    rw [List.length_cons]
    omega
abbrev rAddS : R2 := fun x y H Q => ∃ i j, x = .str i ∧ y = .str j ∧ i.length + j.length ≤ sizeLine ∧ Q (.str (i ++ j)) H
end L2
namespace K3
theorem len_app (a b : Str) : (a ++ b).length = a.length + b.length := by
  show (a.cps ++ b.cps).size = _
  rw [Array.size_append] <;> rfl
theorem cps_app (a b : Str) : (a ++ b).cps.toList = a.cps.toList ++ b.cps.toList := by
  show (a.cps ++ b.cps).toList = _
  rw [Array.toList_append]
theorem w_addS {a b : Str} {H : Hp} {Q : VK} (h : a.length + b.length ≤ 1000) (q : Q (.str (a ++ b)) H) : ∃ i j, V.str a = .str i ∧ V.str b = .str j ∧ i.length + j.length ≤ sizeLine ∧ Q (.str (i ++ j)) H := ⟨a, b, rfl, rfl, Nat.le_trans h (by decide), q⟩
def nmB : List Nat → Bool
  | [] => false
  | c :: r => decide (c ∈ lets.cps.toList) && (c :: r).all fun c => decide (c ∈ lets.cps.toList) || decide (c ∈ figs.cps.toList)
theorem nm_app {cs : List Nat} {d : Nat} (h : nmB cs = true) (k : d ∈ (lets ++ figs).cps.toList) : nmB (cs ++ [d]) = true := by
  cases cs with
  | nil => cases h
  | cons c r =>
    obtain ⟨h1, h2⟩ := Bool.and_eq_true_iff.mp (show (decide (c ∈ lets.cps.toList) && _) = true from h)
    refine Bool.and_eq_true_iff.mpr ⟨h1, ?_⟩
    refine (show ((c :: r) ++ [d]).all _ = true from ?_)
    rw [List.all_append, h2, Bool.true_and]
    rw [cps_app] at k
    rcases List.mem_append.mp k with k | k
    · rw [List.all_cons, decide_eq_true k]; rfl
    · rw [List.all_cons, decide_eq_true k, Bool.or_true]; rfl
theorem nm_one {d : Nat} (k : d ∈ lets.cps.toList) : nmB [d] = true := by
  show (decide (d ∈ lets.cps.toList) && [d].all _) = true
  rw [List.all_cons, decide_eq_true k]
  rfl
theorem name_of {z : Str} (h : nmB z.cps.toList = true) (l : z.length ≤ 8) : isName z = true := by
  have l1 : 1 ≤ z.length := by
    have e : z.length = z.cps.toList.length := (Array.length_toList).symm
    cases hz : z.cps.toList with
    | nil => rw [hz] at h; cases h
    | cons c r => rw [e, hz, List.length_cons]; omega
  unfold isName
  rw [decide_eq_true l1, decide_eq_true l, Bool.true_and, Bool.true_and]
  cases hz : z.cps.toList with
  | nil => rw [hz] at h; cases h
  | cons c r => rw [hz] at h; exact h
/-- a name, and not one word that a law keeps for itself -/
def nmZ (z : Str) : Bool := isName z && !decide (z = "zzzz1")
theorem nmz_name {z : Str} (h : nmZ z = true) : isName z = true := (Bool.and_eq_true_iff.mp h).1
theorem nmz_ne {z : Str} (h : nmZ z = true) : z ≠ "zzzz1" := by
  have := (Bool.and_eq_true_iff.mp h).2
  intro e
  rw [e] at this
  exact absurd this (by decide)
theorem nmz_of {z : Str} (h : nmB z.cps.toList = true) (l : z.length ≤ 8) (k : z.length ≠ 5) : nmZ z = true := by
  unfold nmZ
  rw [name_of h l, decide_eq_false fun e => k (by rw [e]; decide)]
  rfl
def nk (k : Nat) : Str := ("n" : Str) ++ (toString (k : Int) : Str)
theorem nk_nd : ((List.range 64).map nk).Nodup := by decide +kernel
theorem nk_name : ∀ k < 64, nmZ (nk k) = true := by decide +kernel
theorem nk_len : ∀ k : Nat, k < 64 → (toString (k : Int) : Str).length ≤ 7 := by decide +kernel
theorem nk_left {zs : List Str} (h : zs.length ≤ 60) : ∃ k, k ≤ zs.length ∧ nk k ∉ zs := by
  refine Classical.byContradiction fun n => ?_
  have all : ∀ x ∈ (List.range (zs.length + 1)).map nk, x ∈ zs := fun x hx => by
    obtain ⟨k, hk, rfl⟩ := List.mem_map.mp hx
    have := List.mem_range.mp hk
    exact Classical.byContradiction fun z => n ⟨k, by omega, z⟩
  have nd : ((List.range (zs.length + 1)).map nk).Nodup := by
    have e : List.range (zs.length + 1) = (List.range 64).take (zs.length + 1) := by rw [List.take_range, Nat.min_eq_left (by omega)]
    rw [e, List.map_take]
    exact nk_nd.sublist (List.take_sublist _ _)
  have := nodup_le nd all
  rw [List.length_map, List.length_range] at this
  omega
def words10 : List Str := ["one", "some", "number", "check", "section", "rounds", "end", "where", "is", "none"]
theorem words_name : ∀ z ∈ words10, nmZ z = true := by decide +kernel
def spNameW (K : PySem.W.Frag) : Sp := fun vs H Q _ => ∃ (s l : Addr) (n : Nat) (zs : List Str), vs = [.ref s, .ref l] ∧ Well H s n ∧ n + 10 ≤ most ∧ l ≠ s ∧ SqE K H l (zs.map V.str) ∧ zs.length ≤ 60 ∧
  ∀ z H', nmZ z = true → z ∉ zs → BM [s] H H' → Well H' s (n + 10) → Q (.str z) H'
def spNamesW (K : PySem.W.Frag) : Sp := fun vs H Q _ => ∃ (s : Addr) (n m : Nat), vs = [.ref s, .int (m : Int)] ∧ Well H s n ∧ n + 10 * m ≤ most ∧ m ≤ 60 ∧
  ∀ (p : Addr) (H' : Hp) (zs : List Str), H p = none → BM [s] H H' → Well H' s (n + 10 * m) → H' p = some (.lst (zs.map V.str)) → zs.length = m → zs.Nodup → (∀ z ∈ zs, nmZ z = true) → Q (.ref p) H'
section
variable {P : Program} {w : World} {K : PySem.W.Frag} {mg : Str → Option Value} {base : Heap}
theorem sc_name : FnScope ["_law_well_here", "_law_taken", "_law_letters", "_law_turn", "_law_name_here", "_law_k", "_law_some", "_law_word"] ["_law_well_here", "_law_taken"] (defScope s__law_name) := ⟨rfl, rfl, rfl, by decide +kernel, rfl, by decide +kernel, by decide +kernel⟩
theorem ok_name (T : Tx K mg) : Ok P w K mg base 3 (He.ga K "_law_name") ["_law_well_here", "_law_taken"] (spNameW K) := by
  obtain ⟨fd, F⟩ := T.f__law_name
  have O_law_pick := ok_pick (P := P) (w := w) (base := base) T
  have O_law_draw := ok_draw (P := P) (w := w) (base := base) T
  refine ⟨fd, F.ok (k := 2) sc_name (fun vs H Q E h => ?_) (fun cdv A outer s_ H vs Q E hr h => ?_), F.bindsN fun _ _ _ _ _ _ us hl => match us, hl with | [_, _], _ => rfl, F.kp⟩
  · obtain ⟨s, l, n, zs, rfl, hs, hn, nl, hl, lz, q⟩ := h
    rfl
  obtain ⟨s, l, n, zs, rfl, hs, hn, nl, hl, lz, q⟩ := h
  have hu65 := K3.Room.units65 hr
  have hu70 := K3.Room.units70 hr
  have hu4 := K3.Room.units4 hr
  have hu64 := Nat.lt_of_succ_lt hu65
  have hu0 := Nat.lt_of_le_of_lt (Nat.le_add_right _ 65) hu65
  have hu1 := Nat.lt_of_le_of_lt (Nat.add_le_add_left (show 1 ≤ 65 by decide) _) hu65
  have r_law_pick : Room 2 _ := hr.mono (by decide)
  have r_law_draw : Room 1 _ := hr.mono (by decide)
  refine ⟨_, pss_cons (ps_set (i := 2) sc_name.nd rfl (Or.inl rfl) pe_str)
      (pss_cons (ps_set (i := 3) sc_name.nd rfl (Or.inl rfl) (pe_f O_law_draw r_law_draw T.g__law_draw (pa_cons (pv 0) (pa_cons pe_int pa_nil))))
      (pss_cons (ps_set (i := 4) sc_name.nd rfl (Or.inl rfl) (pe_f O_law_pick r_law_pick T.g__law_pick (pa_cons (pv 0) (pa_cons (pv 2) pa_nil))))
      (pss_cons (ps_if (pt_cmpR op_eq (pv 3) pe_int (nomark _)) (pss_one (ps_set (i := 4) sc_name.nd rfl (Or.inl rfl) (pe_f O_law_pick r_law_pick T.g__law_pick (pa_cons (pv 0) (pa_cons (pe_lst (pa_cons pe_str (pa_cons pe_str (pa_cons pe_str (pa_cons pe_str (pa_cons pe_str (pa_cons pe_str (pa_cons pe_str (pa_cons pe_str (pa_cons pe_str (pa_cons pe_str pa_nil))))))))))) pa_nil))))) (pss_one (ps_if (pt_cmpR op_lt (pv 3) pe_int (nomark _)) (pss_one (ps_for (passes_of rfl) (by rfl) (pi_range1 rfl T.z_range (pa_cons (pe_ix ix_list (pe_lst (pa_cons pe_int (pa_cons pe_int (pa_cons pe_int pa_nil)))) (pe_f O_law_draw r_law_draw T.g__law_draw (pa_cons (pv 0) (pa_cons pe_int pa_nil))) (fun _ _ => rfl)) pa_nil)) (pg_name (i := 5) sc_name.nd rfl (Or.inl rfl)) (pss_one (ps_set (i := 4) sc_name.nd rfl (Or.inl rfl) (pe_op op_add_str (pv 4) (pe_f O_law_pick r_law_pick T.g__law_pick (pa_cons (pv 0) (pa_cons (pe_op op_add_str (pv 2) pe_str) pa_nil)))))))) pss_nil)))
      (pss_cons (ps_set (i := 6) sc_name.nd rfl (Or.inl rfl) (pe_op op_cat (pe_lst (pa_cons (pv 4) pa_nil)) (by exact pe_lc (own := [("_law_k", 5)]) (g := gName 5) (tt := tYes) (te := (tOp rAddS (tC (.str "n")) (tCB (fun xs H Q => ∃ i, xs = [V.int i] ∧ i.natAbs.log2 < 1920 ∧ Q (.str (toString i)) H) (tCons (tVar 5) tNil)))) (by rfl) sc_name.nd (pi_range1 rfl T.z_range (pa_cons (pe_op op_add (pe_callB call_len_seq (by rfl) T.z_len PySem.boot_len (pa_cons (pv 1) pa_nil)) pe_int) pa_nil)) (blkOk_by (own := [("_law_k", 5)]) (N := ["_law_well_here", "_law_taken", "_law_letters", "_law_turn", "_law_name_here", "_law_k", "_law_some", "_law_word"]) (sc := defScope s__law_name) (by decide +kernel)) (fun _ _ _ _ _ => (pg_name (i := 5) sc_name.nd rfl (Or.inl rfl))) (fun _ _ _ _ _ => pts_nil) (fun _ _ _ _ _ => (pe_op op_add_str pe_str (pe_callTy call_str_int (by rfl) T.z_str (by decide +kernel) (pa_cons (pv 5) pa_nil)))))))
      (pss_one (ps_ret (pe_ix ix_list (by exact pe_lc (own := [("_law_word", 7)]) (g := gName 7) (tt := (tTest (tOp (rIn K true) (tVar 7) (tVar 1)))) (te := (tVar 7)) (by rfl) sc_name.nd (pi_list (pv 6)) (blkOk_by (own := [("_law_word", 7)]) (N := ["_law_well_here", "_law_taken", "_law_letters", "_law_turn", "_law_name_here", "_law_k", "_law_some", "_law_word"]) (sc := defScope s__law_name) (by decide +kernel)) (fun _ _ _ _ _ => (pg_name (i := 7) sc_name.nd rfl (Or.inl rfl))) (fun _ _ _ _ _ => (pts_one (pt_cmpR op_notIn_seq (pv 7) (pv 1) (by rfl)))) (fun _ _ _ _ _ => (pv 7))) pe_int (fun _ _ => rfl)))))))), ?_⟩
  walk_at "go"
  refine ⟨s, 5, n, rfl, hs, by omega, by decide, by decide, fun r1 H1 hr1 b1 w1 => ?_⟩
  walk_at "go"
  refine ⟨s, n + 1, _, rfl, w1, by omega, .inr ⟨lets, rfl, by decide +kernel, by decide +kernel, fun c H2 hc b2 w2 => ?_⟩⟩
  have b02 := b1.trans b2
  walk_at "go"
  refine ⟨rfl, ?_⟩
  rw [decV]
  -- what is left: the name that was found, z; then the last two rows
  have rest : ∀ (z : Str) (H3 : Hp) (o5 : Option V) (QQ : L2.St → Hp → Prop), nmZ z = true → BM [s] H H3 → Well H3 s (n + 10) → (∀ (y : Str) (H4 : Hp) (σ4 : L2.St), nmZ y = true → y ∉ zs → BM [s] H H4 → Well H4 s (n + 10) → Q (.str y) H4) →
      (tSeq (tAsg (tOp rCat (tLst (tCons (tVar 4) tNil)) (tLc (iRng1 (tCons (tOp (rI0 fun i j => .int (i + j)) (tCB (fun xs H Q => ∃ p ys, xs = [V.ref p] ∧ (SqL K H p ys ∨ SqT K H p ys) ∧ Q (.int ys.length) H) (tCons (tVar 1) tNil)) (tC (.int 1))) tNil)) (gName 5) tYes (tOp rAddS (tC (.str "n")) (tCB (fun xs H Q => ∃ i, xs = [V.int i] ∧ i.natAbs.log2 < 1920 ∧ Q (.str (toString i)) H) (tCons (tVar 5) tNil))) [5])) (gName 6)) (tRet (tOp (rIxL K) (tLc (iList K (tVar 6)) (gName 7) (tTest (tOp (rIn K true) (tVar 7) (tVar 1))) (tVar 7) [7]) (tC (.int 0))))) { nx := fun _ H' => Q .non H', rt := Q } [some (.ref s), some (.ref l), some (.str lets), some (.int (r1 : Int)), some (.str z), o5, none, none] H3 := by
    intro z H3 o5 QQ hz b3 w3 q3
    have hl3 := sqe_bm b3 nl hl
    walk_at "go"
    refine ⟨by show 1 ≤ sizeLine; decide, fun p1 hp1 => ?_⟩
    have e1 := Same.new hp1 (.lst [V.str z])
    walk_at "go"
    refine lc_open (rng_open ?_)
    walk_at "go"
    refine ⟨l, _, rfl, (hl3.same e1).either, ?_⟩
    rw [List.length_map]
    walk_at "go"
    refine ⟨_, rfl, by omega, by omega, fun D hD => ?_⟩
    rw [show ((zs.length : Int) + 1).toNat = zs.length + 1 by omega]
    have hp1' : (upd H3 p1 (.lst [V.str z])) p1 = some (.lst [V.str z]) := upd_same
    generalize upd H3 p1 (.lst [V.str z]) = H4 at e1 hD hp1'
    refine lc_range (lo := 0) (n := zs.length + 1) (fun (i : Nat) H' => Same H4 H' ∧ H' D = some (.lst (((List.range i).map nk).map V.str))) ⟨Same.new hD _, upd_same⟩ ?_ ?_
    · rintro i H5 hi ⟨e5, h5⟩
      walk_at "go"
      refine ⟨rfl, ?_⟩
      walk_at "go"
      refine ⟨_, rfl, ?_, ?_⟩
      · have : (0 + (i : Int)).natAbs = i := by omega
        rw [this]
        have := Nat.log2_lt (n := i) (k := 10)
        by_cases i0 : i = 0
        · rw [i0]; decide
        · exact Nat.lt_trans ((Nat.log2_lt i0).mpr (show i < 2 ^ 10 by omega)) (by decide)
      · have ei : (0 + (i : Int)) = (i : Int) := by omega
        rw [ei]
        have l7 := nk_len i (by omega)
        refine ⟨_, _, rfl, rfl, Nat.le_trans (show 1 + (toString (i : Int) : Str).length ≤ 1000 by omega) (by decide), _, h5, ?_, e5.mut hD, ?_⟩
        · rw [List.length_map, List.length_map, List.length_range]
          exact Nat.lt_of_le_of_lt (show i ≤ 100 by omega) (by decide)
        · rw [upd_same, List.range_succ, List.map_append, List.map_append]
          rfl
    · rintro H5 ⟨e5, h5⟩
      refine ⟨p1, D, _, _, rfl, rfl, e5 _ _ hp1', h5, ?_, fun p2 hp2 => ?_⟩
      · rw [List.length_map, List.length_map, List.length_range]
        exact Nat.le_trans (show [V.str z].length + (zs.length + 1) ≤ 100 by show 1 + (zs.length + 1) ≤ 100; omega) (by decide)
      have e6 := Same.new hp2 (.lst ([V.str z] ++ ((List.range (zs.length + 1)).map nk).map V.str))
      have h6 : (upd H5 p2 (.lst ([V.str z] ++ ((List.range (zs.length + 1)).map nk).map V.str))) p2 = some (.lst ((z :: (List.range (zs.length + 1)).map nk).map V.str)) := upd_same
      generalize upd H5 p2 (.lst ([V.str z] ++ ((List.range (zs.length + 1)).map nk).map V.str)) = H6 at e6 h6
      have e36 := (e1.trans e5).trans e6
      have hl6 := hl3.same e36
      walk_at "go"
      refine lc_open (list_open ?_)
      walk_at "go"
      refine ⟨p2, rfl, ⟨_, SqL.of h6⟩, fun D2 hD2 => ?_⟩
      refine lc_list (K := K) (a := p2) (xs := (z :: (List.range (zs.length + 1)).map nk).map V.str) (fun (i : Nat) H' => Same H6 H' ∧ H' D2 = some (.lst ((((z :: (List.range (zs.length + 1)).map nk).take i).filter fun y => decide (y ∉ zs)).map V.str))) ⟨Same.new hD2 _, upd_same⟩ (fun i H' _ k => SqL.of (k.1 _ _ h6)) ?_ ?_
      · rintro i x H7 hx ⟨e7, h7⟩
        rw [List.getElem?_map] at hx
        obtain ⟨y, hy, rfl⟩ := Option.map_eq_some_iff.mp hx
        walk_at "go"
        refine ⟨rfl, ?_⟩
        walk_at "go"
        refine ⟨l, _, rfl, (hl6.same e7).either, rfl, flat_strs zs, ?_⟩
        show ∃ k, V.bl (!inV (.str y) (zs.map V.str)) = .bl k ∧ _
        rw [inV_strs]
        have ft : ((z :: (List.range (zs.length + 1)).map nk).take (i + 1)).filter (fun y => decide (y ∉ zs)) = ((z :: (List.range (zs.length + 1)).map nk).take i).filter (fun y => decide (y ∉ zs)) ++ (if y ∉ zs then [y] else []) := by
          rw [List.take_add_one, hy, List.filter_append]
          congr 1
          by_cases c : y ∈ zs <;> simp [c]
        by_cases c : y ∈ zs
        · rw [decide_eq_true c]
          refine ⟨false, rfl, ?_⟩
          walk_at "go"
          refine ⟨e7, ?_⟩
          rw [h7, ft, if_neg (fun k => k c), List.append_nil]
        · rw [decide_eq_false c]
          refine ⟨true, rfl, ?_⟩
          walk_at "go"
          refine ⟨_, h7, ?_, e7.mut hD2, ?_⟩
          · rw [List.length_map]
            refine Nat.lt_of_le_of_lt (Nat.le_trans (List.length_filter_le _ _) (List.length_take_le _ _)) ?_
            have := (List.getElem?_eq_some_iff.mp hy).1
            rw [List.length_cons, List.length_map, List.length_range] at this
            exact Nat.lt_of_le_of_lt (show i ≤ 100 by omega) (by decide)
          · rw [upd_same, ft, if_pos c, List.map_append]
            rfl
      · rintro H7 ⟨e7, h7⟩
        rw [List.length_map, List.take_length] at h7
        walk_at "go"
        obtain ⟨k, hk, hkn⟩ := nk_left lz
        have all : ∀ y ∈ (z :: (List.range (zs.length + 1)).map nk).filter (fun y => decide (y ∉ zs)), nmZ y = true ∧ y ∉ zs := fun y hy => by
          obtain ⟨h1, h2⟩ := List.mem_filter.mp hy
          refine ⟨?_, of_decide_eq_true h2⟩
          rcases List.mem_cons.mp h1 with rfl | h1
          · exact hz
          · obtain ⟨j, hj, rfl⟩ := List.mem_map.mp h1
            exact nk_name j (by have := List.mem_range.mp hj; omega)
        have hmem : nk k ∈ (z :: (List.range (zs.length + 1)).map nk).filter (fun y => decide (y ∉ zs)) := List.mem_filter.mpr ⟨List.mem_cons_of_mem _ (List.mem_map_of_mem (List.mem_range.mpr (by omega))), decide_eq_true hkn⟩
        cases hf : (z :: (List.range (zs.length + 1)).map nk).filter (fun y => decide (y ∉ zs)) with
        | nil => rw [hf] at hmem; cases hmem
        | cons y r =>
          obtain ⟨y1, y2⟩ := all y (by rw [hf]; exact List.mem_cons_self ..)
          rw [hf] at h7
          refine ⟨D2, _, 0, .str y, rfl, rfl, SqL.of h7, atI_nat (j := 0) rfl, ?_⟩
          have e37 := e36.trans e7
          exact q3 y H7 [] y1 y2 (b3.same e37) (w3.same e37)
  by_cases c1 : (r1 : Int) = 0
  · rw [decide_eq_true c1]
    walk_at "go"
    refine ⟨by show 10 ≤ sizeLine; decide, fun pw hpw => ?_⟩
    have ew := Same.new hpw (.lst (words10.map V.str))
    have ww := w2.same ew
    walk_at "go"
    refine ⟨s, n + 1 + 1, _, rfl, ww, by omega, .inl ⟨pw, words10.map V.str, rfl, w2.ne hpw, SqE.lst upd_same, (fun z => nomatch z), by show 10 ≤ 100000; decide, fun v H3 hv b3 w3 => ?_⟩⟩
    obtain ⟨z, hz, rfl⟩ := List.mem_map.mp hv
    exact rest z H3 _ (fun _ _ => True) (words_name z hz) ((b02.same ew).trans b3) (w3.mono (by omega)) fun y H4 _ h1 h2 h3 h4 => q y H4 h1 h2 h3 h4
  · rw [decide_eq_false c1]
    walk_at "go"
    have l36 : (lets ++ figs).length = 36 := by decide +kernel
    by_cases c2 : (r1 : Int) < 3
    · rw [decide_eq_true c2]
      walk_at "go"
      refine rng_open ?_
      walk_at "go"
      refine ⟨by show 3 ≤ sizeLine; decide, fun p3 hp3 => ?_⟩
      have e3 := Same.new hp3 (.lst [V.int 1, V.int 2, V.int 7])
      walk_at "go"
      refine ⟨s, 3, n + 2, rfl, w2.same e3, by omega, by decide, by decide, fun r3 H4 hr3 b4 w4 => ?_⟩
      have h34 : H4 p3 = some (.lst [V.int 1, V.int 2, V.int 7]) := b4.at upd_same (fun z => w2.ne hp3 (List.mem_singleton.mp z))
      obtain ⟨j, hj, lj, lj4⟩ : ∃ j : Nat, atI [V.int 1, V.int 2, V.int 7] (r3 : Int) = some (.int (j : Int)) ∧ j ≤ 7 ∧ j ≠ 4 := by
        have : r3 = 0 ∨ r3 = 1 ∨ r3 = 2 := by omega
        rcases this with rfl | rfl | rfl
        · exact ⟨1, rfl, by decide, by decide⟩
        · exact ⟨2, rfl, by decide, by decide⟩
        · exact ⟨7, rfl, by decide, by decide⟩
      refine ⟨p3, _, _, _, rfl, rfl, SqL.of h34, hj, ?_⟩
      walk_at "go"
      refine ⟨_, rfl, by omega, by omega, ?_⟩
      rw [Int.toNat_natCast]
      refine for_range (lo := 0) (n := j) (fun (i : Nat) σ H' => ∃ (z : Str) (o5 : Option V), σ = [some (.ref s), some (.ref l), some (.str lets), some (.int (r1 : Int)), some (.str z), o5, none, none] ∧ nmB z.cps.toList = true ∧ z.length = 1 + i ∧ BM [s] H H' ∧ Well H' s (n + 3 + i))
        ⟨⟨#[c]⟩, none, rfl, nm_one hc, rfl, (b02.same e3).trans b4, w4⟩ ?_ ?_
      · rintro i σ H5 hi ⟨z, o5, rfl, hz, lz1, b5, w5⟩
        walk_at "go"
        refine ⟨_, _, rfl, rfl, (by decide +kernel), ?_⟩
        walk_at "go"
        refine ⟨s, n + 3 + i, _, rfl, w5, by omega, .inr ⟨lets ++ figs, rfl, by rw [l36]; decide, by decide +kernel, fun d H6 hd b6 w6 => ?_⟩⟩
        refine ⟨_, _, rfl, rfl, Nat.le_trans (show z.length + 1 ≤ 1000 by omega) (by decide), ?_⟩
        refine ⟨_, _, rfl, ?_, by rw [len_app, lz1]; rfl, b5.trans b6, w6⟩
        rw [cps_app]
        exact nm_app hz hd
      · rintro σ H5 ⟨z, o5, rfl, hz, lz1, b5, w5⟩
        exact rest z H5 _ (fun _ _ => True) (nmz_of hz (by omega) (by omega)) b5 (w5.mono (by omega)) fun y H6 _ h1 h2 h3 h4 => q y H6 h1 h2 h3 h4
    · rw [decide_eq_false c2]
      exact rest ⟨#[c]⟩ H2 _ (fun _ _ => True) (nmz_of (nm_one hc) (by show 1 ≤ 8; decide) (by show (1 : Nat) ≠ 5; decide)) b02 (w2.mono (by omega)) fun y H6 _ h1 h2 h3 h4 => q y H6 h1 h2 h3 h4
theorem sc_names : FnScope ["_law_well_here", "_law_many", "_law_found", "_law_k"] ["_law_well_here", "_law_many"] (defScope s__law_names) := ⟨rfl, rfl, rfl, by decide +kernel, rfl, by decide +kernel, by decide +kernel⟩
theorem ok_names (T : Tx K mg) : Ok P w K mg base 4 (He.ga K "_law_names") ["_law_well_here", "_law_many"] (spNamesW K) := by
  obtain ⟨fd, F⟩ := T.f__law_names
  have O_law_name := ok_name (P := P) (w := w) (base := base) T
  refine ⟨fd, F.ok (k := 3) sc_names (fun vs H Q E h => ?_) (fun cdv A outer s_ H vs Q E hr h => ?_), F.bindsN fun _ _ _ _ _ _ us hl => match us, hl with | [_, _], _ => rfl, F.kp⟩
  · obtain ⟨s, n, m, rfl, hs, hn, m60, q⟩ := h
    rfl
  obtain ⟨s, n, m, rfl, hs, hn, m60, q⟩ := h
  have hu65 := K3.Room.units65 hr
  have hu70 := K3.Room.units70 hr
  have hu4 := K3.Room.units4 hr
  have hu64 := Nat.lt_of_succ_lt hu65
  have hu0 := Nat.lt_of_le_of_lt (Nat.le_add_right _ 65) hu65
  have hu1 := Nat.lt_of_le_of_lt (Nat.add_le_add_left (show 1 ≤ 65 by decide) _) hu65
  have r_law_name : Room 3 _ := hr.mono (by decide)
  refine ⟨_, pss_cons (ps_set (i := 2) sc_names.nd rfl (Or.inl rfl) (pe_lst pa_nil))
      (pss_cons (ps_for (passes_of rfl) (by rfl) (pi_range1 rfl T.z_range (pa_cons (pv 1) pa_nil)) (pg_name (i := 3) sc_names.nd rfl (Or.inl rfl)) (pss_one (ps_expr (pe_bm PySem.F.plainAttrs_list PySem.F.slot_list_append PySem.F.type_list_append mt_append (pv 2) (pa_cons (pe_f O_law_name r_law_name T.g__law_name (pa_cons (pv 0) (pa_cons (pv 2) pa_nil))) pa_nil)))))
      (pss_one (ps_ret (pv 2)))), ?_⟩
  walk_at "go"
  refine ⟨Nat.zero_le _, fun p0 hp0 => ?_⟩
  have e0 := Same.new hp0 (.lst [])
  walk_at "go"
  refine rng_open ?_
  walk_at "go"
  refine ⟨_, rfl, by omega, by omega, ?_⟩
  rw [Int.toNat_natCast]
  refine for_range (lo := 0) (n := m) (fun (i : Nat) σ H' => ∃ (zs : List Str) (o3 : Option V), σ = [some (.ref s), some (.int (m : Int)), some (.ref p0), o3] ∧ BM [s] H H' ∧ Well H' s (n + 10 * i) ∧ H' p0 = some (.lst (zs.map V.str)) ∧ zs.length = i ∧ zs.Nodup ∧ ∀ z ∈ zs, nmZ z = true)
    ⟨[], none, rfl, BM.of e0, hs.same e0, upd_same, rfl, List.nodup_nil, fun z h => nomatch h⟩ ?_ ?_
  · rintro i σ H1 hi ⟨zs, o3, rfl, b1, w1, h1, lz, nd, nm⟩
    walk_at "go"
    refine ⟨_, rfl, .inl ⟨rfl, _, SqL.of h1⟩, ?_⟩
    walk_at "go"
    have np : p0 ≠ s := hs.ne hp0
    refine ⟨s, p0, n + 10 * i, zs, rfl, w1, by omega, np, .lst h1, by omega, fun z H2 hz nz b2 w2 => ?_⟩
    have h2 := b2.at h1 (fun k => np (List.mem_singleton.mp k))
    walk_at "go"
    refine ⟨p0, _, _, rfl, rfl, h2, ?_, ?_⟩
    · rw [List.length_map]
      exact Nat.lt_of_le_of_lt (show zs.length ≤ 100 by omega) (by decide)
    refine ⟨zs ++ [z], _, rfl, (b1.trans b2).mut hp0, (w2.mono (by omega)).upd np _, by rw [upd_same, List.map_append]; rfl, by rw [List.length_append, lz]; rfl, nodup_snoc nd nz, fun y hy => ?_⟩
    rcases List.mem_append.mp hy with hy | hy
    · exact nm y hy
    · rw [List.mem_singleton.mp hy]; exact hz
  · rintro σ H1 ⟨zs, o3, rfl, b1, w1, h1, lz, nd, nm⟩
    walk_at "go"
    exact q p0 H1 zs hp0 b1 w1 h1 lz nd nm
end
end K3
end W2_part
section Y1_part
set_option Elab.async false
set_option linter.all false
set_option maxRecDepth 100000
set_option maxHeartbeats 1000000
set_option pp.deepTerms true
open PySem PySem.Spec PyProof.Rows L2
/-- go on as far as nothing is open -/
local macro_rules | `(tactic| walk_at "go") => `(tactic| repeat (first
  | with_reducible refine w_seq ?_ | with_reducible refine w_next ?_ | with_reducible refine w_set ?_ | with_reducible refine w_drop ?_ | with_reducible refine w_ret ?_ | with_reducible refine w_retN ?_
  | with_reducible refine w_if ?_ | ((with_reducible refine' w_var ?hv ?_); (case hv => exact rfl)) | with_reducible refine w_c ?_ | with_reducible refine w_nil ?_ | with_reducible refine w_cons ?_ | with_reducible refine w_op ?_ | with_reducible refine w_un ?_
  | with_reducible refine w_test ?_ | with_reducible refine w_tB ?_ | with_reducible refine w_not ?_ | with_reducible refine w_and ?_ | with_reducible refine w_or ?_ | with_reducible refine w_bl ?_
  | with_reducible refine w_andV ?_ | with_reducible refine w_orV ?_ | with_reducible refine w_notV ?_ | with_reducible refine w_ifE ?_ | with_reducible refine w_chain ?_ | with_reducible refine w_i0 ?_
  | with_reducible refine w_call ?_ | with_reducible refine w_callS ?_ | with_reducible refine w_cB ?_ | with_reducible refine w_tup ?_ | with_reducible refine w_lst ?_ | with_reducible refine w_fldV ?_
  | with_reducible refine w_neF ?_ | with_reducible refine w_neT ?_ | with_reducible refine w_notN ?_ | with_reducible refine w_isN ?_ | with_reducible refine w_gname ?_ | with_reducible refine w_gsub ?_ | with_reducible refine w_asg ?_ | with_reducible refine w_sl ?_ | with_reducible refine w_noP ?_ | with_reducible refine w_int1 ?_ | with_reducible refine w_part ?_ | with_reducible refine w_meth ?_ | with_reducible refine w_din ?_ | with_reducible refine w_dnotin ?_ | with_reducible refine w_dgt ?_ | with_reducible refine w_dget1 ?_ | with_reducible refine w_dget2 ?_ | with_reducible refine w_dput ?_ | with_reducible refine w_yes ?_ | with_reducible refine w_nT ?_ | with_reducible refine w_nF ?_ | with_reducible refine w_iteT ?_ | with_reducible refine w_iteF ?_))
namespace K3
/-! ### the pool's fields -/
inductive Fd | txt (fs : List Str) | num (lo hi : Int)
def Fd.vs : Fd → List V
  | .txt fs => fs.map V.str
  | .num lo hi => [.int lo, .int hi]
def FdOk (os : List Str) (kind : Str) : Fd → Prop
  | .txt fs => kind ≠ "number" ∧ fs.Sublist os ∧ 1 ≤ fs.length
  | .num lo hi => kind = "number" ∧ -2 ≤ lo ∧ lo ≤ 1 ∧ lo + 1 ≤ hi ∧ hi ≤ lo + 3
theorem w_orT {K : PySem.W.Frag} {ta tb : TE} {σ : L2.St} {H : Hp} {Q : VK} (h : ta σ H fun x H1 => ∃ k, TruV K x H1 k ∧ if k = true then Q x H1 else tb σ H1 Q) : tOrT K ta tb σ H Q := h
def spFieldsW (K : PySem.W.Frag) : Sp := fun vs H Q _ => ∃ (s l : Addr) (n : Nat) (os : List Str) (kind : Str), vs = [.ref s, .ref l, .str kind] ∧ Well H s n ∧ n + 10 ≤ most ∧ l ≠ s ∧ SqL K H l (os.map V.str) ∧ 1 ≤ os.length ∧ os.length ≤ 4 ∧
  ∀ (t : Addr) (H' : Hp) (fd : Fd), H t = none → BM [s] H H' → Well H' s (n + 10) → H' t = some (.tup fd.vs) → FdOk os kind fd → Q (.ref t) H'
section
variable {P : Program} {w : World} {K : PySem.W.Frag} {mg : Str → Option Value} {base : Heap}
theorem sc_fields : FnScope ["_law_well_here", "_law_options", "_law_kind", "_law_low", "_law_one"] ["_law_well_here", "_law_options", "_law_kind"] (defScope s__law_fields) := ⟨rfl, rfl, rfl, by decide +kernel, rfl, by decide +kernel, by decide +kernel⟩
theorem ok_fields (T : Tx K mg) : Ok P w K mg base 2 (He.ga K "_law_fields") ["_law_well_here", "_law_options", "_law_kind"] (spFieldsW K) := by
  obtain ⟨fd, F⟩ := T.f__law_fields
  have O_law_draw := ok_draw (P := P) (w := w) (base := base) T
  refine ⟨fd, F.ok (k := 1) sc_fields (fun vs H Q E h => ?_) (fun cdv A outer s_ H vs Q E hr h => ?_), F.bindsN fun _ _ _ _ _ _ us hl => match us, hl with | [_, _, _], _ => rfl, F.kp⟩
  · obtain ⟨s, l, n, os, kind, rfl, hs, hn, nl, hl, l1, l4, q⟩ := h
    rfl
  obtain ⟨s, l, n, os, kind, rfl, hs, hn, nl, hl, l1, l4, q⟩ := h
  have hu65 := K3.Room.units65 hr
  have hu70 := K3.Room.units70 hr
  have hu4 := K3.Room.units4 hr
  have hu64 := Nat.lt_of_succ_lt hu65
  have hu0 := Nat.lt_of_le_of_lt (Nat.le_add_right _ 65) hu65
  have hu1 := Nat.lt_of_le_of_lt (Nat.add_le_add_left (show 1 ≤ 65 by decide) _) hu65
  have r_law_draw : Room 1 _ := hr.mono (by decide)
  refine ⟨_, pss_cons (ps_if (pt_cmpR op_eq (pv 2) pe_str (nomark _)) (pss_cons (ps_set (i := 3) sc_fields.nd rfl (Or.inl rfl) (pe_op op_sub (pe_f O_law_draw r_law_draw T.g__law_draw (pa_cons (pv 0) (pa_cons pe_int pa_nil))) pe_int))
      (pss_one (ps_ret (pe_tup (pa_cons (pv 3) (pa_cons (pe_op op_add (pe_op op_add (pv 3) pe_int) (pe_f O_law_draw r_law_draw T.g__law_draw (pa_cons (pv 0) (pa_cons pe_int pa_nil)))) pa_nil)))))) pss_nil)
      (pss_one (ps_ret (pe_callTy call_tuple_of (by rfl) T.z_tuple (by decide +kernel) (pa_cons (pe_orT (by exact pe_lc (own := [("_law_one", 4)]) (g := gName 4) (tt := (tTest (tOp (rI0 fun i j => .bl (decide (j < i))) (tCall (spDrawW K) [] E0 (tCons (tVar 0) (tCons (tC (.int 4)) tNil))) (tC (.int 0))))) (te := (tVar 4)) (by rfl) sc_fields.nd (pi_list (pv 1)) (blkOk_by (own := [("_law_one", 4)]) (N := ["_law_well_here", "_law_options", "_law_kind", "_law_low", "_law_one"]) (sc := defScope s__law_fields) (by decide +kernel)) (fun _ _ _ _ _ => (pg_name (i := 4) sc_fields.nd rfl (Or.inl rfl))) (fun _ _ _ _ _ => (pts_one (pt_cmpR op_gt (pe_f O_law_draw r_law_draw T.g__law_draw (pa_cons (pv 0) (pa_cons pe_int pa_nil))) pe_int (nomark _)))) (fun _ _ _ _ _ => (pv 4))) (pe_one (pe_slice sl_list (pv 1) po_none (po_some pe_int)))) pa_nil)))), ?_⟩
  walk_at "go"
  refine ⟨rfl, _, rfl, ?_⟩
  by_cases ck : kind = "number"
  · rw [decide_eq_true (congrArg V.str ck), if_pos rfl]
    walk_at "go"
    refine ⟨s, 4, n, rfl, hs, by omega, by decide, by decide, fun r H1 hr1 b1 w1 => ?_⟩
    walk_at "go"
    refine ⟨s, 3, _, rfl, w1, by omega, by decide, by decide, fun r2 H2 hr2 b2 w2 => ?_⟩
    walk_at "go"
    refine ⟨(by show 2 ≤ sizeLine; decide), fun t ht => ?_⟩
    have b := b1.trans b2
    exact q t _ (.num _ _) (b.free ht) (b.same (Same.new ht _)) ((w2.mono (by omega)).same (Same.new ht _)) upd_same ⟨ck, by omega, by omega, by omega, by omega⟩
  · rw [decide_eq_false (fun z => ck (V.str.inj z)), if_neg Bool.false_ne_true]
    walk_at "go"
    refine w_orT ?_
    refine lc_open (list_open ?_)
    walk_at "go"
    refine ⟨l, rfl, ⟨_, hl⟩, fun D hD => ?_⟩
    have Ds : D ≠ s := hs.ne hD
    have l10 : (os.map V.str).length = os.length := List.length_map ..
    refine lc_list (K := K) (a := l) (xs := os.map V.str) (fun (i : Nat) H' => BM [s] H H' ∧ Well H' s (n + i) ∧ ∃ fs : List Str, H' D = some (.lst (fs.map V.str)) ∧ fs.Sublist (os.take i)) ⟨BM.of (Same.new hD _), hs.same (Same.new hD _), [], upd_same, List.nil_sublist _⟩ (fun i H' _ k => sql_bm k.1 nl hl) ?_ ?_
    · rintro i x H1 hx ⟨b1, w1, fs, h1, sub⟩
      rw [List.getElem?_map] at hx
      obtain ⟨z, hz, rfl⟩ := Option.map_eq_some_iff.mp hx
      have li := (List.getElem?_eq_some_iff.mp hz).1
      walk_at "go"
      refine ⟨rfl, ?_⟩
      walk_at "go"
      refine ⟨s, 4, _, rfl, w1, by omega, by decide, by decide, fun r H2 hr2 b2 w2 => ?_⟩
      walk_at "go"
      have h2 := b2.at h1 (by simpa using Ds)
      have b12 := b1.trans b2
      have sub2 : fs.Sublist (os.take (i + 1)) := sub.trans (List.take_sublist_take_left (Nat.le_succ i))
      by_cases cr : (0 : Int) < (r : Int)
      · rw [decide_eq_true cr, if_pos rfl]
        walk_at "go"
        have lf : fs.length ≤ 4 := by have := sub.length_le; rw [List.length_take] at this; omega
        refine ⟨_, h2, by rw [List.length_map]; exact Nat.lt_of_le_of_lt (show fs.length ≤ 100 by omega) (by decide), b12.mut hD, w2.upd Ds _, fs ++ [z], by rw [upd_same, List.map_append]; rfl, ?_⟩
        rw [List.take_add_one, hz]
        exact sub.append (List.Sublist.refl _)
      · rw [decide_eq_false cr, if_neg Bool.false_ne_true]
        exact ⟨b12, w2, fs, h2, sub2⟩
    · rintro H1 ⟨b1, w1, fs, h1, sub⟩
      rw [l10, List.take_length] at sub
      rw [l10] at w1
      have lf := sub.length_le
      cases fs with
      | nil =>
        refine ⟨false, .inl ⟨_, SqL.of h1, rfl⟩, ?_⟩
        rw [if_neg Bool.false_ne_true]
        walk_at "go"
        refine ⟨l, _, rfl, sql_bm b1 nl hl, fun p hp => ?_⟩
        have c1 : cutV (os.map V.str) none (some 1) = (os.take 1).map V.str := by
          have := cut_to (os.map V.str) 1
          rw [List.map_take]
          exact this
        rw [c1]
        have f1 := Same.new hp (.lst ((os.take 1).map V.str))
        have g1 : (upd H1 p (.lst ((os.take 1).map V.str))) p = some (.lst ((os.take 1).map V.str)) := upd_same
        generalize upd H1 p (.lst ((os.take 1).map V.str)) = H2 at f1 g1 ⊢
        walk_at "go"
        refine ⟨p, _, rfl, .inl ⟨SqL.of g1, fun t ht => ?_⟩⟩
        have f2 := f1.trans (Same.new ht (.tup ((os.take 1).map V.str)))
        exact q t _ (.txt (os.take 1)) (b1.free (f1.free ht)) (b1.same f2) ((w1.mono (by omega)).same f2) upd_same ⟨ck, List.take_sublist 1 os, by rw [List.length_take]; omega⟩
      | cons z r =>
        refine ⟨true, .inl ⟨_, SqL.of h1, rfl⟩, ?_⟩
        rw [if_pos rfl]
        walk_at "go"
        refine ⟨D, _, rfl, .inl ⟨SqL.of h1, fun t ht => ?_⟩⟩
        have f2 := Same.new ht (.tup ((z :: r).map V.str))
        exact q t _ (.txt (z :: r)) (b1.free ht) (b1.same f2) ((w1.mono (by omega)).same f2) upd_same ⟨ck, sub, by simp⟩
end
end K3
end Y1_part
section Y2_part
set_option Elab.async false
set_option linter.all false
set_option maxRecDepth 100000
set_option maxHeartbeats 1000000
set_option pp.deepTerms true
open PySem PySem.Spec PyProof.Rows L2
/-- go on as far as nothing is open -/
local macro_rules | `(tactic| walk_at "go") => `(tactic| repeat (first
  | with_reducible refine w_seq ?_ | with_reducible refine w_next ?_ | with_reducible refine w_set ?_ | with_reducible refine w_drop ?_ | with_reducible refine w_ret ?_ | with_reducible refine w_retN ?_
  | with_reducible refine w_if ?_ | ((with_reducible refine' w_var ?hv ?_); (case hv => exact rfl)) | with_reducible refine w_c ?_ | with_reducible refine w_nil ?_ | with_reducible refine w_cons ?_ | with_reducible refine w_op ?_ | with_reducible refine w_un ?_
  | with_reducible refine w_test ?_ | with_reducible refine w_tB ?_ | with_reducible refine w_not ?_ | with_reducible refine w_and ?_ | with_reducible refine w_or ?_ | with_reducible refine w_bl ?_
  | with_reducible refine w_andV ?_ | with_reducible refine w_orV ?_ | with_reducible refine w_notV ?_ | with_reducible refine w_ifE ?_ | with_reducible refine w_chain ?_ | with_reducible refine w_i0 ?_
  | with_reducible refine w_call ?_ | with_reducible refine w_callS ?_ | with_reducible refine w_cB ?_ | with_reducible refine w_tup ?_ | with_reducible refine w_lst ?_ | with_reducible refine w_fldV ?_
  | with_reducible refine w_neF ?_ | with_reducible refine w_neT ?_ | with_reducible refine w_notN ?_ | with_reducible refine w_isN ?_ | with_reducible refine w_gname ?_ | with_reducible refine w_gsub ?_ | with_reducible refine w_asg ?_ | with_reducible refine w_sl ?_ | with_reducible refine w_noP ?_ | with_reducible refine w_int1 ?_ | with_reducible refine w_part ?_ | with_reducible refine w_meth ?_ | with_reducible refine w_din ?_ | with_reducible refine w_dnotin ?_ | with_reducible refine w_dgt ?_ | with_reducible refine w_dget1 ?_ | with_reducible refine w_dget2 ?_ | with_reducible refine w_dput ?_ | with_reducible refine w_yes ?_ | with_reducible refine w_nT ?_ | with_reducible refine w_nF ?_ | with_reducible refine w_iteT ?_ | with_reducible refine w_iteF ?_))
namespace K3
def KindOk (k : Str) : Prop := k = "one" ∨ k = "some" ∨ k = "number"
/-- the pool: names, options, and to each name its kind and fields -/
structure PoolD where
  ns : List Str
  os : List Str
  ks : List (Str × Fd)
structure PoolOk (p : PoolD) : Prop where
  n10 : p.ns.length = 10
  nd : p.ns.Nodup
  nm : ∀ z ∈ p.ns, isName z = true
  nz : ∀ z ∈ p.ns, z ≠ "zzzz1"
  o4 : p.os.length = 4
  ndo : p.os.Nodup
  nmo : ∀ z ∈ p.os, isName z = true
  k10 : p.ks.length = 10
  kd : ∀ e ∈ p.ks, KindOk e.1 ∧ FdOk p.os e.1 e.2
  first : ∃ fs : List Str, ∀ i < 3, p.ks[i]? = some (("one" : Str), Fd.txt fs)
def KE1 (H : Hp) (kv : Key × V) (e : Str × (Str × Fd)) : Prop := kv.1 = Sum.inr e.1 ∧ ∃ t f, kv.2 = .ref t ∧ H t = some (.tup [.str e.2.1, .ref f]) ∧ H f = some (.tup e.2.2.vs)
def poolK (nl ol kd : Addr) : List (Key × V) := [(Sum.inr "names", .ref nl), (Sum.inr "options", .ref ol), (Sum.inr "kinds", .ref kd)]
theorem poolK_merge (nl ol kd : Addr) : mergeK [] (poolK nl ol kd) = poolK nl ol kd := rfl
structure PoolO (H : Hp) (p : Addr) (d : PoolD) : Prop where
  at_ : ∃ nl ol kd kvs, H p = some (.dK (poolK nl ol kd)) ∧ H nl = some (.lst (d.ns.map V.str)) ∧ H ol = some (.lst (d.os.map V.str)) ∧ H kd = some (.dK kvs) ∧ Paired (KE1 H) kvs (d.ns.zip d.ks)
  ok : PoolOk d
def spPoolW (K : PySem.W.Frag) : Sp := fun vs H Q _ => ∃ (s : Addr) (n : Nat), vs = [.ref s] ∧ Well H s n ∧ n + 500 ≤ most ∧ ∀ p H' d, H p = none → BM [s] H H' → Well H' s (n + 500) → PoolO H' p d → Q (.ref p) H'
theorem w_par {ta : TA} {i j : Nat} {D : L2.Ends} {σ : L2.St} {H : Hp} (h : ta σ H fun vs H1 => ∃ v w, vs = [v, w] ∧ D.nx ((σ.set i (some v)).set j (some w)) H1) : tPar i j ta D σ H := h
theorem w_gnn {i j : Nat} {v1 v2 : V} {σ : L2.St} {H : Hp} {Q : L2.St → Hp → Prop} (h : Q ((σ.set i (some v1)).set j (some v2)) H) : gCons (gName i) (gCons (gName j) gNil) [v1, v2] σ H Q := ⟨_, _, rfl, _, _, rfl, rfl, h⟩
theorem w_enum {K : PySem.W.Frag} {ta : TA} {σ : L2.St} {H : Hp} {R : It → Hp → Prop} (h : ta σ H fun vs H1 => ∃ a xs, vs = [.ref a] ∧ SqL K H1 a xs ∧ R (Ite K a) H1) : iEnum K ta σ H R := h
theorem w_disp {trs : List (TE × TE)} {σ : L2.St} {H : Hp} {Q : VK} (h : ∀ p, H p = none → tPairs trs σ (L2.upd H p (.dK [])) fun ps H2 => H2 p = some (.dK []) ∧ ∃ kvs : List (Key × V), ps = kvs.map (fun kv => (kV kv.1, kv.2)) ∧ kvs.length ≤ 15 ∧ Q (.ref p) (L2.upd H2 p (.dK (mergeK [] kvs)))) : tDisp trs σ H Q := h
theorem w_pairs1 {tk tv : TE} {r : List (TE × TE)} {σ : L2.St} {H : Hp} {Q : List (V × V) → Hp → Prop} (h : tk σ H fun x H1 => tv σ H1 fun y H2 => tPairs r σ H2 fun ps H3 => Q ((x, y) :: ps) H3) : tPairs ((tk, tv) :: r) σ H Q := h
theorem w_pairs0 {σ : L2.St} {H : Hp} {Q : List (V × V) → Hp → Prop} (h : Q [] H) : tPairs [] σ H Q := h
theorem put_newK {κ : Type} [DecidableEq κ] {kvs : List (κ × V)} {k : κ} {v : V} (h : valV kvs k = none) : putK kvs k v = kvs ++ [(k, v)] := by
  unfold putK
  rw [valV_any, h, if_neg (by decide)]
theorem ke_new {H : Hp} : ∀ {kvs : List (Key × V)} {es : List (Str × (Str × Fd))} {z : Str}, Paired (KE1 H) kvs es → z ∉ es.map (·.1) → valV kvs (Sum.inr z) = none
  | _, _, _, .nil, _ => rfl
  | _, _, z, .cons (a := kv) (b := e) h t, n => by
    have n1 : ¬ kv.1 = Sum.inr z := fun q => n (by rw [h.1] at q; rw [← Sum.inr.inj q]; exact List.mem_cons_self ..)
    have n2 := ke_new t fun q => n (List.mem_cons_of_mem _ q)
    unfold valV at n2 ⊢
    rw [List.find?_cons, decide_eq_false n1]
    exact n2
theorem zip_snoc {α β : Type} : ∀ {xs : List α} {ys : List β} {x : α} {y : β}, xs[ys.length]? = some x → xs.zip (ys ++ [y]) = xs.zip ys ++ [(x, y)]
  | [], _, _, _, h => by simp at h
  | a :: xs, [], x, y, h => by
    have : a = x := by simpa using h
    rw [this]
    simp
  | a :: xs, b :: ys, x, y, h => by
    have := zip_snoc (xs := xs) (ys := ys) (x := x) (y := y) (by simpa using h)
    simp [this]
theorem zip_fst {α β : Type} : ∀ (xs : List α) (ys : List β), (xs.zip ys).map (·.1) = xs.take ys.length
  | [], _ => by simp
  | _ :: _, [] => by simp
  | x :: xs, y :: ys => by
    have := zip_fst xs ys
    simp [this]
theorem KE1.bm {H H' : Hp} {M : List Addr} (hM : ∀ c ∈ M, ∀ xs, H c ≠ some (.tup xs)) (b : BM M H H') {kv : Key × V} {e : Str × (Str × Fd)} (h : KE1 H kv e) : KE1 H' kv e :=
  let ⟨h1, t, f, h2, h3, h4⟩ := h
  ⟨h1, t, f, h2, b.at h3 fun z => hM _ z _ h3, b.at h4 fun z => hM _ z _ h4⟩
section
variable {P : Program} {w : World} {K : PySem.W.Frag} {mg : Str → Option Value} {base : Heap}
theorem sc_pool : FnScope ["_law_well_here", "_law_names_here", "_law_options", "_law_first", "_law_p", "_law_k", "_law_name_here", "_law_kind"] ["_law_well_here"] (defScope s__law_pool) := ⟨rfl, rfl, rfl, by decide +kernel, rfl, by decide +kernel, by decide +kernel⟩
theorem ok_pool (T : Tx K mg) : Ok P w K mg base 5 (He.ga K "_law_pool") ["_law_well_here"] (spPoolW K) := by
  obtain ⟨fd, F⟩ := T.f__law_pool
  have O_law_fields := ok_fields (P := P) (w := w) (base := base) T
  have O_law_pick := ok_pick (P := P) (w := w) (base := base) T
  have O_law_names := ok_names (P := P) (w := w) (base := base) T
  refine ⟨fd, F.ok (k := 4) sc_pool (fun vs H Q E h => ?_) (fun cdv A outer s_ H vs Q E hr h => ?_), F.bindsN fun _ _ _ _ _ _ us hl => match us, hl with | [_], _ => rfl, F.kp⟩
  · obtain ⟨s, n, rfl, hs, hn, q⟩ := h
    rfl
  obtain ⟨s, n, rfl, hs, hn, q⟩ := h
  have hu65 := K3.Room.units65 hr
  have hu70 := K3.Room.units70 hr
  have hu4 := K3.Room.units4 hr
  have hu64 := Nat.lt_of_succ_lt hu65
  have hu0 := Nat.lt_of_le_of_lt (Nat.le_add_right _ 65) hu65
  have hu1 := Nat.lt_of_le_of_lt (Nat.add_le_add_left (show 1 ≤ 65 by decide) _) hu65
  have r_law_fields : Room 2 _ := hr.mono (by decide)
  have r_law_pick : Room 2 _ := hr.mono (by decide)
  have r_law_names : Room 4 _ := hr.mono (by decide)
  refine ⟨_, pss_cons (ps_par (by rfl) sc_pool.nd (i := 1) (j := 2) rfl rfl (by decide) rfl rfl (pa_cons (pe_f O_law_names r_law_names T.g__law_names (pa_cons (pv 0) (pa_cons pe_int pa_nil))) (pa_cons (pe_f O_law_names r_law_names T.g__law_names (pa_cons (pv 0) (pa_cons pe_int pa_nil))) pa_nil)) (by rfl))
      (pss_cons (ps_set (i := 3) sc_pool.nd rfl (Or.inl rfl) (pe_f O_law_fields r_law_fields T.g__law_fields (pa_cons (pv 0) (pa_cons (pv 2) (pa_cons pe_str pa_nil)))))
      (pss_cons (ps_set (i := 4) sc_pool.nd rfl (Or.inl rfl) (pe_disp (pps_cons pe_str (pv 1) (pps_cons pe_str (pv 2) (pps_cons pe_str pe_dnewK pps_nil))) rfl rfl (fun z => nomatch z) (by decide)))
      (pss_cons (ps_for (passes_of rfl) (by rfl) (pi_enum (by rfl) T.z_enumerate (pa_cons (pv 1) pa_nil)) (pg_tup (by rfl) (pgs_cons (pg_name (i := 5) sc_pool.nd rfl (Or.inl rfl)) (pgs_cons (pg_name (i := 6) sc_pool.nd rfl (Or.inl rfl)) pgs_nil))) (pss_cons (ps_set (i := 7) sc_pool.nd rfl (Or.inl rfl) (pe_f O_law_pick r_law_pick T.g__law_pick (pa_cons (pv 0) (pa_cons (pe_lst (pa_cons pe_str (pa_cons pe_str (pa_cons pe_str pa_nil)))) pa_nil))))
      (pss_one (ps_dput hu1 (pe_dget hu1 (pv 4) pe_str (fun _ _ => rfl)) (pv 6) (pe_ifExp (pt_cmpR op_lt (pv 5) pe_int (nomark _)) (pe_tup (pa_cons pe_str (pa_cons (pv 3) pa_nil))) (pe_tup (pa_cons (pv 7) (pa_cons (pe_f O_law_fields r_law_fields T.g__law_fields (pa_cons (pv 0) (pa_cons (pv 2) (pa_cons (pv 7) pa_nil)))) pa_nil)))) rfl))))
      (pss_one (ps_ret (pv 4)))))), ?_⟩
  refine w_seq ?_
  refine w_par ?_
  walk_at "go"
  refine ⟨s, n, 10, rfl, hs, by omega, by decide, fun nl H1 ns hnl0 b1 w1 hnl ln nd nm => ?_⟩
  walk_at "go"
  refine ⟨s, _, 4, rfl, w1, by omega, by decide, fun ol H2 os hol0 b2 w2 hol lo ndo nmo => ?_⟩
  walk_at "go"
  refine ⟨_, _, rfl, ?_⟩
  dsimp only
  have nls : nl ≠ s := hs.ne hnl0
  have ols : ol ≠ s := w1.ne hol0
  walk_at "go"
  refine ⟨s, ol, _, os, "one", rfl, w2, by omega, ols, SqL.of hol, by omega, by omega, fun ft H3 fd hft0 b3 w3 hft hfd => ?_⟩
  have b03 := b1.trans (b2.trans b3)
  have hnl3 := (b2.trans b3).at hnl (by simpa using nls)
  have hol3 := b3.at hol (by simpa using ols)
  walk_at "go"
  refine w_disp fun p hp0 => ?_
  refine w_pairs1 ?_
  walk_at "go"
  refine w_pairs1 ?_
  walk_at "go"
  refine w_pairs1 ?_
  walk_at "go"
  intro kd hkd0
  refine w_pairs0 ?_
  have npk : kd ≠ p := fun z => by rw [z, upd_same] at hkd0; cases hkd0
  have hkd03 : H3 kd = none := by rw [upd_ne npk] at hkd0; exact hkd0
  refine ⟨by rw [upd_ne npk.symm]; exact upd_same, (poolK nl ol kd), rfl, (by show 3 ≤ 15; decide), ?_⟩
  rw [poolK_merge]
  have e34 : Same H3 (upd (upd (upd H3 p (.dK [])) kd (.dK [])) p (.dK (poolK nl ol kd))) := fun c o h => by
    rw [upd_ne (ne_of_none h hp0), upd_ne (ne_of_none h hkd03), upd_ne (ne_of_none h hp0)]
    exact h
  have hp4 : (upd (upd (upd H3 p (.dK [])) kd (.dK [])) p (.dK (poolK nl ol kd))) p = some (.dK (poolK nl ol kd)) := upd_same
  have hkd4 : (upd (upd (upd H3 p (.dK [])) kd (.dK [])) p (.dK (poolK nl ol kd))) kd = some (.dK []) := by rw [upd_ne npk]; exact upd_same
  generalize upd (upd (upd H3 p (.dK [])) kd (.dK [])) p (.dK (poolK nl ol kd)) = H4 at e34 hp4 hkd4 ⊢
  have ps : p ≠ s := w3.ne hp0
  have kds : kd ≠ s := w3.ne hkd03
  walk_at "go"
  refine w_enum ?_
  walk_at "go"
  refine ⟨nl, _, rfl, SqL.of (e34 _ _ hnl3), ?_⟩
  have b04 := b03.same e34
  obtain ⟨fs0, rfl⟩ : ∃ fs, fd = .txt fs := by
    cases fd with
    | txt fs => exact ⟨fs, rfl⟩
    | num lo hi => exact absurd hfd.1 (by decide)
  refine for_it (walk_enum (K := K) (a := nl) (xs := ns.map V.str)) (fun (i : Nat) σ H' => ∃ (o5 o6 o7 : Option V) (kvs : List (Key × V)) (ks : List (Str × Fd)), σ = [some (.ref s), some (.ref nl), some (.ref ol), some (.ref ft), some (.ref p), o5, o6, o7] ∧ BM [s, kd] H4 H' ∧ Well H' s (n + 200 + 20 * i) ∧ H' kd = some (.dK kvs) ∧
      ks.length = i ∧ Paired (KE1 H') kvs (ns.zip ks) ∧ (∀ e ∈ ks, KindOk e.1 ∧ FdOk os e.1 e.2) ∧ ∀ j, j < 3 → j < i → ks[j]? = some (("one" : Str), Fd.txt fs0))
    ⟨none, none, none, [], [], rfl, BM.refl _ _, (w3.mono (by omega)).same e34, hkd4, rfl, by rw [List.zip_nil_right]; exact .nil, (fun e h => nomatch h), fun j _ h => absurd h (Nat.not_lt_zero _)⟩
    (fun i σ H' _ ⟨_, _, _, _, _, _, b, _⟩ => SqL.of (b.at (e34 _ _ hnl3) (by simp; exact ⟨nls, fun z => by rw [z, hkd03] at hnl3; cases hnl3⟩))) ?_ ?_
  · rintro i x σ H5 H6 hi ⟨o5, o6, o7, kvs, ks, rfl, b5, w5, hkd5, lk, hkv, hok, h1st⟩ hy
    obtain ⟨TT, x1, x2, rfl, hT1, rfl, hf, hxi⟩ := hy
    obtain rfl := Option.some.inj hf
    dsimp only at hxi
    rw [List.getElem?_map] at hxi
    obtain ⟨z, hz, rfl⟩ := Option.map_eq_some_iff.mp hxi
    have eT := Same.new hT1 (.tup [V.int ((i : Nat) : Int), .str z])
    have gT : (upd H5 TT (.tup [V.int ((i : Nat) : Int), .str z])) TT = some (.tup [V.int ((i : Nat) : Int), .str z]) := upd_same
    generalize upd H5 TT (.tup [V.int ((i : Nat) : Int), .str z]) = H6 at eT gT ⊢
    refine w_gtup (SqT.of gT) rfl (w_gnn ?_)
    dsimp only
    walk_at "go"
    refine ⟨(by show 3 ≤ sizeLine; decide), fun q1 hq1 => ?_⟩
    have f1 := Same.new hq1 (.lst [V.str "one", .str "some", .str "number"])
    have g1 : (upd H6 q1 (.lst [V.str "one", .str "some", .str "number"])) q1 = some (.lst [V.str "one", .str "some", .str "number"]) := upd_same
    generalize upd H6 q1 (.lst [V.str "one", .str "some", .str "number"]) = H7 at f1 g1 ⊢
    have w7 := (w5.same eT).same f1
    have q1s : q1 ≠ s := (w5.same eT).ne hq1
    have hi10 : i < 10 := by rw [List.length_map, ln] at hi; exact hi
    refine ⟨s, _, _, rfl, w7, by omega, .inl ⟨q1, _, rfl, q1s, ⟨false, SqL.of g1⟩, by simp, by show 3 ≤ 100000; decide, fun v H8 hv b8 w8 => ?_⟩⟩
    obtain ⟨kind, rfl, kok⟩ : ∃ kind, v = .str kind ∧ KindOk kind := by
      simp only [List.mem_cons, List.not_mem_nil, or_false] at hv
      rcases hv with rfl | rfl | rfl
      · exact ⟨_, rfl, .inl rfl⟩
      · exact ⟨_, rfl, .inr (.inl rfl)⟩
      · exact ⟨_, rfl, .inr (.inr rfl)⟩
    have b58 : BM [s] H5 H8 := (BM.of (eT.trans f1)).trans b8
    have bk : ∀ {H H'}, BM [s] H H' → BM [s, kd] H H' := fun b => b.mono (by simp)
    have hkd8 := b58.at hkd5 (by simpa using kds)
    have hp8 := ((b5.trans (bk b58)).at hp4 (by simp; exact ⟨ps, npk.symm⟩))
    have tupS : ∀ {H' : Hp} {m : Nat}, Well H' s m → ∀ c ∈ [s], ∀ xs, H' c ≠ some (.tup xs) := fun w c hc xs e => by
      obtain ⟨_, _, _, e2, _⟩ := w
      rw [List.mem_singleton.mp hc, e2] at e
      cases e
    have hkv8 : Paired (KE1 H8) kvs (ns.zip ks) := L2.Paired.mapP hkv fun _ _ z => z.bm (tupS w5) b58
    -- what is left: a new pair, put into the dict
    have fin : ∀ (H9 : Hp) (t f : Addr) (e : Str × Fd) (m : Nat), BM [s] H8 H9 → Well H9 s m → m ≤ n + 200 + 20 * (i + 1) → H9 t = some (.tup [.str e.1, .ref f]) → H9 f = some (.tup e.2.vs) → KindOk e.1 ∧ FdOk os e.1 e.2 → (i < 3 → e = (("one" : Str), Fd.txt fs0)) →
        H9 kd = some (.dK kvs) ∧ (∃ (kvs' : List (Key × V)) (ks' : List (Str × Fd)), BM [s, kd] H4 (upd H9 kd (.dK (putK kvs (Sum.inr z) (.ref t)))) ∧ Well (upd H9 kd (.dK (putK kvs (Sum.inr z) (.ref t)))) s (n + 200 + 20 * (i + 1)) ∧ (upd H9 kd (.dK (putK kvs (Sum.inr z) (.ref t)))) kd = some (.dK kvs') ∧
          ks'.length = i + 1 ∧ Paired (KE1 (upd H9 kd (.dK (putK kvs (Sum.inr z) (.ref t))))) kvs' (ns.zip ks') ∧ (∀ e ∈ ks', KindOk e.1 ∧ FdOk os e.1 e.2) ∧ ∀ j, j < 3 → j < i + 1 → ks'[j]? = some (("one" : Str), Fd.txt fs0)) := by
      intro H9 t f e m b9 w9 hm ht hf he h3
      have hkd9 := b9.at hkd8 (by simpa using kds)
      have lz : (ns.zip ks).map (·.1) = ns.take i := by
        rw [zip_fst, lk]
      have nz : z ∉ (ns.zip ks).map (·.1) := by
        rw [lz]
        intro hm
        obtain ⟨j, hj, e1⟩ := List.mem_take_iff_getElem.mp hm
        obtain ⟨li, e2⟩ := List.getElem?_eq_some_iff.mp hz
        have := (List.getElem_inj nd).mp (e1.trans e2.symm)
        omega
      have pn := put_newK (v := V.ref t) (ke_new hkv nz)
      have tupK : ∀ c ∈ [kd], ∀ xs, H9 c ≠ some (.tup xs) := fun c hc xs e => by
        rw [List.mem_singleton.mp hc, hkd9] at e
        cases e
      have bu : BM [kd] H9 (upd H9 kd (.dK (putK kvs (Sum.inr z) (.ref t)))) := BM.upd (List.mem_singleton.mpr rfl) _
      refine ⟨hkd9, putK kvs (Sum.inr z) (.ref t), ks ++ [e], ((b5.trans (bk b58)).trans (bk b9)).trans (bu.mono (by simp)), (w9.mono hm).upd kds _, upd_same, by rw [List.length_append, lk]; rfl, ?_, ?_, ?_⟩
      · rw [pn, zip_snoc (x := z) (by rw [lk]; exact hz)]
        refine K3.Paired.app (L2.Paired.mapP hkv8 fun _ _ y => ((y.bm (tupS w8) b9)).bm tupK (pn ▸ bu)) (.cons (KE1.bm tupK (pn ▸ bu) ⟨rfl, t, f, rfl, ht, hf⟩) .nil)
      · intro y hy
        rcases List.mem_append.mp hy with hy | hy
        · exact hok y hy
        · rw [List.mem_singleton.mp hy]; exact he
      · intro j hj hji
        by_cases c : j < i
        · rw [List.getElem?_append_left (by omega)]
          exact h1st j hj c
        · have : j = ks.length := by omega
          rw [this, List.getElem?_concat_length, h3 (by omega)]
    walk_at "go"
    have hft8 : H8 ft = some (.tup (Fd.txt fs0).vs) := (b5.trans (bk b58)).at (e34 _ _ hft) (by simp; exact ⟨w2.ne hft0, fun z => by rw [z, hkd03] at hft; cases hft⟩)
    have hol8 : H8 ol = some (.lst (os.map V.str)) := (b5.trans (bk b58)).at (e34 _ _ hol3) (by simp; exact ⟨ols, fun z => by rw [z, hkd03] at hol3; cases hol3⟩)
    have lkv : kvs.length < sizeLine := by
      have := hkv.length
      rw [List.length_zip] at this
      exact Nat.lt_of_le_of_lt (show kvs.length ≤ 100 by omega) (by decide)
    by_cases c3 : (i : Int) < 3
    · rw [decide_eq_true c3, if_pos rfl]
      walk_at "go"
      refine ⟨(by show 2 ≤ sizeLine; decide), fun t ht => ?_⟩
      have e9 := Same.new ht (.tup [V.str "one", .ref ft])
      have g9 : (upd H8 t (.tup [V.str "one", .ref ft])) t = some (.tup [V.str "one", .ref ft]) := upd_same
      generalize upd H8 t (.tup [V.str "one", .ref ft]) = H9 at e9 g9 ⊢
      obtain ⟨hkd9, kvs', ks', k1, k2, k3, k4, k5, k6, k7⟩ := fin H9 t ft (("one" : Str), Fd.txt fs0) _ (BM.of e9) (w8.same e9) (by omega) g9 (e9 _ _ hft8) ⟨.inl rfl, hfd⟩ (fun _ => rfl)
      walk_at "go"
      refine ⟨p, .ref kd, rfl, DGet.k (k := Sum.inr "kinds") (e9 _ _ hp8), ?_⟩
      walk_at "go"
      refine ⟨kd, _, rfl, DPut.k (k := Sum.inr z) hkd9 lkv, ?_⟩
      exact ⟨_, _, _, kvs', ks', rfl, k1, k2, k3, k4, k5, k6, k7⟩
    · rw [decide_eq_false c3, if_neg Bool.false_ne_true]
      walk_at "go"
      refine ⟨s, ol, _, os, kind, rfl, w8, by omega, ols, SqL.of hol8, by omega, by omega, fun f H9 fd2 hf0 b9 w9 hf hfd2 => ?_⟩
      walk_at "go"
      refine ⟨(by show 2 ≤ sizeLine; decide), fun t ht => ?_⟩
      have e10 := Same.new ht (.tup [V.str kind, .ref f])
      have g10 : (upd H9 t (.tup [V.str kind, .ref f])) t = some (.tup [V.str kind, .ref f]) := upd_same
      generalize upd H9 t (.tup [V.str kind, .ref f]) = H10 at e10 g10 ⊢
      obtain ⟨hkd9, kvs', ks', k1, k2, k3, k4, k5, k6, k7⟩ := fin H10 t f (kind, fd2) _ (b9.same e10) (w9.same e10) (by omega) g10 (e10 _ _ hf) ⟨kok, hfd2⟩ (fun h => absurd (show (i : Int) < 3 by omega) c3)
      walk_at "go"
      refine ⟨p, .ref kd, rfl, DGet.k (k := Sum.inr "kinds") (e10 _ _ (b9.at hp8 (by simpa using ps))), ?_⟩
      walk_at "go"
      refine ⟨kd, _, rfl, DPut.k (k := Sum.inr z) hkd9 lkv, ?_⟩
      exact ⟨_, _, _, kvs', ks', rfl, k1, k2, k3, k4, k5, k6, k7⟩
  · rintro σ H5 ⟨o5, o6, o7, kvs, ks, rfl, b5, w5, hkd5, lk, hkv, hok, h1st⟩
    rw [List.length_map, ln] at lk w5 h1st
    walk_at "go"
    have hnlk : nl ∉ [s, kd] := by simp; exact ⟨nls, fun z => by rw [z, hkd03] at hnl3; cases hnl3⟩
    have holk : ol ∉ [s, kd] := by simp; exact ⟨ols, fun z => by rw [z, hkd03] at hol3; cases hol3⟩
    have hpk : p ∉ [s, kd] := by simp; exact ⟨ps, npk.symm⟩
    refine q p H5 ⟨ns, os, ks⟩ (b03.free hp0) (fun c o h => ?_) (w5.mono (by omega)) ⟨⟨nl, ol, kd, kvs, b5.at hp4 hpk, b5.at (e34 _ _ hnl3) hnlk, b5.at (e34 _ _ hol3) holk, hkd5, hkv⟩, ⟨ln, nd, fun z hz => nmz_name (nm z hz), fun z hz => nmz_ne (nm z hz), lo, ndo, fun z hz => nmz_name (nmo z hz), lk, hok, fs0, fun j hj => h1st j hj (by omega)⟩⟩
    obtain ⟨o1, h1, k1⟩ := b04 c o h
    obtain ⟨o2, h2, k2⟩ := b5 c o1 h1
    refine ⟨o2, h2, fun nc => ?_⟩
    have nck : c ≠ kd := fun z => by
      have := b03.free hkd03
      rw [← z, h] at this
      cases this
    rw [k2 (by simp; exact ⟨by simpa using nc, nck⟩), k1 nc]
end
end K3
end Y2_part
section Y3_part
set_option Elab.async false
set_option linter.all false
set_option maxRecDepth 100000
set_option maxHeartbeats 1000000
set_option pp.deepTerms true
open PySem PySem.Spec PyProof.Rows L2
/-- go on as far as nothing is open -/
local macro_rules | `(tactic| walk_at "go") => `(tactic| repeat (first
  | with_reducible refine w_seq ?_ | with_reducible refine w_next ?_ | with_reducible refine w_set ?_ | with_reducible refine w_drop ?_ | with_reducible refine w_ret ?_ | with_reducible refine w_retN ?_
  | with_reducible refine w_if ?_ | ((with_reducible refine' w_var ?hv ?_); (case hv => exact rfl)) | with_reducible refine w_c ?_ | with_reducible refine w_nil ?_ | with_reducible refine w_cons ?_ | with_reducible refine w_op ?_ | with_reducible refine w_un ?_
  | with_reducible refine w_test ?_ | with_reducible refine w_tB ?_ | with_reducible refine w_not ?_ | with_reducible refine w_and ?_ | with_reducible refine w_or ?_ | with_reducible refine w_bl ?_
  | with_reducible refine w_andV ?_ | with_reducible refine w_orV ?_ | with_reducible refine w_notV ?_ | with_reducible refine w_ifE ?_ | with_reducible refine w_chain ?_ | with_reducible refine w_i0 ?_
  | with_reducible refine w_call ?_ | with_reducible refine w_callS ?_ | with_reducible refine w_cB ?_ | with_reducible refine w_tup ?_ | with_reducible refine w_lst ?_ | with_reducible refine w_fldV ?_
  | with_reducible refine w_neF ?_ | with_reducible refine w_neT ?_ | with_reducible refine w_notN ?_ | with_reducible refine w_isN ?_ | with_reducible refine w_gname ?_ | with_reducible refine w_gsub ?_ | with_reducible refine w_asg ?_ | with_reducible refine w_sl ?_ | with_reducible refine w_noP ?_ | with_reducible refine w_int1 ?_ | with_reducible refine w_part ?_ | with_reducible refine w_meth ?_ | with_reducible refine w_din ?_ | with_reducible refine w_dnotin ?_ | with_reducible refine w_dgt ?_ | with_reducible refine w_dget1 ?_ | with_reducible refine w_dget2 ?_ | with_reducible refine w_dput ?_ | with_reducible refine w_yes ?_ | with_reducible refine w_nT ?_ | with_reducible refine w_nF ?_ | with_reducible refine w_iteT ?_ | with_reducible refine w_iteF ?_))
namespace K3
/-! ### frames by kinds of object -/
def NLf (H H' : Hp) : Prop := ∀ b o, (∀ xs, o ≠ HO.lst xs) → H b = some o → H' b = some o
theorem BM.nl {H H' : Hp} {s : Addr} (hs : Src H s) (e : BM [s] H H') : NLf H H' := fun b o n h => e.at h fun z => by
  obtain ⟨x, y, c, hs⟩ := hs
  rw [List.mem_singleton.mp z, hs] at h
  exact n _ (Option.some.inj h).symm
theorem NLf.si {H H' : Hp} (e : NLf H H') : SI H H' := fun b o k h => e b o (fun xs z => by rw [z] at k; cases k) h
theorem Same.nl {H H' : Hp} (e : Same H H') : NLf H H' := fun b o _ h => e b o h
theorem NLf.trans {H H1 H2 : Hp} (a : NLf H H1) (b : NLf H1 H2) : NLf H H2 := fun c o n h => b c o n (a c o n h)
/-! ### questions seen -/
structure Qd where
  name : Str
  kind : Str
  fd : Fd
  ins : Bool
def Qd.row (q : Qd) : Rw := match q.fd with
  | .txt fs => if q.kind = "one" then .one q.name fs none else .some q.name fs none
  | .num lo hi => .number q.name lo hi none
def FdQ (kind : Str) : Fd → Prop
  | .txt fs => kind ≠ "number" ∧ 1 ≤ fs.length ∧ fs.length ≤ 4 ∧ fs.Nodup ∧ ∀ o ∈ fs, isName o = true
  | .num lo hi => kind = "number" ∧ -100 ≤ lo ∧ lo ≤ hi ∧ hi ≤ 100
structure QdOk (q : Qd) : Prop where
  nm : isName q.name = true
  kd : KindOk q.kind
  fd : FdQ q.kind q.fd
def QO (H : Hp) (v : V) (q : Qd) : Prop := ∃ t f, v = .ref t ∧ H t = some (.tup [.str q.name, .str q.kind, .ref f, .bl q.ins]) ∧ H f = some (.tup q.fd.vs)
theorem QO.nl {H H' : Hp} (e : NLf H H') {v : V} {q : Qd} (h : QO H v q) : QO H' v q := let ⟨t, f, h1, h2, h3⟩ := h; ⟨t, f, h1, e _ _ (fun _ z => nomatch z) h2, e _ _ (fun _ z => nomatch z) h3⟩
/-- a condition that speaks of these -/
def CdFor (qs : List Qd) : Cd → Prop
  | .no c => CdFor qs c
  | .both c d => CdFor qs c ∧ CdFor qs d
  | .either c d => CdFor qs c ∧ CdFor qs d
  | c => ∃ q ∈ qs, c.name = q.name ∧ suitsB c q.row = true
theorem CdFor.mono {qs rs : List Qd} (h : ∀ q ∈ qs, q ∈ rs) : ∀ {c : Cd}, CdFor qs c → CdFor rs c
  | .no c, k => CdFor.mono h (c := c) k
  | .both _ _, k => ⟨CdFor.mono h k.1, CdFor.mono h k.2⟩
  | .either _ _, k => ⟨CdFor.mono h k.1, CdFor.mono h k.2⟩
  | .is _ _, ⟨q, h1, h2⟩ => ⟨q, h q h1, h2⟩
  | .has _ _, ⟨q, h1, h2⟩ => ⟨q, h q h1, h2⟩
  | .over _ _, ⟨q, h1, h2⟩ => ⟨q, h q h1, h2⟩
  | .under _ _, ⟨q, h1, h2⟩ => ⟨q, h q h1, h2⟩
structure CdSm (qs : List Qd) (m : Nat) (c : Cd) : Prop where
  sp : CdFor qs c
  dp : c.dep ≤ 2 * m
  sm : c.simp.length ≤ m
theorem ok_none' {P : Program} {w : World} {K : PySem.W.Frag} {mg : Str → Option Value} {base : Heap} {f : Addr} {fd : FuncData} {ps : List Str} {sp : Sp} {k : Nat} (no : ∀ vs H Q E, ¬ sp vs H Q E) : FnOk P w K mg base (L2.CX P w) k f fd ps sp :=
  ⟨fun vs H Q E h => absurd h (no vs H Q E), fun A outer s H args us vs Q E _ _ _ _ h => absurd h (no vs H Q E)⟩
theorem w_gn4 {i j k l : Nat} {v1 v2 v3 v4 : V} {σ : L2.St} {H : Hp} {Q : L2.St → Hp → Prop} (h : Q ((((σ.set i (some v1)).set j (some v2)).set k (some v3)).set l (some v4)) H) : gCons (gName i) (gCons (gName j) (gCons (gName k) (gCons (gName l) gNil))) [v1, v2, v3, v4] σ H Q := ⟨_, _, rfl, _, _, rfl, _, _, rfl, _, _, rfl, rfl, h⟩
theorem paired_mem {α β : Type} {F : α → β → Prop} {xs : List α} {ys : List β} (h : Paired F xs ys) {x : α} (hx : x ∈ xs) : ∃ y ∈ ys, F x y := by
  obtain ⟨i, hi⟩ := List.mem_iff_getElem?.mp hx
  obtain ⟨y, hy, k⟩ := K3.Paired.get h hi
  exact ⟨y, List.mem_of_getElem? hy, k⟩
theorem mkI2 {K : PySem.W.Frag} {x : Str} {fs : List Str} {ws : List V} {a dx : Addr} {H1 : Hp} {PP : Hp → Prop} {E : XK} (hl : ws.length = fs.length) (ha : H1 a = none) (hd : H1 dx = none) (q : ∀ H', Same H1 H' → Ins K H' a x (fs.zip ws) → PP H') :
    spI K x fs (.ref a :: ws) (L2.upd (L2.upd H1 dx (.own a)) a (.ins (He.ga K x) dx [])) (fun v H2 => v = .non ∧ PP H2) E := by
  refine ⟨a, dx, ws, rfl, hl, upd_same, fun H' h1 h2 => ⟨rfl, q H' (fun b o hb => ?_) ⟨dx, h1⟩⟩⟩
  have nb : b ≠ a := ne_of_none hb ha
  exact h2 b o nb (by rw [upd_ne nb, upd_ne (ne_of_none hb hd)]; exact hb)
theorem Well.tup {H : Hp} {s f : Addr} {n : Nat} {xs : List V} (h : Well H s n) (hf : H f = some (.tup xs)) : f ≠ s := fun z => by
  obtain ⟨_, _, _, e, _⟩ := h
  rw [z, e] at hf
  cases hf
theorem Ins.nl {K : PySem.W.Frag} {H H' : Hp} {a : Addr} {x : Str} {fs : List (Str × V)} (h : Ins K H a x fs) (e : NLf H H') : Ins K H' a x fs := let ⟨dx, q⟩ := h; ⟨dx, e _ _ (fun _ z => nomatch z) q⟩
def spCondW (K : PySem.W.Frag) (N : Nat) : Sp := fun vs H Q _ => ∃ (s l : Addr) (n : Nat) (xs : List V) (qs : List Qd), vs = [.ref s, .ref l] ∧ qs.length < N ∧ Well H s n ∧ n + 10 * (qs.length + 1) ≤ most ∧ l ≠ s ∧ H l = some (.lst xs) ∧ Paired (QO H) xs qs ∧ (∀ q ∈ qs, QdOk q) ∧ qs.length ≤ 1000 ∧
  ∀ v H' w, BM [s] H H' → Well H' s (n + 10 * (qs.length + 1)) → WO K H' v w → (∀ c, w = some c → CdSm qs qs.length c) → Q v H'
section
variable {P : Program} {w : World} {K : PySem.W.Frag} {mg : Str → Option Value} {base : Heap}
theorem sc_condition : FnScope ["_law_well_here", "_law_seen", "_law_name_here", "_law_kind", "_law_fields_here", "_law_inside", "_law_number", "_law_found", "_law_option", "_law_way", "_law_other"] ["_law_well_here", "_law_seen"] (defScope s__law_condition) := ⟨rfl, rfl, rfl, by decide +kernel, rfl, by decide +kernel, by decide +kernel⟩
theorem ok_condition (T : Tx K mg) (N : Nat) : Ok P w K mg base (N + 3) (He.ga K "_law_condition") ["_law_well_here", "_law_seen"] (spCondW K N) := by
  induction N with
  | zero =>
    obtain ⟨fd, F⟩ := T.f__law_condition
    exact ⟨fd, ok_none' fun vs H Q E ⟨_, _, _, _, _, _, h, _⟩ => absurd h (Nat.not_lt_zero _), F.bindsN fun _ _ _ _ _ _ us hl => match us, hl with | [_, _], _ => rfl, F.kp⟩
  | succ N O_law_condition =>
  obtain ⟨fd, F⟩ := T.f__law_condition
  have O_law_draw := ok_draw (P := P) (w := w) (base := base) T
  have O_law_pick := ok_pick (P := P) (w := w) (base := base) T
  refine ⟨fd, F.ok (k := N + 3) sc_condition (fun vs H Q E h => ?_) (fun cdv A outer s_ H vs Q E hr h => ?_), F.bindsN fun _ _ _ _ _ _ us hl => match us, hl with | [_, _], _ => rfl, F.kp⟩
  · obtain ⟨s, l, n, xs, qs, rfl, _⟩ := h
    rfl
  obtain ⟨s, l, n, xs, qs, rfl, hN, hs, hn, nl, hl, hxs, hq, lq, q⟩ := h
  have hu65 := K3.Room.units65 hr
  have hu64 := Nat.lt_of_succ_lt hu65
  have hu0 := Nat.lt_of_le_of_lt (Nat.le_add_right _ 65) hu65
  have hu1 := Nat.lt_of_le_of_lt (Nat.add_le_add_left (show 1 ≤ 65 by decide) _) hu65
  have r_law_draw : Room 1 _ := hr.mono (by omega)
  have r_law_pick : Room 2 _ := hr.mono (by omega)
  have r_law_condition : Room (N + 3) _ := hr
  refine ⟨_, pss_cons (ps_if (pw_or (pt_cmpR (op_eqE hu0) (pv 1) (pe_lst pa_nil) (nomark _)) (pw_or1 (pt_cmpR op_eq (pe_f O_law_draw r_law_draw T.g__law_draw (pa_cons (pv 0) (pa_cons pe_int pa_nil))) pe_int (nomark _)))).pt (pss_one (ps_ret pe_non)) pss_nil)
      (pss_cons (ps_asg (pe_f O_law_pick r_law_pick T.g__law_pick (pa_cons (pv 0) (pa_cons (pv 1) pa_nil))) (pg_tup (by rfl) (pgs_cons (pg_name (i := 2) sc_condition.nd rfl (Or.inl rfl)) (pgs_cons (pg_name (i := 3) sc_condition.nd rfl (Or.inl rfl)) (pgs_cons (pg_name (i := 4) sc_condition.nd rfl (Or.inl rfl)) (pgs_cons (pg_name (i := 5) sc_condition.nd rfl (Or.inl rfl)) pgs_nil))))))
      (Evl.pss_cut (ps_if (pt_cmpR op_eq (pv 3) pe_str (nomark _)) (pss_cons (ps_set (i := 6) sc_condition.nd rfl (Or.inl rfl) (pe_op op_add (pe_ix ix_tup (pv 4) pe_int (fun _ _ => rfl)) (pe_f O_law_draw r_law_draw T.g__law_draw (pa_cons (pv 0) (pa_cons pe_int pa_nil)))))
      (pss_one (ps_set (i := 7) sc_condition.nd rfl (Or.inl rfl) (pe_ix ix_list (pe_lst (pa_cons (pe_cls T.mk_Above (ok_Above T) (hr.mono (by omega : 2 ≤ N + 3)) T.g_Above (pa_cons (pv 2) (pa_cons (pv 6) pa_nil))) (pa_cons (pe_cls T.mk_Below (ok_Below T) (hr.mono (by omega : 2 ≤ N + 3)) T.g_Below (pa_cons (pv 2) (pa_cons (pv 6) pa_nil))) pa_nil))) (pe_f O_law_draw r_law_draw T.g__law_draw (pa_cons (pv 0) (pa_cons pe_int pa_nil))) (fun _ _ => rfl))))) (pss_cons (ps_set (i := 8) sc_condition.nd rfl (Or.inl rfl) (pe_f O_law_pick r_law_pick T.g__law_pick (pa_cons (pv 0) (pa_cons (pv 4) pa_nil))))
      (pss_one (ps_set (i := 7) sc_condition.nd rfl (Or.inl rfl) (pe_ifExp (pt_cmpR op_eq (pv 3) pe_str (nomark _)) (pe_cls T.mk_Is (ok_Is T) (hr.mono (by omega : 2 ≤ N + 3)) T.g_Is (pa_cons (pv 2) (pa_cons (pv 8) pa_nil))) (pe_cls T.mk_Has (ok_Has T) (hr.mono (by omega : 2 ≤ N + 3)) T.g_Has (pa_cons (pv 2) (pa_cons (pv 8) pa_nil))))))))
      (pss_cons (ps_set (i := 9) sc_condition.nd rfl (Or.inl rfl) (pe_f O_law_draw r_law_draw T.g__law_draw (pa_cons (pv 0) (pa_cons pe_int pa_nil))))
      (pss_cons (ps_if (pt_cmpR op_eq (pv 9) pe_int (nomark _)) (pss_one (ps_ret (pe_cls T.mk_Not (ok_Not T) (hr.mono (by omega : 2 ≤ N + 3)) T.g_Not (pa_cons (pv 7) pa_nil)))) pss_nil)
      (pss_cons (ps_set (i := 10) sc_condition.nd rfl (Or.inl rfl) pe_non)
      (Evl.pss_cut (ps_if (pt_cmpR op_lt (pv 9) pe_int (nomark _)) (pss_one (ps_set (i := 10) sc_condition.nd rfl (Or.inl rfl) (pe_f O_law_condition r_law_condition T.g__law_condition (pa_cons (pv 0) (pa_cons (pe_slice sl_list (pv 1) po_none (po_some (pe_un un_neg pe_int))) pa_nil))))) pss_nil)
      (pss_cons (ps_if (pt_cmp (pc_isN (pv 10))) (pss_one (ps_ret (pv 7))) pss_nil)
      (pss_one (ps_ret (pe_ix ix_list (pe_lst (pa_cons (pe_cls T.mk_Both (ok_Both T) (hr.mono (by omega : 2 ≤ N + 3)) T.g_Both (pa_cons (pv 7) (pa_cons (pv 10) pa_nil))) (pa_cons (pe_cls T.mk_Either (ok_Either T) (hr.mono (by omega : 2 ≤ N + 3)) T.g_Either (pa_cons (pe_cls T.mk_Not (ok_Not T) (hr.mono (by omega : 2 ≤ N + 3)) T.g_Not (pa_cons (pv 7) pa_nil)) (pa_cons (pv 10) pa_nil))) pa_nil))) (pe_op op_sub (pv 9) pe_int) (fun _ _ => rfl))))))))))), ?_⟩
  walk_at "go"
  refine ⟨(by show 0 ≤ sizeLine; decide), fun p0 hp0 => ?_⟩
  have e1 := Same.new hp0 (.lst [])
  have g1 : (upd H p0 (.lst [])) p0 = some (.lst []) := upd_same
  generalize upd H p0 (.lst []) = H1 at e1 g1 ⊢
  have w1 := hs.same e1
  have hl1 := e1 _ _ hl
  refine ⟨l, p0, xs, [], rfl, rfl, SqL.of hl1, SqL.of g1, .inr (.inl rfl), ?_⟩
  by_cases c0 : xs = []
  · rw [decide_eq_true ⟨c0, rfl⟩]
    walk_at "go"
    exact q .non H1 none (BM.of e1) (w1.mono (by omega)) .none (fun _ h => nomatch h)
  rw [decide_eq_false (fun z => c0 z.1)]
  walk_at "go"
  refine ⟨s, 3, n, rfl, w1, by omega, by decide, by decide, fun r2 H2 hr2 b2 w2 => ?_⟩
  walk_at "go"
  refine ⟨rfl, ?_⟩
  rw [decV]
  have b02 := (BM.of (M := [s]) e1).trans b2
  by_cases c2 : (r2 : Int) = 0
  · rw [decide_eq_true c2]
    walk_at "go"
    exact q .non H2 none b02 (w2.mono (by omega)) .none (fun _ h => nomatch h)
  rw [decide_eq_false c2]
  walk_at "go"
  have hl2 := b02.at hl (by simpa using nl)
  have lx := hxs.length
  refine ⟨s, _, _, rfl, w2, by omega, .inl ⟨l, xs, rfl, nl, ⟨false, SqL.of hl2⟩, c0, by omega, fun v H3 hv b3 w3 => ?_⟩⟩
  have b03 := b02.trans b3
  obtain ⟨q0, hq0, qo⟩ := paired_mem hxs hv
  obtain ⟨t, f, rfl, ht, hf⟩ := qo.nl (BM.nl hs.src b03)
  have hl3 := b03.at hl (by simpa using nl)
  have ok0 := hq q0 hq0
  walk_at "go"
  refine w_gtup (SqT.of ht) rfl (w_gn4 ?_)
  refine Evl.q_cut (M := fun σ' H' => ∃ (o6 o8 : Option V) (fv : V) (c : Cd), σ' = [some (.ref s), some (.ref l), some (.str q0.name), some (.str q0.kind), some (.ref f), some (.bl q0.ins), o6, some fv, o8, none, none] ∧ BM [s] H H' ∧ Well H' s (n + 4) ∧ CO K H' fv c ∧ CdFor qs c ∧ c.dep = 0 ∧ c.simp.length = 1) ?_ ?_
  · walk_at "go"
    refine ⟨rfl, _, rfl, ?_⟩
    by_cases ck : q0.kind = "number"
    · rw [decide_eq_true (congrArg V.str ck), if_pos rfl]
      obtain ⟨lo, hi, efd⟩ : ∃ lo hi, q0.fd = .num lo hi := by
        have := ok0.fd
        cases e : q0.fd with
        | txt fs => rw [e] at this; exact absurd ck this.1
        | num lo hi => exact ⟨lo, hi, rfl⟩
      have fq := ok0.fd
      rw [efd] at fq hf
      walk_at "go"
      refine ⟨f, _, 0, _, rfl, rfl, SqT.of hf, rfl, ?_⟩
      walk_at "go"
      refine ⟨s, 3, _, rfl, w3, by omega, by decide, by decide, fun r4 H4 hr4 b4 w4 => ?_⟩
      walk_at "go"
      refine w_make ?_
      walk_at "go"
      intro a dxa ha hdxa _
      refine mkI2 (K := K) (x := "Above") (fs := ["name", "number"]) (ws := [.str q0.name, .int (lo + (r4 : Int))]) rfl ha hdxa fun H5 e5 hi5 => ?_
      walk_at "go"
      refine w_make ?_
      walk_at "go"
      intro a2 dxb ha2 hdxb _
      refine mkI2 (K := K) (x := "Below") (fs := ["name", "number"]) (ws := [.str q0.name, .int (lo + (r4 : Int))]) rfl ha2 hdxb fun H6 e6 hi6 => ?_
      walk_at "go"
      refine ⟨(by show 2 ≤ sizeLine; decide), fun p1 hp1 => ?_⟩
      have e7 := Same.new hp1 (.lst [V.ref a, V.ref a2])
      have g7 : (upd H6 p1 (.lst [V.ref a, V.ref a2])) p1 = some (.lst [V.ref a, V.ref a2]) := upd_same
      generalize upd H6 p1 (.lst [V.ref a, V.ref a2]) = H7 at e7 g7 ⊢
      have e47 := e5.trans (e6.trans e7)
      have w47 := w4.same e47
      have p1s : p1 ≠ s := ((w4.same e5).same e6).ne hp1
      walk_at "go"
      refine ⟨s, 2, _, rfl, w47, by omega, by decide, by decide, fun r7 H8 hr7 b8 w8 => ?_⟩
      have b08 := ((b03.trans b4).same e47).trans b8
      have n78 := BM.nl w47.src b8
      have g8 := b8.at g7 (by simpa using p1s)
      have su : ∀ c : Cd, c.name = q0.name → (c = .over q0.name (lo + (r4 : Int)) ∨ c = .under q0.name (lo + (r4 : Int))) → suitsB c q0.row = true := fun c _ h => by
        unfold Qd.row
        rw [efd]
        rcases h with rfl | rfl <;> rfl
      rcases (show r7 = 0 ∨ r7 = 1 by omega) with rfl | rfl
      · refine ⟨p1, _, ((0 : Nat) : Int), _, rfl, rfl, SqL.of g8, atI_nat rfl, ?_⟩
        walk_at "go"
        exact ⟨_, _, _, .over q0.name (lo + (r4 : Int)), rfl, b08, w8.mono (by omega), .over ((hi5.same (e6.trans e7)).nl n78), ⟨q0, hq0, rfl, su _ rfl (.inl rfl)⟩, rfl, rfl⟩
      · refine ⟨p1, _, ((1 : Nat) : Int), _, rfl, rfl, SqL.of g8, atI_nat rfl, ?_⟩
        walk_at "go"
        exact ⟨_, _, _, .under q0.name (lo + (r4 : Int)), rfl, b08, w8.mono (by omega), .under ((hi6.same e7).nl n78), ⟨q0, hq0, rfl, su _ rfl (.inr rfl)⟩, rfl, rfl⟩
    · rw [decide_eq_false (fun z => ck (V.str.inj z)), if_neg Bool.false_ne_true]
      obtain ⟨fs, efd⟩ : ∃ fs, q0.fd = .txt fs := by
        have := ok0.fd
        cases e : q0.fd with
        | txt fs => exact ⟨fs, rfl⟩
        | num lo hi => rw [e] at this; exact absurd this.1 ck
      have fq := ok0.fd
      rw [efd] at fq hf
      walk_at "go"
      have lfs : ((Fd.txt fs).vs).length = fs.length := List.length_map ..
      refine ⟨s, _, _, rfl, w3, by omega, .inl ⟨f, _, rfl, w3.tup hf, ⟨true, SqT.of hf⟩, fun z => by rw [z] at lfs; have := fq.2.1; simp at lfs; omega, by have := fq.2.2.1; omega, fun v H4 hv b4 w4 => ?_⟩⟩
      obtain ⟨o, ho, rfl⟩ := List.mem_map.mp (show v ∈ fs.map V.str from hv)
      have b04 := b03.trans b4
      walk_at "go"
      refine ⟨rfl, _, rfl, ?_⟩
      by_cases c1 : q0.kind = "one"
      · rw [decide_eq_true (congrArg V.str c1), if_pos rfl]
        walk_at "go"
        refine w_make ?_
        walk_at "go"
        intro a dxa ha hdxa _
        refine mkI2 (K := K) (x := "Is") (fs := ["name", "option"]) (ws := [.str q0.name, .str o]) rfl ha hdxa fun H5 e5 hi5 => ?_
        walk_at "go"
        exact ⟨_, _, _, .is q0.name o, rfl, b04.same e5, (w4.mono (by omega)).same e5, .is hi5, ⟨q0, hq0, rfl, by unfold Qd.row; rw [efd]; dsimp only; rw [if_pos c1]; exact decide_eq_true ho⟩, rfl, rfl⟩
      · rw [decide_eq_false (fun z => c1 (V.str.inj z)), if_neg Bool.false_ne_true]
        walk_at "go"
        refine w_make ?_
        walk_at "go"
        intro a dxa ha hdxa _
        refine mkI2 (K := K) (x := "Has") (fs := ["name", "option"]) (ws := [.str q0.name, .str o]) rfl ha hdxa fun H5 e5 hi5 => ?_
        walk_at "go"
        exact ⟨_, _, _, .has q0.name o, rfl, b04.same e5, (w4.mono (by omega)).same e5, .has hi5, ⟨q0, hq0, rfl, by unfold Qd.row; rw [efd]; dsimp only; rw [if_neg c1]; exact decide_eq_true ho⟩, rfl, rfl⟩
  · rintro σ' H4 ⟨o6, o8, fv, c, rfl, b04, w4, hc, hfor, hdep, hsim⟩
    walk_at "go"
    refine ⟨s, 5, _, rfl, w4, by omega, by decide, by decide, fun r5 H5 hr5 b5 w5 => ?_⟩
    have hc5 := hc.si (BM.nl w4.src b5).si
    have b05 := b04.trans b5
    have lq1 : 1 ≤ qs.length := List.length_pos_of_mem hq0
    walk_at "go"
    refine ⟨rfl, ?_⟩
    rw [decV]
    by_cases c5 : (r5 : Int) = 0
    · rw [decide_eq_true c5]
      walk_at "go"
      refine w_make ?_
      walk_at "go"
      intro a dxa ha hdxa _
      refine mkI2 (K := K) (x := "Not") (fs := ["inner"]) (ws := [fv]) rfl ha hdxa fun H6 e6 hi6 => ?_
      exact q (.ref a) H6 (some (.no c)) (b05.same e6) ((w5.mono (by omega)).same e6) (.some (.no hi6 (hc5.same e6))) fun c' h => by
        cases h
        exact ⟨hfor, by show c.dep + 1 ≤ _; omega, by show c.simp.length ≤ _; omega⟩
    rw [decide_eq_false c5]
    walk_at "go"
    have hl5 := b05.at hl (by simpa using nl)
    refine Evl.q_cut (M := fun σ' H' => ∃ (wv : V) (w2 : Option Cd), σ' = [some (.ref s), some (.ref l), some (.str q0.name), some (.str q0.kind), some (.ref f), some (.bl q0.ins), o6, some fv, o8, some (.int (r5 : Int)), some wv] ∧ BM [s] H H' ∧ Well H' s (n + 10 * (qs.length + 1)) ∧ CO K H' fv c ∧ WO K H' wv w2 ∧
      ∀ c', w2 = some c' → r5 < 3 ∧ CdSm qs (qs.length - 1) c') ?_ ?_
    · walk_at "go"
      by_cases c3 : (r5 : Int) < 3
      · rw [decide_eq_true c3]
        walk_at "go"
        refine ⟨1, rfl, ?_⟩
        walk_at "go"
        refine ⟨l, _, rfl, SqL.of hl5, fun l2 hl2 => ?_⟩
        rw [cut_last]
        have e6 := Same.new hl2 (.lst xs.dropLast)
        have g6 : (upd H5 l2 (.lst xs.dropLast)) l2 = some (.lst xs.dropLast) := upd_same
        have l2s := w5.ne hl2
        generalize upd H5 l2 (.lst xs.dropLast) = H6 at e6 g6 ⊢
        have hx6 : Paired (QO H6) xs qs := L2.Paired.mapP hxs fun _ _ z => (z.nl (BM.nl hs.src b05)).nl (Same.nl e6)
        have ld : qs.dropLast.length = qs.length - 1 := List.length_dropLast
        walk_at "go"
        refine ⟨s, l2, _, xs.dropLast, qs.dropLast, rfl, by omega, w5.same e6, by omega, l2s, g6, paired_drop hx6, fun y hy => hq y ((List.dropLast_sublist _).subset hy), by omega, fun v H7 w2 b7 w7 wo sm => ?_⟩
        walk_at "go"
        refine ⟨v, w2, rfl, (b05.same e6).trans b7, w7.mono (by omega), (hc5.same e6).si (BM.nl (w5.same e6).src b7).si, wo, fun c' h => ⟨by omega, ?_⟩⟩
        obtain ⟨s1, s2, s3⟩ := sm c' h
        rw [ld] at s2 s3
        exact ⟨s1.mono fun y hy => (List.dropLast_sublist _).subset hy, s2, s3⟩
      · rw [decide_eq_false c3]
        walk_at "go"
        exact ⟨.non, none, rfl, b05, w5.mono (by omega), hc5, .none, fun _ h => nomatch h⟩
    · rintro σ' H6 ⟨wv, w2, rfl, b06, w6, hc6, wo, sm⟩
      walk_at "go"
      cases wo with
      | none =>
        rw [decide_eq_true rfl]
        walk_at "go"
        exact q fv H6 (some c) b06 w6 (.some hc6) fun c' h => by
          cases h
          exact ⟨hfor, by omega, by omega⟩
      | @some _ c2 hc2 =>
        obtain ⟨a2, rfl⟩ := hc2.ref
        obtain ⟨r3, sp2, dp2, sm2⟩ := sm c2 rfl
        rw [decide_eq_false (fun z => nomatch z)]
        walk_at "go"
        refine w_make ?_
        walk_at "go"
        intro aB dxB haB hdxB _
        refine mkI2 (K := K) (x := "Both") (fs := ["left", "right"]) (ws := [fv, .ref a2]) rfl haB hdxB fun H7 e7 hi7 => ?_
        walk_at "go"
        refine w_make ?_
        walk_at "go"
        refine w_make ?_
        walk_at "go"
        intro aN dxN haN hdxN _
        refine mkI2 (K := K) (x := "Not") (fs := ["inner"]) (ws := [fv]) rfl haN hdxN fun H8 e8 hi8 => ?_
        walk_at "go"
        intro aE dxE haE hdxE _
        refine mkI2 (K := K) (x := "Either") (fs := ["left", "right"]) (ws := [.ref aN, .ref a2]) rfl haE hdxE fun H9 e9 hi9 => ?_
        walk_at "go"
        refine ⟨(by show 2 ≤ sizeLine; decide), fun p1 hp1 => ?_⟩
        have e10 := Same.new hp1 (.lst [V.ref aB, V.ref aE])
        have g10 : (upd H9 p1 (.lst [V.ref aB, V.ref aE])) p1 = some (.lst [V.ref aB, V.ref aE]) := upd_same
        generalize upd H9 p1 (.lst [V.ref aB, V.ref aE]) = H10 at e10 g10 ⊢
        have e610 := e7.trans (e8.trans (e9.trans e10))
        have hcN := hc6.same e610
        have hc2N := hc2.same e610
        walk_at "go"
        rcases (show r5 = 1 ∨ r5 = 2 by omega) with rfl | rfl
        · refine ⟨p1, _, ((0 : Nat) : Int), _, rfl, rfl, SqL.of g10, atI_nat rfl, ?_⟩
          refine q _ _ (some (.both c c2)) (b06.same e610) (w6.same e610) (.some (.both (hi7.same (e8.trans (e9.trans e10))) hcN hc2N)) fun c' h => ?_
          cases h
          refine ⟨⟨hfor, sp2⟩, ?_, ?_⟩
          · show max c.dep c2.dep + 1 ≤ _
            omega
          · show (c.simp ++ c2.simp).length ≤ _
            rw [List.length_append]
            omega
        · refine ⟨p1, _, ((1 : Nat) : Int), _, rfl, rfl, SqL.of g10, atI_nat rfl, ?_⟩
          refine q _ _ (some (.either (.no c) c2)) (b06.same e610) (w6.same e610) (.some (.either (hi9.same e10) (.no (hi8.same (e9.trans e10)) hcN) hc2N)) fun c' h => ?_
          cases h
          refine ⟨⟨hfor, sp2⟩, ?_, ?_⟩
          · show max (c.dep + 1) c2.dep + 1 ≤ _
            omega
          · show (c.simp ++ c2.simp).length ≤ _
            rw [List.length_append]
            omega
end
end K3
end Y3_part
section Y4_part
set_option Elab.async false
set_option linter.all false
set_option maxRecDepth 100000
set_option maxHeartbeats 1000000
set_option pp.deepTerms true
open PySem PySem.Spec PyProof.Rows L2
/-- go on as far as nothing is open -/
local macro_rules | `(tactic| walk_at "go") => `(tactic| repeat (first
  | with_reducible refine w_seq ?_ | with_reducible refine w_next ?_ | with_reducible refine w_set ?_ | with_reducible refine w_drop ?_ | with_reducible refine w_ret ?_ | with_reducible refine w_retN ?_
  | with_reducible refine w_if ?_ | ((with_reducible refine' w_var ?hv ?_); (case hv => exact rfl)) | with_reducible refine w_c ?_ | with_reducible refine w_nil ?_ | with_reducible refine w_cons ?_ | with_reducible refine w_op ?_ | with_reducible refine w_un ?_
  | with_reducible refine w_test ?_ | with_reducible refine w_tB ?_ | with_reducible refine w_not ?_ | with_reducible refine w_and ?_ | with_reducible refine w_or ?_ | with_reducible refine w_bl ?_
  | with_reducible refine w_andV ?_ | with_reducible refine w_orV ?_ | with_reducible refine w_notV ?_ | with_reducible refine w_ifE ?_ | with_reducible refine w_chain ?_ | with_reducible refine w_i0 ?_
  | with_reducible refine w_call ?_ | with_reducible refine w_callS ?_ | with_reducible refine w_cB ?_ | with_reducible refine w_tup ?_ | with_reducible refine w_lst ?_ | with_reducible refine w_fldV ?_
  | with_reducible refine w_neF ?_ | with_reducible refine w_neT ?_ | with_reducible refine w_notN ?_ | with_reducible refine w_isN ?_ | with_reducible refine w_gname ?_ | with_reducible refine w_gsub ?_ | with_reducible refine w_asg ?_ | with_reducible refine w_sl ?_ | with_reducible refine w_noP ?_ | with_reducible refine w_int1 ?_ | with_reducible refine w_part ?_ | with_reducible refine w_meth ?_ | with_reducible refine w_din ?_ | with_reducible refine w_dnotin ?_ | with_reducible refine w_dgt ?_ | with_reducible refine w_dget1 ?_ | with_reducible refine w_dget2 ?_ | with_reducible refine w_dput ?_ | with_reducible refine w_yes ?_ | with_reducible refine w_nT ?_ | with_reducible refine w_nF ?_ | with_reducible refine w_iteT ?_ | with_reducible refine w_iteF ?_))
namespace K3
def Qd.rowW (q : Qd) (w : Option Cd) : Rw := match q.fd with
  | .txt fs => if q.kind = "one" then .one q.name fs w else .some q.name fs w
  | .num lo hi => .number q.name lo hi w
theorem fdq_of {os : List Str} {kind : Str} {fd : Fd} (h : FdOk os kind fd) (l4 : os.length ≤ 4) (nd : os.Nodup) (nm : ∀ o ∈ os, isName o = true) : FdQ kind fd := by
  cases fd with
  | txt fs =>
    obtain ⟨h1, h2, h3⟩ := h
    exact ⟨h1, h3, Nat.le_trans h2.length_le l4, nd.sublist h2, fun o ho => nm o (h2.subset ho)⟩
  | num lo hi =>
    obtain ⟨h1, h2, h3, h4, h5⟩ := h
    exact ⟨h1, by omega, by omega, by omega⟩
theorem ke_val {H : Hp} : ∀ {kvs : List (Key × V)} {es : List (Str × (Str × Fd))} {z : Str}, Paired (KE1 H) kvs es → z ∈ es.map (·.1) → ∃ e t f, (z, e) ∈ es ∧ valV kvs (Sum.inr z) = some (.ref t) ∧ H t = some (.tup [.str e.1, .ref f]) ∧ H f = some (.tup e.2.vs)
  | _, _, _, .nil, h => nomatch h
  | _, _, z, .cons (a := kv) (b := e) h t, hz => by
    obtain ⟨h1, x, f, h2, h3, h4⟩ := h
    by_cases c : e.1 = z
    · refine ⟨e.2, x, f, ?_, ?_, h3, h4⟩
      · rw [← c]
        exact List.mem_cons_self ..
      · unfold valV
        rw [List.find?_cons, decide_eq_true (show kv.1 = Sum.inr z by rw [h1, c])]
        show some kv.2 = _
        rw [h2]
    · obtain ⟨e', x', f', k1, k2, k3, k4⟩ := ke_val t ((List.mem_cons.mp hz).resolve_left fun q => c q.symm)
      refine ⟨e', x', f', List.mem_cons_of_mem _ k1, ?_, k3, k4⟩
      unfold valV at k2 ⊢
      rw [List.find?_cons, decide_eq_false (show ¬ kv.1 = Sum.inr z by rw [h1]; exact fun q => c (Sum.inr.inj q))]
      exact k2
theorem KE1.nl {H H' : Hp} (e : NLf H H') {kv : Key × V} {x : Str × (Str × Fd)} (h : KE1 H kv x) : KE1 H' kv x :=
  let ⟨h1, t, f, h2, h3, h4⟩ := h
  ⟨h1, t, f, h2, e _ _ (fun _ z => nomatch z) h3, e _ _ (fun _ z => nomatch z) h4⟩
/-- the well is none of the pool's lists -/
theorem PoolO.bm {H H' : Hp} {s p : Addr} {n : Nat} {d : PoolD} (hs : Well H s n) (b : BM [s] H H') (h : PoolO H p d) : PoolO H' p d := by
  obtain ⟨⟨nl, ol, kd, kvs, h1, h2, h3, h4, h5⟩, ok⟩ := h
  have nl' := BM.nl hs.src b
  have off : ∀ (a : Addr) (xs : List V), xs.length ≠ 3 → H a = some (.lst xs) → a ∉ [s] := fun a xs hl ha z => by
    obtain ⟨x, y, c, e, _⟩ := hs
    rw [List.mem_singleton.mp z, e] at ha
    cases ha
    exact hl rfl
  exact ⟨⟨nl, ol, kd, kvs, nl' _ _ (fun _ z => nomatch z) h1, b.at h2 (off _ _ (by rw [List.length_map, ok.n10]; decide) h2), b.at h3 (off _ _ (by rw [List.length_map, ok.o4]; decide) h3), nl' _ _ (fun _ z => nomatch z) h4, L2.Paired.mapP h5 fun _ _ z => z.nl nl'⟩, ok⟩
theorem PoolO.same {H H' : Hp} {p : Addr} {d : PoolD} (e : Same H H') (h : PoolO H p d) : PoolO H' p d := by
  obtain ⟨⟨nl, ol, kd, kvs, h1, h2, h3, h4, h5⟩, ok⟩ := h
  exact ⟨⟨nl, ol, kd, kvs, e _ _ h1, e _ _ h2, e _ _ h3, e _ _ h4, L2.Paired.mapP h5 fun _ _ z => z.nl (Same.nl e)⟩, ok⟩
theorem mkT2 {K : PySem.W.Frag} {x f1 f2 f3 : Str} {v1 v3 : V} {l a dx : Addr} {xs : List V} {H1 : Hp} {PP : Hp → Prop} {E : XK} (hl : SqT K H1 l xs) (ha : H1 a = none) (hd : H1 dx = none) (q : ∀ t H', Same H1 H' → Ins K H' a x [(f1, v1), (f2, .ref t), (f3, v3)] → SqT K H' t xs → PP H') :
    spIT K x f1 f2 f3 [.ref a, v1, .ref l, v3] (L2.upd (L2.upd H1 dx (.own a)) a (.ins (He.ga K x) dx [])) (fun v H2 => v = .non ∧ PP H2) E := by
  have st : Same H1 (L2.upd (L2.upd H1 dx (.own a)) a (.ins (He.ga K x) dx [])) := fun b o hb => by rw [upd_ne (ne_of_none hb ha), upd_ne (ne_of_none hb hd)]; exact hb
  exact ⟨a, dx, l, v1, v3, xs, rfl, .inr (st.sqt hl), upd_same, fun t H' h1 h2 h3 => ⟨rfl, q t H' (fun b o hb => h3 b o (ne_of_none hb ha) (st b o hb)) ⟨dx, h1⟩ h2⟩⟩
def spQuestW (K : PySem.W.Frag) (N : Nat) : Sp := fun vs H Q _ => ∃ (s p l : Addr) (n : Nat) (d : PoolD) (xs : List V) (qs : List Qd) (name : Str) (ins : Bool), vs = [.ref s, .ref p, .str name, .ref l, .bl ins] ∧ qs.length < N ∧ Well H s n ∧ n + 10 * (qs.length + 1) + 30 ≤ most ∧ PoolO H p d ∧ name ∈ d.ns ∧ l ≠ s ∧ H l = some (.lst xs) ∧ Paired (QO H) xs qs ∧ (∀ q ∈ qs, QdOk q) ∧ qs.length ≤ 1000 ∧
  ∀ t rv t2 H' q w, H t = none → BM [s] H H' → Well H' s (n + 10 * (qs.length + 1) + 30) → H' t = some (.tup [rv, .ref t2]) → QO H' (.ref t2) q → RO K H' rv (q.rowW w) → q.name = name → q.ins = ins → QdOk q → (∀ c, w = some c → CdSm qs qs.length c) → Q (.ref t) H'
section
variable {P : Program} {w : World} {K : PySem.W.Frag} {mg : Str → Option Value} {base : Heap}
theorem sc_question : FnScope ["_law_well_here", "_law_p", "_law_name_here", "_law_seen", "_law_inside", "_law_kind", "_law_fields_here", "_law_condition_here", "_law_row"] ["_law_well_here", "_law_p", "_law_name_here", "_law_seen", "_law_inside"] (defScope s__law_question) := ⟨rfl, rfl, rfl, by decide +kernel, rfl, by decide +kernel, by decide +kernel⟩
theorem ok_question (T : Tx K mg) (N : Nat) : Ok P w K mg base (N + 4) (He.ga K "_law_question") ["_law_well_here", "_law_p", "_law_name_here", "_law_seen", "_law_inside"] (spQuestW K N) := by
  obtain ⟨fd, F⟩ := T.f__law_question
  have O_law_draw := ok_draw (P := P) (w := w) (base := base) T
  have O_law_pick := ok_pick (P := P) (w := w) (base := base) T
  have O_law_fields := ok_fields (P := P) (w := w) (base := base) T
  have O_law_condition := ok_condition (P := P) (w := w) (base := base) T N
  obtain ⟨fOne, FOne⟩ := T.f_One_init
  obtain ⟨fSome, FSome⟩ := T.f_Some_init
  obtain ⟨fNumber, FNumber⟩ := T.f_Number_init
  obtain ⟨_, kbOne⟩ := FOne.kbinds0 (ps := ["self", "name", "options", "where"]) 3 ["where"] [] (fun us _ ws => us ++ ws) (by simp) (by simp) (fun a _ c => a.append c) (fun _ _ _ _ _ _ us mv ws h1 h2 h3 => match us, mv, ws, h1, h2, h3 with | [_, _, _], [], [_], _, _, _ => rfl)
  obtain ⟨_, kbSome⟩ := FSome.kbinds0 (ps := ["self", "name", "options", "where"]) 3 ["where"] [] (fun us _ ws => us ++ ws) (by simp) (by simp) (fun a _ c => a.append c) (fun _ _ _ _ _ _ us mv ws h1 h2 h3 => match us, mv, ws, h1, h2, h3 with | [_, _, _], [], [_], _, _, _ => rfl)
  obtain ⟨_, kbNumber⟩ := FNumber.kbinds0 (ps := ["self", "name", "low", "high", "where"]) 4 ["where"] [] (fun us _ ws => us ++ ws) (by simp) (by simp) (fun a _ c => a.append c) (fun _ _ _ _ _ _ us mv ws h1 h2 h3 => match us, mv, ws, h1, h2, h3 with | [_, _, _, _], [], [_], _, _, _ => rfl)
  refine ⟨fd, F.ok (k := N + 3) sc_question (fun vs H Q E h => ?_) (fun cdv A outer s_ H vs Q E hr h => ?_), F.bindsN fun _ _ _ _ _ _ us hl => match us, hl with | [_, _, _, _, _], _ => rfl, F.kp⟩
  · obtain ⟨s, p, l, n, d, xs, qs, name, ins, rfl, _⟩ := h
    rfl
  obtain ⟨s, p, l, n, d, xs, qs, name, ins, rfl, hN, hs, hn, hp, hnm, nl, hl, hxs, hq, lq, q⟩ := h
  have hu65 := K3.Room.units65 hr
  have hu1 := Nat.lt_of_le_of_lt (Nat.add_le_add_left (show 1 ≤ 65 by decide) _) hu65
  have r_law_draw : Room 1 _ := hr.mono (by omega)
  have r_law_pick : Room 2 _ := hr.mono (by omega)
  have r_law_fields : Room 2 _ := hr.mono (by omega)
  have r_law_condition : Room (N + 3) _ := hr
  refine ⟨_, pss_cons (ps_asg (pe_dget hu1 (pe_dget hu1 (pv 1) pe_str (fun _ _ => rfl)) (pv 2) (fun _ _ => rfl)) (pg_tup (by rfl) (pgs_cons (pg_name (i := 5) sc_question.nd rfl (Or.inl rfl)) (pgs_cons (pg_name (i := 6) sc_question.nd rfl (Or.inl rfl)) pgs_nil))))
      (Evl.pss_cut (ps_if (pt_cmpR op_eq (pe_f O_law_draw r_law_draw T.g__law_draw (pa_cons (pv 0) (pa_cons pe_int pa_nil))) pe_int (nomark _)) (pss_cons (ps_set (i := 5) sc_question.nd rfl (Or.inl rfl) (pe_f O_law_pick r_law_pick T.g__law_pick (pa_cons (pv 0) (pa_cons (pe_lst (pa_cons pe_str (pa_cons pe_str (pa_cons pe_str pa_nil)))) pa_nil))))
      (pss_one (ps_set (i := 6) sc_question.nd rfl (Or.inl rfl) (pe_f O_law_fields r_law_fields T.g__law_fields (pa_cons (pv 0) (pa_cons (pe_dget hu1 (pv 1) pe_str (fun _ _ => rfl)) (pa_cons (pv 5) pa_nil))))))) pss_nil)
      (pss_cons (ps_set (i := 7) sc_question.nd rfl (Or.inl rfl) (pe_f O_law_condition r_law_condition T.g__law_condition (pa_cons (pv 0) (pa_cons (pv 3) pa_nil))))
      (Evl.pss_cut (ps_if (pt_cmpR op_eq (pv 5) pe_str (nomark _)) (pss_one (ps_set (i := 8) sc_question.nd rfl (Or.inl rfl) (pe_makeK (n := 3) (ks := ["where"]) T.mk_Number (ok_Number T FNumber) (hr.mono (by omega : 2 ≤ N + 3)) (by rfl) T.g_Number kbNumber passL (pa_cons (pv 2) (pa_cons (pe_ix ix_tup (pv 6) pe_int (fun _ _ => rfl)) (pa_cons (pe_ix ix_tup (pv 6) pe_int (fun _ _ => rfl)) pa_nil))) (pk_cons (pv 7) pk_nil)))) (pss_one (ps_set (i := 8) sc_question.nd rfl (Or.inl rfl) (pe_ifExp (pt_cmpR op_eq (pv 5) pe_str (nomark _)) (pe_makeK (n := 2) (ks := ["where"]) T.mk_One (ok_One T FOne) (hr.mono (by omega : 2 ≤ N + 3)) (by rfl) T.g_One kbOne passL (pa_cons (pv 2) (pa_cons (pv 6) pa_nil)) (pk_cons (pv 7) pk_nil)) (pe_makeK (n := 2) (ks := ["where"]) T.mk_Some (ok_Some T FSome) (hr.mono (by omega : 2 ≤ N + 3)) (by rfl) T.g_Some kbSome passL (pa_cons (pv 2) (pa_cons (pv 6) pa_nil)) (pk_cons (pv 7) pk_nil))))))
      (pss_one (ps_ret (pe_tup (pa_cons (pv 8) (pa_cons (pe_tup (pa_cons (pv 2) (pa_cons (pv 5) (pa_cons (pv 6) (pa_cons (pv 4) pa_nil))))) pa_nil)))))))), ?_⟩
  obtain ⟨⟨nml, ol, kd, kvs, hpd, hnml, hol, hkd, hkv⟩, pok⟩ := id hp
  obtain ⟨e, t0, f0, he, hval, ht0, hf0⟩ := ke_val (z := name) hkv (by rw [zip_fst, pok.k10, ← pok.n10, List.take_length]; exact hnm)
  obtain ⟨kok, fok⟩ := pok.kd e (List.of_mem_zip he).2
  have fq0 := fdq_of fok (by rw [pok.o4]; exact Nat.le_refl _) pok.ndo pok.nmo
  have nmOk := pok.nm name hnm
  walk_at "go"
  refine ⟨p, .ref kd, rfl, DGet.k (k := Sum.inr "kinds") hpd, ?_⟩
  walk_at "go"
  refine ⟨kd, .ref t0, rfl, hval ▸ DGet.k (k := Sum.inr name) hkd, ?_⟩
  refine w_gtup (SqT.of ht0) rfl (w_gnn ?_)
  refine Evl.q_cut (M := fun σ' H' => ∃ (kind : Str) (f : Addr) (fd : Fd), σ' = [some (.ref s), some (.ref p), some (.str name), some (.ref l), some (.bl ins), some (.str kind), some (.ref f), none, none] ∧ BM [s] H H' ∧ Well H' s (n + 15) ∧ H' f = some (.tup fd.vs) ∧ KindOk kind ∧ FdQ kind fd) ?_ ?_
  · walk_at "go"
    refine ⟨s, 6, n, rfl, hs, by omega, by decide, by decide, fun r1 H1 hr1 b1 w1 => ?_⟩
    have nl1 := BM.nl hs.src b1
    walk_at "go"
    refine ⟨rfl, ?_⟩
    rw [decV]
    by_cases c1 : (r1 : Int) = 0
    · rw [decide_eq_true c1]
      walk_at "go"
      refine ⟨(by show 3 ≤ sizeLine; decide), fun q1 hq1 => ?_⟩
      have e2 := Same.new hq1 (.lst [V.str "one", .str "some", .str "number"])
      have g2 : (upd H1 q1 (.lst [V.str "one", .str "some", .str "number"])) q1 = some (.lst [V.str "one", .str "some", .str "number"]) := upd_same
      generalize upd H1 q1 (.lst [V.str "one", .str "some", .str "number"]) = H2 at e2 g2 ⊢
      have w2 := w1.same e2
      refine ⟨s, _, _, rfl, w2, by omega, .inl ⟨q1, _, rfl, w1.ne hq1, ⟨false, SqL.of g2⟩, by simp, by show 3 ≤ 100000; decide, fun v H3 hv b3 w3 => ?_⟩⟩
      obtain ⟨kind, rfl, kok2⟩ : ∃ kind, v = .str kind ∧ KindOk kind := by
        simp only [List.mem_cons, List.not_mem_nil, or_false] at hv
        rcases hv with rfl | rfl | rfl
        · exact ⟨_, rfl, .inl rfl⟩
        · exact ⟨_, rfl, .inr (.inl rfl)⟩
        · exact ⟨_, rfl, .inr (.inr rfl)⟩
      have b03 := (b1.same e2).trans b3
      obtain ⟨⟨nml3, ol3, kd3, kvs3, hpd3, hnml3, hol3, hkd3, hkv3⟩, _⟩ := PoolO.bm hs b03 hp
      have ol3s : ol3 ≠ s := fun z => by
        obtain ⟨x, y, c, e, _⟩ := w3
        rw [z, e] at hol3
        have := congrArg (fun o : Option HO => match o with | some (HO.lst xs) => xs.length | some _ => 0 | none => 0) hol3
        dsimp only at this
        rw [List.length_map, pok.o4] at this
        exact absurd this (show ¬ (3 : Nat) = 4 by decide)
      walk_at "go"
      refine ⟨p, .ref ol3, rfl, DGet.k (k := Sum.inr "options") hpd3, ?_⟩
      walk_at "go"
      refine ⟨s, ol3, _, d.os, kind, rfl, w3, by omega, ol3s, SqL.of hol3, by rw [pok.o4]; decide, by rw [pok.o4]; exact Nat.le_refl _, fun f H4 fd2 _ b4 w4 hf hfd => ?_⟩
      walk_at "go"
      exact ⟨kind, f, fd2, rfl, b03.trans b4, w4.mono (by omega), hf, kok2, fdq_of hfd (by rw [pok.o4]; exact Nat.le_refl _) pok.ndo pok.nmo⟩
    · rw [decide_eq_false c1]
      walk_at "go"
      exact ⟨e.1, f0, e.2, rfl, b1, w1.mono (by omega), nl1 _ _ (fun _ z => nomatch z) hf0, kok, fq0⟩
  · rintro σ' H1 ⟨kind, f, fd2, rfl, b1, w1, hf, kok2, fq⟩
    have nl1 := BM.nl hs.src b1
    walk_at "go"
    refine ⟨s, l, _, xs, qs, rfl, hN, w1, by omega, nl, b1.at hl (by simpa using nl), L2.Paired.mapP hxs fun _ _ z => z.nl nl1, hq, lq, fun cv H2 wc b2 w2 wo sm => ?_⟩
    have hf2 := BM.nl w1.src b2 f (.tup fd2.vs) (fun _ z => nomatch z) hf
    have b02 := b1.trans b2
    walk_at "go"
    refine Evl.q_cut (M := fun σ' H' => ∃ (rv : V), σ' = [some (.ref s), some (.ref p), some (.str name), some (.ref l), some (.bl ins), some (.str kind), some (.ref f), some cv, some rv] ∧ Same H2 H' ∧ RO K H' rv ((⟨name, kind, fd2, ins⟩ : Qd).rowW wc)) ?_ ?_
    · walk_at "go"
      refine ⟨rfl, _, rfl, ?_⟩
      by_cases ck : kind = "number"
      · rw [decide_eq_true (congrArg V.str ck), if_pos rfl]
        obtain ⟨lo, hi, rfl⟩ : ∃ lo hi, fd2 = .num lo hi := by
          cases fd2 with
          | txt fs => exact absurd ck fq.1
          | num lo hi => exact ⟨lo, hi, rfl⟩
        walk_at "go"
        refine w_makeK ?_
        walk_at "go"
        refine ⟨f, _, 0, _, rfl, rfl, SqT.of hf2, rfl, ?_⟩
        walk_at "go"
        refine ⟨f, _, 1, _, rfl, rfl, SqT.of hf2, rfl, ?_⟩
        walk_at "go"
        refine ⟨rfl, rfl, fun a dxa ha hdxa _ => ?_⟩
        refine mkI2 (K := K) (x := "Number") (fs := ["name", "low", "high", "where"]) (ws := [.str name, .int lo, .int hi, cv]) rfl ha hdxa fun H3 e3 hi3 => ?_
        exact ⟨_, rfl, e3, .number hi3 (wo.same e3)⟩
      · rw [decide_eq_false (fun z => ck (V.str.inj z)), if_neg Bool.false_ne_true]
        obtain ⟨fs, rfl⟩ : ∃ fs, fd2 = .txt fs := by
          cases fd2 with
          | txt fs => exact ⟨fs, rfl⟩
          | num lo hi => exact absurd fq.1 ck
        walk_at "go"
        refine ⟨rfl, _, rfl, ?_⟩
        by_cases c1 : kind = "one"
        · rw [decide_eq_true (congrArg V.str c1), if_pos rfl]
          walk_at "go"
          refine w_makeK ?_
          walk_at "go"
          refine ⟨rfl, rfl, fun a dxa ha hdxa _ => ?_⟩
          refine mkT2 (K := K) (x := "One") (f1 := "name") (f2 := "options") (f3 := "where") (v1 := .str name) (v3 := cv) (SqT.of hf2) ha hdxa fun t H3 e3 hi3 ht3 => ?_
          refine ⟨_, rfl, e3, ?_⟩
          show RO K H3 _ (if kind = "one" then _ else _)
          rw [if_pos c1]
          exact .one hi3 ht3 (wo.same e3)
        · rw [decide_eq_false (fun z => c1 (V.str.inj z)), if_neg Bool.false_ne_true]
          walk_at "go"
          refine w_makeK ?_
          walk_at "go"
          refine ⟨rfl, rfl, fun a dxa ha hdxa _ => ?_⟩
          refine mkT2 (K := K) (x := "Some") (f1 := "name") (f2 := "options") (f3 := "where") (v1 := .str name) (v3 := cv) (SqT.of hf2) ha hdxa fun t H3 e3 hi3 ht3 => ?_
          refine ⟨_, rfl, e3, ?_⟩
          show RO K H3 _ (if kind = "one" then _ else _)
          rw [if_neg c1]
          exact .some hi3 ht3 (wo.same e3)
    · rintro σ' H3 ⟨rv, rfl, e3, hro⟩
      walk_at "go"
      refine ⟨(by show 4 ≤ sizeLine; decide), fun t2 ht2 => ?_⟩
      have e4 := Same.new ht2 (.tup [V.str name, .str kind, .ref f, .bl ins])
      have g4 : (upd H3 t2 (.tup [V.str name, .str kind, .ref f, .bl ins])) t2 = some (.tup [V.str name, .str kind, .ref f, .bl ins]) := upd_same
      generalize upd H3 t2 (.tup [V.str name, .str kind, .ref f, .bl ins]) = H4 at e4 g4 ⊢
      walk_at "go"
      refine ⟨(by show 2 ≤ sizeLine; decide), fun t ht => ?_⟩
      have e5 := Same.new ht (.tup [rv, V.ref t2])
      have g5 : (upd H4 t (.tup [rv, V.ref t2])) t = some (.tup [rv, V.ref t2]) := upd_same
      generalize upd H4 t (.tup [rv, V.ref t2]) = H5 at e5 g5 ⊢
      have e25 := e3.trans (e4.trans e5)
      exact q t rv t2 H5 ⟨name, kind, fd2, ins⟩ wc (b02.free ((e3.trans e4).free ht)) (b02.same e25) ((w2.mono (by omega)).same e25) g5 ⟨t2, f, rfl, e5 _ _ g4, e25 _ _ hf2⟩ (RO.same (e4.trans e5) hro) rfl rfl ⟨nmOk, kok2, fq⟩ sm
end
end K3
end Y4_part
section Y5_part
set_option Elab.async false
set_option linter.all false
set_option maxRecDepth 100000
set_option maxHeartbeats 1000000
set_option pp.deepTerms true
open PySem PySem.Spec PyProof.Rows L2
/-- go on as far as nothing is open -/
local macro_rules | `(tactic| walk_at "go") => `(tactic| repeat (first
  | with_reducible refine w_seq ?_ | with_reducible refine w_next ?_ | with_reducible refine w_set ?_ | with_reducible refine w_drop ?_ | with_reducible refine w_ret ?_ | with_reducible refine w_retN ?_
  | with_reducible refine w_if ?_ | ((with_reducible refine' w_var ?hv ?_); (case hv => exact rfl)) | with_reducible refine w_c ?_ | with_reducible refine w_nil ?_ | with_reducible refine w_cons ?_ | with_reducible refine w_op ?_ | with_reducible refine w_un ?_
  | with_reducible refine w_test ?_ | with_reducible refine w_tB ?_ | with_reducible refine w_not ?_ | with_reducible refine w_and ?_ | with_reducible refine w_or ?_ | with_reducible refine w_bl ?_
  | with_reducible refine w_andV ?_ | with_reducible refine w_orV ?_ | with_reducible refine w_notV ?_ | with_reducible refine w_ifE ?_ | with_reducible refine w_chain ?_ | with_reducible refine w_i0 ?_
  | with_reducible refine w_call ?_ | with_reducible refine w_callS ?_ | with_reducible refine w_cB ?_ | with_reducible refine w_tup ?_ | with_reducible refine w_lst ?_ | with_reducible refine w_fldV ?_
  | with_reducible refine w_neF ?_ | with_reducible refine w_neT ?_ | with_reducible refine w_notN ?_ | with_reducible refine w_isN ?_ | with_reducible refine w_gname ?_ | with_reducible refine w_gsub ?_ | with_reducible refine w_asg ?_ | with_reducible refine w_sl ?_ | with_reducible refine w_noP ?_ | with_reducible refine w_int1 ?_ | with_reducible refine w_part ?_ | with_reducible refine w_meth ?_ | with_reducible refine w_din ?_ | with_reducible refine w_dnotin ?_ | with_reducible refine w_dgt ?_ | with_reducible refine w_dget1 ?_ | with_reducible refine w_dget2 ?_ | with_reducible refine w_dput ?_ | with_reducible refine w_yes ?_ | with_reducible refine w_nT ?_ | with_reducible refine w_nF ?_ | with_reducible refine w_iteT ?_ | with_reducible refine w_iteF ?_))
namespace K3
def WS (qs : List Qd) (w : Option Cd) : Prop := ∀ c, w = some c → CdSm qs qs.length c
abbrev QW := Qd × Option Cd
def QW.row (x : QW) : Rw := x.1.rowW x.2
/-- questions one behind the other, each with its condition over what stands ahead -/
structure Ch (qs : List Qd) (ps : List QW) : Prop where
  ok : ∀ x ∈ ps, QdOk x.1
  ws : ∀ i x, ps[i]? = some x → WS (qs ++ (ps.take i).map (·.1)) x.2
theorem Ch.snoc {qs : List Qd} {ps : List QW} {x : QW} (h : Ch qs ps) (k : QdOk x.1) (hw : WS (qs ++ ps.map (·.1)) x.2) : Ch qs (ps ++ [x]) := by
  refine ⟨fun y hy => ?_, fun i y hi => ?_⟩
  · rcases List.mem_append.mp hy with hy | hy
    · exact h.ok y hy
    · rw [List.mem_singleton.mp hy]; exact k
  · by_cases c : i < ps.length
    · rw [List.getElem?_append_left c] at hi
      rw [List.take_append_of_le_length (by omega)]
      exact h.ws i y hi
    · have li := (List.getElem?_eq_some_iff.mp hi).1
      rw [List.length_append, List.length_singleton] at li
      have : i = ps.length := by omega
      subst this
      rw [List.getElem?_concat_length] at hi
      cases hi
      rw [List.take_append_of_le_length (Nat.le_refl _), List.take_length]
      exact hw
theorem BM.drop {M : List Addr} {H H' : Hp} {s R : Addr} (h : BM [s, R] H H') (hR : H R = none) : BM [s] H H' := fun c o hc => by
  obtain ⟨o', h1, h2⟩ := h c o hc
  refine ⟨o', h1, fun n => h2 ?_⟩
  have nR : c ≠ R := fun z => by rw [z, hR] at hc; cases hc
  simp only [List.mem_cons, List.not_mem_nil, or_false, not_or]
  exact ⟨by simpa using n, nR⟩
theorem ROs.snoc {K : PySem.W.Frag} {B : Hp} {v : V} {r : Rw} : ∀ {xs : List V} {rs : List Rw}, ROs K B xs rs → RO K B v r → ROs K B (xs ++ [v]) (rs ++ [r])
  | _, _, .nil, k => .cons k .nil
  | _, _, .cons a t, k => .cons a (ROs.snoc t k)
theorem NLf.upd {H : Hp} {d : Addr} {xs : List V} (h : H d = some (.lst xs)) (o : HO) : NLf H (L2.upd H d o) := fun b u n q => by
  rw [upd_ne (fun z => by rw [z, h] at q; exact n xs (Option.some.inj q).symm)]
  exact q
def WiOk (qs : List Qd) (ps : List QW) (rs : List Rw) : Prop := Ch qs ps ∧ (ps.length = 1 ∨ ps.length = 2) ∧ (rs = ps.map QW.row ∨ ∃ a b w3, ps = [a, b] ∧ rs = [a.row, .sect [b.row] w3] ∧ WS (qs ++ [a.1]) w3)
theorem len_two {α : Type} : ∀ {l : List α}, l.length = 2 → ∃ a b, l = [a, b]
  | [a, b], _ => ⟨a, b, rfl⟩
  | [], h => nomatch h
  | [_], h => nomatch h
  | _ :: _ :: _ :: l, h => by simp at h
theorem mkS2 {K : PySem.W.Frag} {v3 : V} {l a dx : Addr} {xs : List V} {H1 : Hp} {PP : Hp → Prop} {E : XK} (hl : H1 l = some (.lst xs)) (ha : H1 a = none) (hd : H1 dx = none) (q : ∀ t H', Same H1 H' → Ins K H' a "Section" [("rows", .ref t), ("where", v3)] → SqT K H' t xs → PP H') :
    spIS K [.ref a, .ref l, v3] (L2.upd (L2.upd H1 dx (.own a)) a (.ins (He.ga K "Section") dx [])) (fun v H2 => v = .non ∧ PP H2) E := by
  have st : Same H1 (L2.upd (L2.upd H1 dx (.own a)) a (.ins (He.ga K "Section") dx [])) := fun b o hb => by rw [upd_ne (ne_of_none hb ha), upd_ne (ne_of_none hb hd)]; exact hb
  exact ⟨a, dx, l, v3, xs, rfl, .inl (SqL.of (st _ _ hl)), upd_same, fun t H' h1 h2 h3 => ⟨rfl, q t H' (fun b o hb => h3 b o (ne_of_none hb ha) (st b o hb)) ⟨dx, h1⟩ h2⟩⟩
def spWithinW (K : PySem.W.Frag) (N : Nat) : Sp := fun vs H Q _ => ∃ (s p nl l : Addr) (n : Nat) (d : PoolD) (ns : List Str) (xs : List V) (qs : List Qd) (ins : Bool), vs = [.ref s, .ref p, .ref nl, .ref l, .bl ins] ∧ qs.length + 1 < N ∧ Well H s n ∧ n + 40 * (qs.length + 4) ≤ most ∧ PoolO H p d ∧ nl ≠ s ∧ H nl = some (.lst (ns.map V.str)) ∧ 2 ≤ ns.length ∧ ns.length ≤ 100 ∧ (∀ z ∈ ns, z ∈ d.ns) ∧ l ≠ s ∧ H l = some (.lst xs) ∧ Paired (QO H) xs qs ∧ (∀ q ∈ qs, QdOk q) ∧ qs.length ≤ 900 ∧
  ∀ t rl sl rvs ys H' ps rs, H t = none → BM [s] H H' → Well H' s (n + 40 * (qs.length + 4)) → H' t = some (.tup [.ref rl, .ref sl]) → rl ≠ s → sl ≠ s → H' rl = some (.lst rvs) → ROs K H' rvs rs → H' sl = some (.lst ys) → Paired (QO H') ys (qs ++ ps.map (·.1)) → WiOk qs ps rs → ps.map (·.1.name) = ns.take ps.length → (∀ x ∈ ps, x.1.ins = ins) → Q (.ref t) H'
section
variable {P : Program} {w : World} {K : PySem.W.Frag} {mg : Str → Option Value} {base : Heap}
theorem sc_within : FnScope ["_law_well_here", "_law_p", "_law_names_here", "_law_seen", "_law_inside", "_law_rows", "_law_name_here", "_law_row", "_law_question_here"] ["_law_well_here", "_law_p", "_law_names_here", "_law_seen", "_law_inside"] (defScope s__law_within) := ⟨rfl, rfl, rfl, by decide +kernel, rfl, by decide +kernel, by decide +kernel⟩
theorem ok_within (T : Tx K mg) (N : Nat) : Ok P w K mg base (N + 5) (He.ga K "_law_within") ["_law_well_here", "_law_p", "_law_names_here", "_law_seen", "_law_inside"] (spWithinW K N) := by
  obtain ⟨fd, F⟩ := T.f__law_within
  have O_law_draw := ok_draw (P := P) (w := w) (base := base) T
  have O_law_condition := ok_condition (P := P) (w := w) (base := base) T N
  have O_law_question := ok_question (P := P) (w := w) (base := base) T N
  obtain ⟨fSection, FSection⟩ := T.f_Section_init
  obtain ⟨_, kbSection⟩ := FSection.kbinds0 (ps := ["self", "rows", "where"]) 2 ["where"] [] (fun us _ ws => us ++ ws) (by simp) (by simp) (fun a _ c => a.append c) (fun _ _ _ _ _ _ us mv ws h1 h2 h3 => match us, mv, ws, h1, h2, h3 with | [_, _], [], [_], _, _, _ => rfl)
  refine ⟨fd, F.ok (k := N + 4) sc_within (fun vs H Q E h => ?_) (fun cdv A outer s_ H vs Q E hr h => ?_), F.bindsN fun _ _ _ _ _ _ us hl => match us, hl with | [_, _, _, _, _], _ => rfl, F.kp⟩
  · obtain ⟨s, p, nl, l, n, d, ns, xs, qs, ins, rfl, _⟩ := h
    rfl
  obtain ⟨s, p, nl, l, n, d, ns, xs, qs, ins, rfl, hN, hs, hn, hp, nls, hnl, ln2, ln100, hns, ls, hl, hxs, hq, lq, q⟩ := h
  have hu65 := K3.Room.units65 hr
  have r_law_draw : Room 1 _ := hr.mono (by omega)
  have r_law_condition : Room (N + 3) _ := hr.mono (by omega)
  have r_law_question : Room (N + 4) _ := hr
  refine ⟨_, pss_cons (ps_set (i := 5) sc_within.nd rfl (Or.inl rfl) (pe_lst pa_nil))
      (pss_cons (ps_for (passes_of rfl) (by rfl) (pi_list (pe_slice sl_list (pv 2) po_none (po_some (pe_op op_add pe_int (pe_f O_law_draw r_law_draw T.g__law_draw (pa_cons (pv 0) (pa_cons pe_int pa_nil))))))) (pg_name (i := 6) sc_within.nd rfl (Or.inl rfl)) (pss_cons (ps_asg (pe_f O_law_question r_law_question T.g__law_question (pa_cons (pv 0) (pa_cons (pv 1) (pa_cons (pv 6) (pa_cons (pv 3) (pa_cons (pv 4) pa_nil)))))) (pg_tup (by rfl) (pgs_cons (pg_name (i := 7) sc_within.nd rfl (Or.inl rfl)) (pgs_cons (pg_name (i := 8) sc_within.nd rfl (Or.inl rfl)) pgs_nil))))
      (pss_cons (ps_expr (pe_bm PySem.F.plainAttrs_list PySem.F.slot_list_append PySem.F.type_list_append mt_append (pv 5) (pa_cons (pv 7) pa_nil)))
      (pss_one (ps_set (i := 3) sc_within.nd rfl (Or.inl rfl) (pe_op op_cat (pv 3) (pe_lst (pa_cons (pv 8) pa_nil))))))))
      (pss_cons (ps_if (pw_and (pt_cmpR op_eq (pe_callB call_len_seq (by rfl) T.z_len PySem.boot_len (pa_cons (pv 5) pa_nil)) pe_int (nomark _)) (pw_and1 (pt_cmpR op_eq (pe_f O_law_draw r_law_draw T.g__law_draw (pa_cons (pv 0) (pa_cons pe_int pa_nil))) pe_int (nomark _)))).pt (pss_one (ps_ret (pe_tup (pa_cons (pe_lst (pa_cons (pe_ix ix_list (pv 5) pe_int (fun _ _ => rfl)) (pa_cons (pe_makeK (n := 1) (ks := ["where"]) T.mk_Section (ok_Section T FSection) (hr.mono (by omega : 2 ≤ N + 4)) (by rfl) T.g_Section kbSection passL (pa_cons (pe_slice sl_list (pv 5) (po_some pe_int) po_none) pa_nil) (pk_cons (pe_f O_law_condition r_law_condition T.g__law_condition (pa_cons (pv 0) (pa_cons (pe_slice sl_list (pv 3) po_none (po_some (pe_un un_neg pe_int))) pa_nil))) pk_nil)) pa_nil))) (pa_cons (pv 3) pa_nil))))) pss_nil)
      (pss_one (ps_ret (pe_tup (pa_cons (pv 5) (pa_cons (pv 3) pa_nil))))))), ?_⟩
  walk_at "go"
  refine ⟨(by show 0 ≤ sizeLine; decide), fun R hR0 => ?_⟩
  have e1 := Same.new hR0 (.lst [])
  have hR1 : (upd H R (.lst [])) R = some (.lst []) := upd_same
  have Rs := hs.ne hR0
  generalize upd H R (.lst []) = H1 at e1 hR1 ⊢
  have w1 := hs.same e1
  walk_at "go"
  refine list_open ?_
  walk_at "go"
  refine ⟨s, 2, _, rfl, w1, by omega, by decide, by decide, fun r2 H2 hr2 b2 w2 => ?_⟩
  have b02 := (BM.of (M := [s]) e1).trans b2
  have hnl2 := b02.at hnl (by simpa using nls)
  have hR2 := b2.at hR1 (by simpa using Rs)
  walk_at "go"
  refine ⟨nl, _, rfl, SqL.of hnl2, fun m hm0 => ?_⟩
  rw [show (1 : Int) + (r2 : Int) = ((1 + r2 : Nat) : Int) by omega, cut_to, ← List.map_take]
  have e3 := Same.new hm0 (.lst ((ns.take (1 + r2)).map V.str))
  have hm3 : (upd H2 m (.lst ((ns.take (1 + r2)).map V.str))) m = some (.lst ((ns.take (1 + r2)).map V.str)) := upd_same
  have ms := w2.ne hm0
  have mR : m ≠ R := fun z => by rw [z, hR2] at hm0; cases hm0
  generalize upd H2 m (.lst ((ns.take (1 + r2)).map V.str)) = H3 at e3 hm3 ⊢
  have b03 := b02.same e3
  have hR3 := e3 _ _ hR2
  have w3 := w2.same e3
  have lt : (ns.take (1 + r2)).length = 1 + r2 := by rw [List.length_take]; omega
  have hx3 : Paired (QO H3) xs qs := L2.Paired.mapP hxs fun _ _ z => z.nl (BM.nl hs.src b03)
  refine ⟨m, rfl, ⟨_, SqL.of hm3⟩, ?_⟩
  refine for_list (K := K) (a := m) (xs := (ns.take (1 + r2)).map V.str) (fun (i : Nat) σ H' => ∃ (lc : Addr) (ys rvs : List V) (ps : List QW) (o6 o7 o8 : Option V), σ = [some (.ref s), some (.ref p), some (.ref nl), some (.ref lc), some (.bl ins), some (.ref R), o6, o7, o8] ∧ BM [s, R] H3 H' ∧ Well H' s (n + 1 + i * (10 * (qs.length + 2) + 30)) ∧ lc ≠ s ∧ lc ≠ R ∧ H' lc = some (.lst ys) ∧ Paired (QO H') ys (qs ++ ps.map (·.1)) ∧
      H' R = some (.lst rvs) ∧ ROs K H' rvs (ps.map QW.row) ∧ ps.length = i ∧ Ch qs ps ∧ ps.map (·.1.name) = ns.take i ∧ ∀ x ∈ ps, x.1.ins = ins)
    ⟨l, xs, [], [], none, none, none, rfl, BM.refl _ _, by rw [Nat.zero_mul]; exact w3, ls, (fun z => by rw [z, hR0] at hl; cases hl), b03.at hl (by simpa using ls), by rw [List.map_nil, List.append_nil]; exact hx3, hR3, .nil, rfl, ⟨(fun _ h => nomatch h), (fun _ _ h => by simp at h)⟩, rfl, fun _ h => nomatch h⟩
    (fun i σ H' _ ⟨_, _, _, _, _, _, _, _, b, _⟩ => SqL.of (b.at hm3 (by simp; exact ⟨ms, mR⟩))) ?_ ?_
  · rintro i x σ H4 hxi ⟨lc, ys, rvs, ps, o6, o7, o8, rfl, b4, w4, lcs, lcR, hlc, hys, hR4, hro, lps, ch, hnames, hins⟩
    rw [List.getElem?_map] at hxi
    obtain ⟨z, hz, rfl⟩ := Option.map_eq_some_iff.mp hxi
    have li := (List.getElem?_eq_some_iff.mp hz).1
    walk_at "go"
    have b04 := BM.drop (M := []) ((b03.mono (N := [s, R]) (by simp)).trans b4) hR0
    have i1 : i ≤ 1 := by omega
    generalize hX : 10 * (qs.length + 2) + 30 = X at w4
    have iX : i * X ≤ X := by have := Nat.mul_le_mul_right X i1; rw [Nat.one_mul] at this; exact this
    have lqp : (qs ++ ps.map (·.1)).length = qs.length + i := by rw [List.length_append, List.length_map, lps]
    refine ⟨s, p, lc, _, d, ys, qs ++ ps.map (·.1), z, ins, rfl, by omega, w4, by omega, PoolO.bm hs b04 hp, hns z (List.mem_of_mem_take (List.mem_of_getElem? hz)), lcs, hlc, hys, ?_, by omega, fun t rv t2 H5 q1 wc ht0 b5 w5 ht5 hqo hro1 en ei okq sm => ?_⟩
    · intro y hy
      rcases List.mem_append.mp hy with hy | hy
      · exact hq y hy
      · obtain ⟨x, hx, rfl⟩ := List.mem_map.mp hy
        exact ch.ok x hx
    have n45 := BM.nl w4.src b5
    have hR5 := b5.at hR4 (by simpa using Rs)
    have hlc5 := b5.at hlc (by simpa using lcs)
    refine w_gtup (SqT.of ht5) rfl (w_gnn ?_)
    refine ⟨_, rfl, .inl ⟨rfl, _, SqL.of hR5⟩, ?_⟩
    walk_at "go"
    have lys := hys.length
    have lrv : rvs.length = i := by
      have : ∀ {xs : List V} {rs : List Rw}, ROs K H4 xs rs → xs.length = rs.length := fun h => by
        induction h using ROs.rec (motive_1 := fun _ _ _ => True) with
        | nil => rfl
        | cons _ _ _ ih => rw [List.length_cons, List.length_cons, ih]
        | _ => trivial
      rw [this hro, List.length_map, lps]
    refine ⟨R, _, _, rfl, rfl, hR5, Nat.lt_of_le_of_lt (show rvs.length ≤ 100 by omega) (by decide), ?_⟩
    have nlu := NLf.upd hR5 (.lst (rvs ++ [rv]))
    have hR6 : (upd H5 R (.lst (rvs ++ [rv]))) R = some (.lst (rvs ++ [rv])) := upd_same
    have hlc6 : (upd H5 R (.lst (rvs ++ [rv]))) lc = some (.lst ys) := by rw [upd_ne lcR]; exact hlc5
    have b56 : BM [R] H5 (upd H5 R (.lst (rvs ++ [rv]))) := BM.upd (List.mem_singleton.mpr rfl) _
    have w6 := w5.upd Rs (.lst (rvs ++ [rv]))
    generalize upd H5 R (.lst (rvs ++ [rv])) = H6 at nlu hR6 hlc6 b56 w6 ⊢
    walk_at "go"
    refine ⟨(by show 1 ≤ sizeLine; decide), fun l1 hl1 => ?_⟩
    have e7 := Same.new hl1 (.lst [V.ref t2])
    have g7 : (upd H6 l1 (.lst [V.ref t2])) l1 = some (.lst [V.ref t2]) := upd_same
    generalize upd H6 l1 (.lst [V.ref t2]) = H7 at e7 g7 ⊢
    refine ⟨lc, l1, _, _, rfl, rfl, e7 _ _ hlc6, g7, ?_, fun l8 hl8 => ?_⟩
    · rw [List.length_singleton]
      exact Nat.le_trans (show ys.length + 1 ≤ 1000 by omega) (by decide)
    have e8 := Same.new hl8 (.lst (ys ++ [V.ref t2]))
    have g8 : (upd H7 l8 (.lst (ys ++ [V.ref t2]))) l8 = some (.lst (ys ++ [V.ref t2])) := upd_same
    have w7 := w6.same e7
    have l8s := w7.ne hl8
    have l8R : l8 ≠ R := fun z => by rw [z, e7 _ _ hR6] at hl8; cases hl8
    generalize upd H7 l8 (.lst (ys ++ [V.ref t2])) = H8 at e8 g8 ⊢
    have n58 : NLf H5 H8 := (nlu.trans (Same.nl e7)).trans (Same.nl e8)
    have b38 : BM [s, R] H3 H8 := (((b4.trans (b5.mono (by simp))).trans (b56.mono (by simp))).same e7).same e8
    walk_at "go"
    refine ⟨l8, _, _, ps ++ [(q1, wc)], _, _, _, rfl, b38, ?_, l8s, l8R, g8, ?_, e8 _ _ (e7 _ _ hR6), ?_, by rw [List.length_append, lps]; rfl, ch.snoc okq sm, ?_, ?_⟩
    · refine ((w6.mono ?_).same e7).same e8
      have eX : (i + 1) * X = i * X + X := by rw [Nat.add_mul, Nat.one_mul]
      rw [eX, lqp]
      omega
    · rw [List.map_append, ← List.append_assoc]
      exact K3.Paired.app (L2.Paired.mapP hys fun _ _ y => (y.nl n45).nl n58) (.cons (hqo.nl n58) .nil)
    · rw [List.map_append]
      exact ROs.snoc (ROs.si n58.si (ROs.si n45.si hro)) (RO.si n58.si hro1)
    · rw [List.map_append, hnames, List.take_add_one]
      have : ns[i]? = some z := by
        rw [List.getElem?_take] at hz
        split at hz
        · exact hz
        · cases hz
      rw [this]
      show _ ++ [q1.name] = _
      rw [en]
      rfl
    · intro y hy
      rcases List.mem_append.mp hy with hy | hy
      · exact hins y hy
      · rw [List.mem_singleton.mp hy]; exact ei
  · rintro σ H4 ⟨lc, ys, rvs, ps, o6, o7, o8, rfl, b4, w4, lcs, lcR, hlc, hys, hR4, hro, lps, ch, hnames, hins⟩
    rw [List.length_map, lt] at w4 lps hnames
    have b04 := BM.drop (M := []) ((b03.mono (N := [s, R]) (by simp)).trans b4) hR0
    have lrv : rvs.length = 1 + r2 := by
      have : ∀ {xs : List V} {rs : List Rw}, ROs K H4 xs rs → xs.length = rs.length := fun h => by
        induction h using ROs.rec (motive_1 := fun _ _ _ => True) with
        | nil => rfl
        | cons _ _ _ ih => rw [List.length_cons, List.length_cons, ih]
        | _ => trivial
      rw [this hro, List.length_map, lps]
    have lqp : (qs ++ ps.map (·.1)).length = qs.length + (1 + r2) := by rw [List.length_append, List.length_map, lps]
    have hqp : ∀ y ∈ qs ++ ps.map (·.1), QdOk y := fun y hy => by
      rcases List.mem_append.mp hy with hy | hy
      · exact hq y hy
      · obtain ⟨x, hx, rfl⟩ := List.mem_map.mp hy
        exact ch.ok x hx
    have fin : ∀ (H5 : Hp) (t rl : Addr) (rvs5 : List V) (rs5 : List Rw), Same H4 H5 ∨ BM [s] H4 H5 → H t = none → Well H5 s (n + 40 * (qs.length + 4)) → H5 t = some (.tup [.ref rl, .ref lc]) → rl ≠ s → H5 rl = some (.lst rvs5) → ROs K H5 rvs5 rs5 → WiOk qs ps rs5 → Q (.ref t) H5 := fun H5 t rl rvs5 rs5 fr ht w5 h5 rls hrl hro5 wi => by
      have b45 : BM [s] H4 H5 := fr.elim (fun e => BM.of e) id
      exact q t rl lc rvs5 ys H5 ps rs5 ht (b04.trans b45) w5 h5 rls lcs hrl hro5 (b45.at hlc (by simpa using lcs)) (L2.Paired.mapP hys fun _ _ z => z.nl (BM.nl w4.src b45)) wi (by rw [lps]; exact hnames) hins
    have plain : WiOk qs ps (ps.map QW.row) := ⟨ch, by omega, .inl rfl⟩
    have r2le : r2 ≤ 1 := by omega
    generalize hX : 10 * (qs.length + 2) + 30 = X at w4
    have iX : (1 + r2) * X ≤ 2 * X := Nat.mul_le_mul_right X (by omega)
    walk_at "go"
    refine ⟨R, _, rfl, .inl (SqL.of hR4), ?_⟩
    walk_at "go"
    refine ⟨rfl, ?_⟩
    rw [decV]
    -- no section
    have flat : ∀ (H5 : Hp) (m : Nat), BM [s] H4 H5 → Well H5 s m → m ≤ n + 40 * (qs.length + 4) → ∀ t, H5 t = none → Q (.ref t) (upd H5 t (.tup [.ref R, .ref lc])) := fun H5 m b5 w5 hm t ht => by
      have e6 := Same.new ht (.tup [V.ref R, .ref lc])
      have n45 := (BM.nl w4.src b5).trans (Same.nl e6)
      exact fin _ t R rvs _ (.inr (b5.same e6)) (b04.free (b5.free ht)) ((w5.mono hm).same e6) upd_same Rs (e6 _ _ (b5.at hR4 (by simpa using Rs))) (ROs.si n45.si hro) plain
    by_cases c2 : (rvs.length : Int) = 2
    · rw [decide_eq_true c2]
      walk_at "go"
      refine ⟨s, 2, _, rfl, w4, by omega, by decide, by decide, fun r5 H5 hr5 b5 w5 => ?_⟩
      walk_at "go"
      refine ⟨rfl, ?_⟩
      rw [decV]
      by_cases c5 : (r5 : Int) = 0
      · rw [decide_eq_true c5]
        have hR5 := b5.at hR4 (by simpa using Rs)
        have hlc5 := b5.at hlc (by simpa using lcs)
        walk_at "go"
        have n45 := BM.nl w4.src b5
        have rv2 : rvs.length = 2 := by omega
        obtain ⟨a, c, rfl⟩ := len_two (show ps.length = 2 by omega)
        obtain ⟨v1, v2, rfl⟩ := len_two rv2
        have hro5 := ROs.si n45.si hro
        refine ⟨R, _, ((0 : Nat) : Int), _, rfl, rfl, SqL.of hR5, atI_nat rfl, ?_⟩
        walk_at "go"
        refine w_makeK ?_
        walk_at "go"
        refine ⟨R, _, rfl, SqL.of hR5, fun p6 hp6 => ?_⟩
        have e6 := Same.new hp6 (.lst (cutV [v1, v2] (some 1) none))
        have g6 : (upd H5 p6 (.lst (cutV [v1, v2] (some 1) none))) p6 = some (.lst (cutV [v1, v2] (some 1) none)) := upd_same
        generalize upd H5 p6 (.lst (cutV [v1, v2] (some 1) none)) = H6 at e6 g6 ⊢
        rw [show cutV [v1, v2] (some 1) none = [v2] from rfl] at g6
        have w6 := w5.same e6
        have p6s := w5.ne hp6
        walk_at "go"
        refine ⟨1, rfl, ?_⟩
        walk_at "go"
        refine ⟨lc, _, rfl, SqL.of (e6 _ _ hlc5), fun l7 hl7 => ?_⟩
        rw [cut_last]
        have e7 := Same.new hl7 (.lst ys.dropLast)
        have g7 : (upd H6 l7 (.lst ys.dropLast)) l7 = some (.lst ys.dropLast) := upd_same
        have l7s := w6.ne hl7
        generalize upd H6 l7 (.lst ys.dropLast) = H7 at e7 g7 ⊢
        have eq2 : (qs ++ [a, c].map (·.1)).dropLast = qs ++ [a.1] := by
          rw [show qs ++ [a, c].map (·.1) = (qs ++ [a.1]) ++ [c.1] by simp, List.dropLast_concat]
        have hy7 : Paired (QO H7) ys.dropLast (qs ++ [a.1]) := by
          rw [← eq2]
          exact paired_drop (L2.Paired.mapP hys fun _ _ z => (z.nl n45).nl (Same.nl (e6.trans e7)))
        walk_at "go"
        have w7 := w6.same e7
        have lqa : (qs ++ [a.1]).length = qs.length + 1 := by rw [List.length_append]; rfl
        refine ⟨s, l7, _, ys.dropLast, qs ++ [a.1], rfl, by omega, w7, by omega, l7s, g7, hy7, fun y hy => hqp y ?_, by omega, fun cv H8 wc b8 w8 wo sm => ?_⟩
        · rcases List.mem_append.mp hy with hy | hy
          · exact List.mem_append_left _ hy
          · rw [List.mem_singleton.mp hy]
            exact List.mem_append_right _ (by simp)
        walk_at "go"
        have n78 := BM.nl w7.src b8
        have g8 := b8.at (e7 _ _ g6) (by simpa using p6s)
        refine ⟨rfl, rfl, fun x dx hx hdx _ => ?_⟩
        refine mkS2 (K := K) g8 hx hdx fun ts H9 e9 hi9 ht9 => ?_
        walk_at "go"
        refine ⟨(by show 2 ≤ sizeLine; decide), fun p10 hp10 => ?_⟩
        have e10 := Same.new hp10 (.lst [v1, V.ref x])
        have g10 : (upd H9 p10 (.lst [v1, V.ref x])) p10 = some (.lst [v1, V.ref x]) := upd_same
        have w9 := w8.same e9
        have p10s := w9.ne hp10
        generalize upd H9 p10 (.lst [v1, V.ref x]) = H10 at e10 g10 ⊢
        walk_at "go"
        refine ⟨(by show 2 ≤ sizeLine; decide), fun t ht => ?_⟩
        have e11 := Same.new ht (.tup [V.ref p10, .ref lc])
        have b4t : BM [s] H4 H10 := (((b5.same (e6.trans e7)).trans b8).same e9).same e10
        cases hro5 with
        | cons h1 hr =>
          cases hr with
          | cons h2 _ =>
            have n5 : NLf H5 H9 := (((Same.nl e6).trans (Same.nl e7)).trans n78).trans (Same.nl e9)
            refine fin _ t p10 [v1, V.ref x] [a.row, .sect [c.row] wc] (.inr (b4t.same e11)) (b04.free (b4t.free ht)) (((w9.same e10).mono (by omega)).same e11) upd_same p10s (e11 _ _ g10) (ROs.same (e10.trans e11) ?_) ⟨ch, .inr rfl, .inr ⟨a, c, wc, rfl, rfl, sm⟩⟩
            exact .cons (RO.si n5.si h1) (.cons (.sect hi9 ht9 (.cons (RO.si n5.si h2) .nil) (wo.same e9)) .nil)
      · rw [decide_eq_false c5]
        walk_at "go"
        exact ⟨(by show 2 ≤ sizeLine; decide), fun t ht => flat H5 _ b5 w5 (by omega) t ht⟩
    · rw [decide_eq_false c2]
      walk_at "go"
      exact ⟨(by show 2 ≤ sizeLine; decide), fun t ht => flat H4 _ (BM.refl _ _) w4 (by omega) t ht⟩
end
end K3
end Y5_part
section Y6_part
set_option Elab.async false
set_option linter.all false
set_option maxRecDepth 100000
set_option maxHeartbeats 1000000
set_option pp.deepTerms true
open PySem PySem.Spec PyProof.Rows L2
/-- go on as far as nothing is open -/
local macro_rules | `(tactic| walk_at "go") => `(tactic| repeat (first
  | with_reducible refine w_seq ?_ | with_reducible refine w_next ?_ | with_reducible refine w_set ?_ | with_reducible refine w_drop ?_ | with_reducible refine w_ret ?_ | with_reducible refine w_retN ?_
  | with_reducible refine w_if ?_ | ((with_reducible refine' w_var ?hv ?_); (case hv => exact rfl)) | with_reducible refine w_c ?_ | with_reducible refine w_nil ?_ | with_reducible refine w_cons ?_ | with_reducible refine w_op ?_ | with_reducible refine w_un ?_
  | with_reducible refine w_test ?_ | with_reducible refine w_tB ?_ | with_reducible refine w_not ?_ | with_reducible refine w_and ?_ | with_reducible refine w_or ?_ | with_reducible refine w_bl ?_
  | with_reducible refine w_andV ?_ | with_reducible refine w_orV ?_ | with_reducible refine w_notV ?_ | with_reducible refine w_ifE ?_ | with_reducible refine w_chain ?_ | with_reducible refine w_i0 ?_
  | with_reducible refine w_call ?_ | with_reducible refine w_callS ?_ | with_reducible refine w_cB ?_ | with_reducible refine w_tup ?_ | with_reducible refine w_lst ?_ | with_reducible refine w_fldV ?_
  | with_reducible refine w_neF ?_ | with_reducible refine w_neT ?_ | with_reducible refine w_notN ?_ | with_reducible refine w_isN ?_ | with_reducible refine w_gname ?_ | with_reducible refine w_gsub ?_ | with_reducible refine w_asg ?_ | with_reducible refine w_sl ?_ | with_reducible refine w_noP ?_ | with_reducible refine w_int1 ?_ | with_reducible refine w_part ?_ | with_reducible refine w_meth ?_ | with_reducible refine w_din ?_ | with_reducible refine w_dnotin ?_ | with_reducible refine w_dgt ?_ | with_reducible refine w_dget1 ?_ | with_reducible refine w_dget2 ?_ | with_reducible refine w_dput ?_ | with_reducible refine w_yes ?_ | with_reducible refine w_nT ?_ | with_reducible refine w_nF ?_ | with_reducible refine w_iteT ?_ | with_reducible refine w_iteF ?_))
namespace K3
/-! ### what is drawn stands in a form -/
theorem rowW_name (q : Qd) (w : Option Cd) : (q.rowW w).name = q.name := by
  unfold Qd.rowW
  cases q.fd with
  | txt fs => dsimp only; split <;> rfl
  | num lo hi => rfl
theorem rowW_isQ (q : Qd) (w : Option Cd) : (q.rowW w).isQ = true := by
  unfold Qd.rowW
  cases q.fd with
  | txt fs => dsimp only; split <;> rfl
  | num lo hi => rfl
theorem rowW_isN (q : Qd) (w : Option Cd) : (q.rowW w).isN = true := isQ_isN (rowW_isQ q w)
theorem rowW_conds (q : Qd) (w : Option Cd) : (q.rowW w).conds = owh w := by
  unfold Qd.rowW
  cases q.fd with
  | txt fs => dsimp only; split <;> exact List.append_nil _
  | num lo hi => exact List.append_nil _
theorem suits_rowW (c : Cd) (q : Qd) (w : Option Cd) : suitsB c (q.rowW w) = suitsB c q.row := by
  unfold Qd.rowW Qd.row
  cases q.fd with
  | txt fs => dsimp only; split <;> cases c <;> rfl
  | num lo hi => cases c <;> rfl
def SeenIn (L : AL) (qs : List Qd) (ar : Option Nat) : Prop := ∀ q ∈ qs, ∃ w a, look L q.name = some (q.rowW w, a) ∧ (a = none ∨ a = ar)
theorem look_more {L M : AL} {z : Str} {x : Rw × Option Nat} (h : look L z = some x) : look (L ++ M) z = some x := by
  unfold look at h ⊢
  rw [List.find?_append]
  cases hf : L.find? (fun e => decide (e.1 = z)) with
  | none => rw [hf] at h; cases h
  | some e => rw [hf] at h; exact h
theorem look_new {L : AL} {z : Str} {x : Rw × Option Nat} (h : look L z = none) : look (L ++ [(z, x)]) z = some x := by
  unfold look at h ⊢
  rw [List.find?_append]
  cases hf : L.find? (fun e => decide (e.1 = z)) with
  | none => simp
  | some e => rw [hf] at h; cases h
theorem look_other {L : AL} {y z : Str} {x : Rw × Option Nat} (h : look L z = none) (n : y ≠ z) : look (L ++ [(y, x)]) z = none := by
  unfold look at h ⊢
  rw [List.find?_append]
  cases hf : L.find? (fun e => decide (e.1 = z)) with
  | none => simp [n]
  | some e => rw [hf] at h; cases h
theorem SeenIn.more {L M : AL} {qs : List Qd} {ar : Option Nat} (h : SeenIn L qs ar) : SeenIn (L ++ M) qs ar := fun q hq => let ⟨w, a, h1, h2⟩ := h q hq; ⟨w, a, look_more h1, h2⟩
theorem SeenIn.add {L : AL} {qs : List Qd} {ar : Option Nat} (h : SeenIn L qs ar) {q : Qd} {w : Option Cd} (n : look L q.name = none) : SeenIn (L ++ [(q.name, q.rowW w, ar)]) (qs ++ [q]) ar := fun y hy => by
  rcases List.mem_append.mp hy with hy | hy
  · exact h.more y hy
  · rw [List.mem_singleton.mp hy]
    exact ⟨w, ar, look_new n, .inr rfl⟩
theorem SeenIn.inn {L : AL} {qs : List Qd} {ar : Option Nat} (h : SeenIn L qs none) : SeenIn L qs ar := fun q hq => let ⟨w, a, h1, h2⟩ := h q hq; ⟨w, a, h1, .inl (h2.elim id id)⟩
theorem ckConds_app {L : AL} {ar : Option Nat} : ∀ {cs ds : List Cd}, ckConds L ar cs = none → ckConds L ar ds = none → ckConds L ar (cs ++ ds) = none
  | [], _, _, h => h
  | c :: cs, ds, h1, h2 => by
    obtain ⟨a, b⟩ := thenF_inv (show thenF (ckCond L ar c) (ckConds L ar cs) = none from h1)
    show thenF (ckCond L ar c) (ckConds L ar (cs ++ ds)) = none
    rw [a, ckConds_app b h2]
    rfl
theorem ck_simple {L : AL} {qs : List Qd} {ar : Option Nat} (h : SeenIn L qs ar) {c : Cd} (k : ∃ q ∈ qs, c.name = q.name ∧ suitsB c q.row = true) : ckConds L ar [c] = none := by
  obtain ⟨q, hq, h1, h2⟩ := k
  obtain ⟨w, a, h3, h4⟩ := h q hq
  have e : ckCond L ar c = none := by
    unfold ckCond
    rw [h1, quest_ok h3 (rowW_isQ q w) (fun z => h4.elim (fun e => z.1 e) fun e => z.2 e)]
    dsimp only
    rw [suits_rowW, h2, if_pos rfl]
  show thenF (ckCond L ar c) none = none
  rw [e]
  rfl
theorem ck_for {L : AL} {qs : List Qd} {ar : Option Nat} (h : SeenIn L qs ar) : ∀ {c : Cd}, CdFor qs c → ckConds L ar c.simp = none
  | .no c, k => ck_for h (c := c) k
  | .both _ _, k => ckConds_app (ck_for h k.1) (ck_for h k.2)
  | .either _ _, k => ckConds_app (ck_for h k.1) (ck_for h k.2)
  | .is _ _, k => ck_simple h k
  | .has _ _, k => ck_simple h k
  | .over _ _, k => ck_simple h k
  | .under _ _, k => ck_simple h k
theorem ck_ws {L : AL} {qs : List Qd} {ar : Option Nat} (h : SeenIn L qs ar) {w : Option Cd} (k : WS qs w) : ckConds L ar (owh w) = none := by
  cases w with
  | none => rfl
  | some c => exact ck_for h (k c rfl).sp
theorem dupOf_nd2 : ∀ {os seen : List Str}, os.Nodup → (∀ o ∈ os, o ∉ seen) → dupOf seen os = none
  | [], _, _, _ => rfl
  | o :: os, seen, h, k => by
    rw [List.nodup_cons] at h
    unfold dupOf
    rw [if_neg (k o (List.mem_cons_self ..))]
    refine dupOf_nd2 h.2 fun x hx z => ?_
    rcases List.mem_append.mp z with z | z
    · exact k x (List.mem_cons_of_mem _ hx) z
    · rw [List.mem_singleton.mp z] at hx
      exact h.1 hx
theorem opt_ok2 {os : List Str} {m : Nat} (h1 : 1 ≤ os.length) (hm : os.length ≤ m) (nd : os.Nodup) (nm : ∀ o ∈ os, isName o = true) : optF os m = none := by
  have e1 : ∀ {os : List Str}, (∀ o ∈ os, isName o = true) → namesF os = none := by
    intro os
    induction os with
    | nil => exact fun _ => rfl
    | cons o os ih =>
      intro h
      have : nameF o = none := by unfold nameF; rw [h o (List.mem_cons_self ..)]; rfl
      show thenF (nameF o) (namesF os) = none
      rw [this, ih fun x hx => h x (List.mem_cons_of_mem _ hx)]
      rfl
  have e2 : dupF os = none := by
    unfold dupF
    rw [dupOf_nd2 nd fun _ _ z => List.not_mem_nil z]
    rfl
  unfold optF
  rw [if_pos ⟨h1, hm⟩, e1 nm, e2]
  rfl
theorem name_new {L : AL} {r : Rw} (hn : isName r.name = true) (hl : look L r.name = none) : ckName L r = none := by
  unfold ckName
  have e1 : nameF r.name = none := by unfold nameF; rw [hn]; rfl
  split
  · rw [e1, hl]
    rfl
  · rfl
theorem ck_quest {L : AL} {qs : List Qd} {ar : Option Nat} {q : Qd} {w : Option Cd} (ok : QdOk q) (hl : look L q.name = none) (hs : SeenIn L qs ar) (hw : WS qs w) : ckRow L (q.rowW w) ar = none := by
  unfold ckRow
  have h1 : ckName L (q.rowW w) = none := name_new (by rw [rowW_name]; exact ok.nm) (by rw [rowW_name]; exact hl)
  have h6 : ckConds L ar (q.rowW w).conds = none := by rw [rowW_conds]; exact ck_ws hs hw
  have fq := ok.fd
  have h2 : ckOpt (q.rowW w) = none := by
    unfold Qd.rowW
    cases e : q.fd with
    | txt fs =>
      rw [e] at fq
      dsimp only
      split
      · exact opt_ok2 fq.2.1 (Nat.le_trans fq.2.2.1 (by decide)) fq.2.2.2.1 fq.2.2.2.2
      · exact opt_ok2 fq.2.1 fq.2.2.1 fq.2.2.2.1 fq.2.2.2.2
    | num lo hi => rfl
  have h3 : ckBound (q.rowW w) = none := by
    unfold Qd.rowW
    cases e : q.fd with
    | txt fs => dsimp only; split <;> rfl
    | num lo hi =>
      rw [e] at fq
      show (if hi < lo then _ else none) = none
      rw [if_neg (by have := fq.2.2.1; omega)]
  have h4 : ckInner (q.rowW w) ar = none := by
    unfold Qd.rowW
    cases q.fd with
    | txt fs => dsimp only; split <;> rfl
    | num lo hi => rfl
  have h5 : ckCount L (q.rowW w) ar = none := by
    unfold Qd.rowW
    cases q.fd with
    | txt fs => dsimp only; split <;> rfl
    | num lo hi => rfl
  rw [h1, h2, h3, h4, h5, h6]
  rfl
theorem alOf_app (F G : List (Rw × Option Nat)) : alOf (F ++ G) = alOf F ++ alOf G := List.filterMap_append
theorem ckRows_app : ∀ {F G : List (Rw × Option Nat)} {L : AL}, ckRows L F = none → ckRows (L ++ alOf F) G = none → ckRows L (F ++ G) = none
  | [], G, L, _, h => by
    have e : L ++ alOf [] = L := List.append_nil L
    rw [e] at h
    exact h
  | (r, ar) :: F, G, L, h1, h2 => by
    obtain ⟨a, b⟩ := thenF_inv (show thenF (ckRow L r ar) (ckRows (if r.isN then L ++ [(r.name, r, ar)] else L) F) = none from h1)
    show thenF (ckRow L r ar) (ckRows (if r.isN then L ++ [(r.name, r, ar)] else L) (F ++ G)) = none
    rw [a]
    refine ckRows_app b ?_
    cases hr : r.isN with
    | true =>
      have e : alOf ((r, ar) :: F) = (r.name, r, ar) :: alOf F := by unfold alOf; rw [List.filterMap_cons]; simp only [hr, if_true]
      rw [e] at h2
      rw [if_pos rfl, List.append_assoc]
      exact h2
    | false =>
      have e : alOf ((r, ar) :: F) = alOf F := by unfold alOf; rw [List.filterMap_cons]; simp only [hr]; rfl
      rw [e] at h2
      rw [if_neg Bool.false_ne_true]
      exact h2
theorem ckRows_one {L : AL} {r : Rw} {ar : Option Nat} (h : ckRow L r ar = none) : ckRows L [(r, ar)] = none := by
  show thenF (ckRow L r ar) none = none
  rw [h]
  rfl
theorem al_q (q : Qd) (w : Option Cd) (ar : Option Nat) : alOf [(q.rowW w, ar)] = [(q.name, q.rowW w, ar)] := by
  unfold alOf
  rw [List.filterMap_cons]
  simp only [rowW_isN, if_true, rowW_name]
  rfl
theorem flat_q (q : Qd) (w : Option Cd) (ar : Option Nat) (n : Nat) : (q.rowW w).flat ar n = [(q.rowW w, ar)] := by
  unfold Qd.rowW
  cases q.fd with
  | txt fs => dsimp only; split <;> (unfold Rw.flat; rfl)
  | num lo hi => unfold Rw.flat; rfl
/-- what rows add to what stands ahead -/
structure Adds (L : AL) (F : List (Rw × Option Nat)) (qs new : List Qd) (zs : List Str) (ar : Option Nat) : Prop where
  ck : ckRows L F = none
  seen : SeenIn (L ++ alOf F) (qs ++ new) ar
  free : ∀ z, look L z = none → z ∉ zs → look (L ++ alOf F) z = none
theorem Adds.app {L : AL} {F G : List (Rw × Option Nat)} {qs n1 n2 : List Qd} {z1 z2 : List Str} {ar : Option Nat} (a : Adds L F qs n1 z1 ar) (b : Adds (L ++ alOf F) G (qs ++ n1) n2 z2 ar) : Adds L (F ++ G) qs (n1 ++ n2) (z1 ++ z2) ar :=
  ⟨ckRows_app a.ck b.ck, by rw [alOf_app, ← List.append_assoc, ← List.append_assoc]; exact b.seen, fun z h n => by
    rw [alOf_app, ← List.append_assoc]
    exact b.free z (a.free z h fun k => n (List.mem_append_left _ k)) fun k => n (List.mem_append_right _ k)⟩
theorem adds_q {L : AL} {qs : List Qd} {ar : Option Nat} {q : Qd} {w : Option Cd} (ok : QdOk q) (hl : look L q.name = none) (hs : SeenIn L qs ar) (hw : WS qs w) : Adds L [(q.rowW w, ar)] qs [q] [q.name] ar :=
  ⟨ckRows_one (ck_quest ok hl hs hw), by rw [al_q]; exact hs.add hl, fun z h n => by rw [al_q]; exact look_other h fun e => n (by rw [e]; exact List.mem_singleton.mpr rfl)⟩
/-- a row with no name of its own -/
theorem adds_nn {L : AL} {qs : List Qd} {ar : Option Nat} {r : Rw} (hs : SeenIn L qs ar) (hn : r.isN = false) (h : ckRow L r ar = none) : Adds L [(r, ar)] qs [] [] ar := by
  have e : alOf [(r, ar)] = [] := by unfold alOf; rw [List.filterMap_cons]; simp only [hn]; rfl
  exact ⟨ckRows_one h, by rw [e, List.append_nil, List.append_nil]; exact hs, fun z h _ => by rw [e, List.append_nil]; exact h⟩
theorem ck_sect {L : AL} {qs : List Qd} {ar : Option Nat} {rs : List Rw} {w : Option Cd} (hs : SeenIn L qs ar) (h : rs ≠ []) (hw : WS qs w) : ckRow L (.sect rs w) ar = none := by
  unfold ckRow
  have h6 : ckConds L ar (Rw.sect rs w).conds = none := by
    show ckConds L ar (owh w ++ []) = none
    rw [List.append_nil]
    exact ck_ws hs hw
  have h4 : ckInner (.sect rs w) ar = none := by
    show (if rs.length = 0 then _ else none) = none
    rw [if_neg fun z => h (List.length_eq_zero_iff.mp z)]
  rw [h6, h4]
  rfl
theorem flat_one (r : Rw) (ar : Option Nat) (n : Nat) : Rws.flat [r] ar n = r.flat ar n := by
  rw [Rws.flat, Rws.flat, List.append_nil]
theorem flat_two (r u : Rw) (ar : Option Nat) (n : Nat) : Rws.flat [r, u] ar n = r.flat ar n ++ u.flat ar (n + r.cnt) := by
  rw [Rws.flat, flat_one]
theorem within_adds {L : AL} {qs : List Qd} {ps : List QW} {rs : List Rw} {ar : Option Nat} (n : Nat) (h : WiOk qs ps rs) (hs : SeenIn L qs ar) (fr : ∀ x ∈ ps, look L x.1.name = none) (nd : (ps.map (·.1.name)).Nodup) : Adds L (Rws.flat rs ar n) qs (ps.map (·.1)) (ps.map (·.1.name)) ar := by
  obtain ⟨ch, len, sh⟩ := h
  have one : ∀ a, ps[0]? = some a → Adds L [(a.row, ar)] qs [a.1] [a.1.name] ar := fun a ha => by
    have hm := List.mem_of_getElem? ha
    have := ch.ws 0 a ha
    rw [List.take_zero, List.map_nil, List.append_nil] at this
    exact adds_q (ch.ok a hm) (fr a hm) hs this
  have two : ∀ a b, ps = [a, b] → ∀ M, SeenIn (L ++ alOf [(a.row, ar)] ++ M) (qs ++ [a.1]) ar → (∀ z, look (L ++ alOf [(a.row, ar)]) z = none → look (L ++ alOf [(a.row, ar)] ++ M) z = none) → Adds (L ++ alOf [(a.row, ar)] ++ M) [(b.row, ar)] (qs ++ [a.1]) [b.1] [b.1.name] ar := fun a b e M hs2 k => by
    subst e
    have w := ch.ws 1 b rfl
    have nab : a.1.name ≠ b.1.name := by
      have : [a.1.name, b.1.name].Nodup := nd
      rw [List.nodup_cons] at this
      exact fun z => this.1 (by rw [z]; exact List.mem_singleton.mpr rfl)
    refine adds_q (ch.ok b (by simp)) (k _ ?_) hs2 w
    exact (one a rfl).free _ (fr b (by simp)) (fun z => nab (List.mem_singleton.mp z).symm)
  rcases sh with rfl | ⟨a, b, w3, rfl, rfl, hw3⟩
  · rcases len with l1 | l2
    · obtain ⟨a, rfl⟩ : ∃ a, ps = [a] := by
        match ps, l1 with
        | [a], _ => exact ⟨a, rfl⟩
      show Adds L (Rws.flat [a.row] ar n) qs [a.1] [a.1.name] ar
      rw [flat_one, show a.row.flat ar n = [(a.row, ar)] from flat_q a.1 a.2 ar n]
      exact one a rfl
    · obtain ⟨a, b, rfl⟩ := len_two l2
      show Adds L (Rws.flat [a.row, b.row] ar n) qs [a.1, b.1] [a.1.name, b.1.name] ar
      rw [flat_two, show a.row.flat ar n = [(a.row, ar)] from flat_q a.1 a.2 ar n, show b.row.flat ar (n + a.row.cnt) = [(b.row, ar)] from flat_q b.1 b.2 ar _]
      have h1 := one a rfl
      have h2 := two a b rfl [] (by rw [List.append_nil]; exact h1.seen) (fun z h => by rw [List.append_nil]; exact h)
      rw [List.append_nil] at h2
      exact h1.app h2
  · show Adds L (Rws.flat [a.row, .sect [b.row] w3] ar n) qs [a.1, b.1] [a.1.name, b.1.name] ar
    have e : (Rw.sect [b.row] w3).flat ar (n + a.row.cnt) = [(.sect [b.row] w3, ar)] ++ [(b.row, ar)] := by
      rw [Rw.flat, flat_one, show b.row.flat ar (n + a.row.cnt + 1) = [(b.row, ar)] from flat_q b.1 b.2 ar _]
      rfl
    rw [flat_two, show a.row.flat ar n = [(a.row, ar)] from flat_q a.1 a.2 ar n, e]
    have h1 := one a rfl
    have hS := adds_nn (r := .sect [b.row] w3) h1.seen rfl (ck_sect h1.seen (fun z => nomatch z) hw3)
    have h2 := two a b rfl (alOf [(.sect [b.row] w3, ar)]) (by have := hS.seen; rw [List.append_nil] at this; exact this) (fun z h => hS.free z h (fun k => nomatch k))
    have h3 := hS.app (by rw [List.append_nil]; exact h2)
    exact h1.app h3
theorem ck_rounds {L : AL} {z : Str} {hi : Int} {w : Option Cd} {rs : List Rw} (h : rs ≠ []) (hl : look L z = some (.number z 0 hi w, none)) (h4 : hi ≤ 4) : ckRow L (.rounds z rs none) none = none := by
  unfold ckRow
  have e4 : ckInner (.rounds z rs none) none = none := by
    show (if rs.length = 0 then _ else if (none : Option Nat) = none then none else _) = none
    rw [if_neg fun k => h (List.length_eq_zero_iff.mp k), if_pos rfl]
  have e5 : ckCount L (.rounds z rs none) none = none := by
    show (match quest L z none with | .inl f => some f | .inr q => fitN q) = none
    rw [quest_ok hl rfl (fun k => k.1 rfl)]
    show (if (0 : Int) < 0 then some (Flt.fit z) else if 4 < hi then some (Flt.fit z) else none) = none
    rw [if_neg (by decide), if_neg (by omega)]
  rw [e4, e5]
  rfl
theorem adds_rounds {L : AL} {qs : List Qd} {z : Str} {hi : Int} {w : Option Cd} {ps : List QW} {rs : List Rw} (n : Nat) (hs : SeenIn L qs none) (hl : look L z = some (.number z 0 hi w, none)) (h4 : hi ≤ 4) (h : WiOk qs ps rs) (fr : ∀ x ∈ ps, look L x.1.name = none) (nd : (ps.map (·.1.name)).Nodup) :
    Adds L ((Rw.rounds z rs none).flat none n) qs [] (ps.map (·.1.name)) none := by
  have ne : rs ≠ [] := by
    rcases h.2.2 with e | ⟨a, b, w3, _, e, _⟩
    · intro k
      rw [e] at k
      have := congrArg List.length k
      rw [List.length_map] at this
      rcases h.2.1 with l | l <;> rw [l] at this <;> cases this
    · rw [e]; exact fun k => nomatch k
  have e : (Rw.rounds z rs none).flat none n = [(.rounds z rs none, none)] ++ Rws.flat rs (some n) (n + 1) := by rw [Rw.flat]; rfl
  have e0 : alOf [(Rw.rounds z rs none, (none : Option Nat))] = [] := rfl
  have inner := within_adds (ar := some n) (n + 1) h hs.inn fr nd
  rw [e]
  refine ⟨ckRows_app (ckRows_one (ck_rounds ne hl h4)) (by rw [e0, List.append_nil]; exact inner.ck), by rw [List.append_nil]; exact hs.more, fun y hy ny => ?_⟩
  rw [alOf_app, e0, List.nil_append]
  exact inner.free y hy ny
theorem adds_check {L : AL} {qs : List Qd} {z : Str} {m : Cd} (hz : isName z = true) (hl : look L z = none) (hs : SeenIn L qs none) (hm : CdFor qs m) : Adds L [(.check z m none, none)] qs [] [z] none := by
  have e : alOf [(Rw.check z m none, (none : Option Nat))] = [(z, .check z m none, none)] := rfl
  refine ⟨ckRows_one ?_, by rw [List.append_nil]; exact hs.more, fun y hy ny => by rw [e]; exact look_other hy fun k => ny (by rw [k]; exact List.mem_singleton.mpr rfl)⟩
  unfold ckRow
  have h1 : ckName L (.check z m none) = none := name_new hz hl
  have h6 : ckConds L none (Rw.check z m none).conds = none := ck_for hs hm
  rw [h1, h6]
  rfl
end K3
end Y6_part
section Y7_part
set_option Elab.async false
set_option linter.all false
set_option maxRecDepth 100000
set_option maxHeartbeats 1000000
set_option pp.deepTerms true
open PySem PySem.Spec PyProof.Rows L2
/-- go on as far as nothing is open -/
local macro_rules | `(tactic| walk_at "go") => `(tactic| repeat (first
  | with_reducible refine w_seq ?_ | with_reducible refine w_next ?_ | with_reducible refine w_set ?_ | with_reducible refine w_drop ?_ | with_reducible refine w_ret ?_ | with_reducible refine w_retN ?_
  | with_reducible refine w_if ?_ | ((with_reducible refine' w_var ?hv ?_); (case hv => exact rfl)) | with_reducible refine w_c ?_ | with_reducible refine w_nil ?_ | with_reducible refine w_cons ?_ | with_reducible refine w_op ?_ | with_reducible refine w_un ?_
  | with_reducible refine w_test ?_ | with_reducible refine w_tB ?_ | with_reducible refine w_not ?_ | with_reducible refine w_and ?_ | with_reducible refine w_or ?_ | with_reducible refine w_bl ?_
  | with_reducible refine w_andV ?_ | with_reducible refine w_orV ?_ | with_reducible refine w_notV ?_ | with_reducible refine w_ifE ?_ | with_reducible refine w_chain ?_ | with_reducible refine w_i0 ?_
  | with_reducible refine w_call ?_ | with_reducible refine w_callS ?_ | with_reducible refine w_cB ?_ | with_reducible refine w_tup ?_ | with_reducible refine w_lst ?_ | with_reducible refine w_fldV ?_
  | with_reducible refine w_neF ?_ | with_reducible refine w_neT ?_ | with_reducible refine w_notN ?_ | with_reducible refine w_isN ?_ | with_reducible refine w_gname ?_ | with_reducible refine w_gsub ?_ | with_reducible refine w_asg ?_ | with_reducible refine w_sl ?_ | with_reducible refine w_noP ?_ | with_reducible refine w_int1 ?_ | with_reducible refine w_part ?_ | with_reducible refine w_meth ?_ | with_reducible refine w_din ?_ | with_reducible refine w_dnotin ?_ | with_reducible refine w_dgt ?_ | with_reducible refine w_dget1 ?_ | with_reducible refine w_dget2 ?_ | with_reducible refine w_dput ?_ | with_reducible refine w_yes ?_ | with_reducible refine w_nT ?_ | with_reducible refine w_nF ?_ | with_reducible refine w_iteT ?_ | with_reducible refine w_iteF ?_))
namespace K3
/-! ### what the form maker keeps -/
theorem Rws.flat_apps : ∀ (rs us : List Rw) (ar : Option Nat) (n : Nat), Rws.flat (rs ++ us) ar n = Rws.flat rs ar n ++ Rws.flat us ar (n + Rws.cnt rs)
  | [], us, ar, n => by
    rw [List.nil_append, Rws.flat.eq_1, Rws.cnt.eq_1, List.nil_append, Nat.add_zero]
  | r :: rs, us, ar, n => by
    rw [List.cons_append, Rws.flat.eq_2, Rws.flat.eq_2, Rws.cnt.eq_2, Rws.flat_apps rs us, List.append_assoc, Nat.add_assoc]
theorem Rws.cnt_apps : ∀ (rs us : List Rw), Rws.cnt (rs ++ us) = Rws.cnt rs + Rws.cnt us
  | [], us => by rw [List.nil_append, Rws.cnt.eq_1, Nat.zero_add]
  | r :: rs, us => by rw [List.cons_append, Rws.cnt.eq_2, Rws.cnt.eq_2, Rws.cnt_apps rs us, Nat.add_assoc]
theorem Rws.dep_apps : ∀ (rs us : List Rw), Rws.dep (rs ++ us) = max (Rws.dep rs) (Rws.dep us)
  | [], us => by rw [List.nil_append, Rws.dep.eq_1, Nat.zero_max]
  | r :: rs, us => by rw [List.cons_append, Rws.dep.eq_2, Rws.dep.eq_2, Rws.dep_apps rs us, Nat.max_assoc]
theorem rowW_cnt (q : Qd) (w : Option Cd) : (q.rowW w).cnt = 1 ∧ (q.rowW w).dep = 0 := by
  unfold Qd.rowW
  cases q.fd with
  | txt fs => dsimp only; split <;> exact ⟨rfl, rfl⟩
  | num lo hi => exact ⟨rfl, rfl⟩
theorem Adds.mono {L : AL} {F : List (Rw × Option Nat)} {qs new : List Qd} {z1 z2 : List Str} {ar : Option Nat} (h : Adds L F qs new z1 ar) (k : ∀ z ∈ z1, z ∈ z2) : Adds L F qs new z2 ar := ⟨h.ck, h.seen, fun z a n => h.free z a fun m => n (k z m)⟩
theorem ws_b {qs : List Qd} {w : Option Cd} (h : WS qs w) : odep w ≤ 2 * qs.length ∧ (owh w).length ≤ qs.length := by
  cases w with
  | none => exact ⟨Nat.zero_le _, Nat.zero_le _⟩
  | some c => exact ⟨(h c rfl).dp, (h c rfl).sm⟩
theorem rb_q {qs : List Qd} {q : Qd} {w : Option Cd} (ok : QdOk q) (hw : WS qs w) (l : qs.length ≤ 11) : RwB 24 (q.rowW w) := by
  obtain ⟨h1, h2⟩ := ws_b hw
  have h3 := (name_ok ok.nm).2
  have fq := ok.fd
  unfold Qd.rowW
  cases e : q.fd with
  | txt fs =>
    rw [e] at fq
    obtain ⟨_, _, f4, _, fn⟩ := fq
    dsimp only
    split
    · exact ⟨by show odep w < 24; omega, by show (owh w).length ≤ 1000; omega, Nat.zero_le _, by show q.name.length ≤ 1000; omega, by show fs.length ≤ 1000; omega, fun o ho => by have := (name_ok (fn o ho)).2; omega⟩
    · exact ⟨by show odep w < 24; omega, by show (owh w).length ≤ 1000; omega, Nat.zero_le _, by show q.name.length ≤ 1000; omega, by show fs.length ≤ 1000; omega, fun o ho => by have := (name_ok (fn o ho)).2; omega⟩
  | num lo hi => exact ⟨by show odep w < 24; omega, by show (owh w).length ≤ 1000; omega, Nat.zero_le _, by show q.name.length ≤ 1000; omega, Nat.zero_le _, fun o ho => nomatch ho⟩
theorem rb_sect {qs : List Qd} {rs : List Rw} {w : Option Cd} (hw : WS qs w) (l : qs.length ≤ 11) : RwB 24 (.sect rs w) := by
  obtain ⟨h1, h2⟩ := ws_b hw
  exact ⟨by show odep w < 24; omega, by show (owh w).length ≤ 1000; omega, Nat.zero_le _, by show ("" : Str).length ≤ 1000; decide, Nat.zero_le _, fun o ho => nomatch ho⟩
/-- the rows that stand together, laid out -/
theorem wi_flat {qs : List Qd} {ps : List QW} {rs : List Rw} (h : WiOk qs ps rs) (ar : Option Nat) (n : Nat) : (Rws.flat rs ar n = ps.map fun x => (x.row, ar)) ∨ ∃ a b w3, ps = [a, b] ∧ Rws.flat rs ar n = [(a.row, ar), (.sect [b.row] w3, ar), (b.row, ar)] ∧ WS (qs ++ [a.1]) w3 := by
  obtain ⟨_, len, sh⟩ := h
  rcases sh with rfl | ⟨a, b, w3, rfl, rfl, hw3⟩
  · left
    rcases len with l1 | l2
    · obtain ⟨a, rfl⟩ : ∃ a, ps = [a] := by
        match ps, l1 with
        | [a], _ => exact ⟨a, rfl⟩
      show Rws.flat [a.row] ar n = _
      rw [flat_one]
      exact flat_q a.1 a.2 ar n
    · obtain ⟨a, b, rfl⟩ := len_two l2
      show Rws.flat [a.row, b.row] ar n = _
      rw [flat_two, show a.row.flat ar n = [(a.row, ar)] from flat_q a.1 a.2 ar n, show b.row.flat ar (n + a.row.cnt) = [(b.row, ar)] from flat_q b.1 b.2 ar _]
      rfl
  · right
    refine ⟨a, b, w3, rfl, ?_, hw3⟩
    have e : (Rw.sect [b.row] w3).flat ar (n + a.row.cnt) = [(.sect [b.row] w3, ar)] ++ [(b.row, ar)] := by
      rw [Rw.flat, flat_one, show b.row.flat ar (n + a.row.cnt + 1) = [(b.row, ar)] from flat_q b.1 b.2 ar _]
      rfl
    rw [flat_two, show a.row.flat ar n = [(a.row, ar)] from flat_q a.1 a.2 ar n, e]
    rfl
theorem wi_size {qs : List Qd} {ps : List QW} {rs : List Rw} (h : WiOk qs ps rs) : Rws.cnt rs ≤ 3 ∧ Rws.dep rs ≤ 1 ∧ rs ≠ [] ∧ ps.length ≤ 2 := by
  obtain ⟨_, len, sh⟩ := h
  have one : ∀ x : QW, x.row.cnt = 1 ∧ x.row.dep = 0 := fun x => rowW_cnt x.1 x.2
  refine ⟨?_, ?_, ?_, by omega⟩
  · rcases sh with rfl | ⟨a, b, w3, rfl, rfl, hw3⟩
    · rcases len with l1 | l2
      · obtain ⟨a, rfl⟩ : ∃ a, ps = [a] := by
          match ps, l1 with
          | [a], _ => exact ⟨a, rfl⟩
        show Rws.cnt [a.row] ≤ 3
        simp only [Rws.cnt, (one a).1]
        decide
      · obtain ⟨a, b, rfl⟩ := len_two l2
        show Rws.cnt [a.row, b.row] ≤ 3
        simp only [Rws.cnt, (one a).1, (one b).1]
        decide
    · simp only [Rws.cnt, Rw.cnt, (one a).1, (one b).1]
      decide
  · rcases sh with rfl | ⟨a, b, w3, rfl, rfl, hw3⟩
    · rcases len with l1 | l2
      · obtain ⟨a, rfl⟩ : ∃ a, ps = [a] := by
          match ps, l1 with
          | [a], _ => exact ⟨a, rfl⟩
        show Rws.dep [a.row] ≤ 1
        simp only [Rws.dep, (one a).2]
        decide
      · obtain ⟨a, b, rfl⟩ := len_two l2
        show Rws.dep [a.row, b.row] ≤ 1
        simp only [Rws.dep, (one a).2, (one b).2]
        decide
    · simp only [Rws.dep, Rw.dep, (one a).2, (one b).2]
      decide
  · rcases sh with rfl | ⟨a, b, w3, rfl, rfl, hw3⟩
    · intro z
      have := congrArg List.length z
      rw [List.length_map] at this
      rcases len with l | l <;> rw [l] at this <;> cases this
    · exact fun z => nomatch z
/-- every row of these keeps its bounds -/
theorem wi_rb {qs : List Qd} {ps : List QW} {rs : List Rw} (h : WiOk qs ps rs) (l : qs.length ≤ 9) (ar : Option Nat) (n : Nat) : ∀ e ∈ Rws.flat rs ar n, RwB 24 e.1 := by
  have rowB : ∀ x ∈ ps, RwB 24 x.row := fun x hx => by
    obtain ⟨i, hi⟩ := List.mem_iff_getElem?.mp hx
    have := h.1.ws i x hi
    have li := (List.getElem?_eq_some_iff.mp hi).1
    have l2 : ps.length ≤ 2 := by have := h.2.1; omega
    refine rb_q (h.1.ok x hx) this ?_
    rw [List.length_append, List.length_map, List.length_take]
    omega
  rcases wi_flat h ar n with e | ⟨a, b, w3, rfl, e, hw⟩
  · rw [e]
    intro x hx
    obtain ⟨y, hy, rfl⟩ := List.mem_map.mp hx
    exact rowB y hy
  · rw [e]
    intro x hx
    simp only [List.mem_cons, List.not_mem_nil, or_false] at hx
    rcases hx with rfl | rfl | rfl
    · exact rowB a (by simp)
    · exact rb_sect hw (by rw [List.length_append]; show qs.length + 1 ≤ 11; omega)
    · exact rowB b (by simp)
theorem wi_qa {qs : List Qd} {ps : List QW} {rs : List Rw} (h : WiOk qs ps rs) (ar : Option Nat) (n : Nat) : ∀ e ∈ Rws.flat rs ar n, e.1.isQ = true → ∃ x ∈ ps, e = (x.row, ar) := by
  rcases wi_flat h ar n with e | ⟨a, b, w3, rfl, e, hw⟩
  · rw [e]
    intro x hx _
    obtain ⟨y, hy, rfl⟩ := List.mem_map.mp hx
    exact ⟨y, hy, rfl⟩
  · rw [e]
    intro x hx hq
    simp only [List.mem_cons, List.not_mem_nil, or_false] at hx
    rcases hx with rfl | rfl | rfl
    · exact ⟨a, by simp, rfl⟩
    · cases hq
    · exact ⟨b, by simp, rfl⟩
theorem wi_qb {qs : List Qd} {ps : List QW} {rs : List Rw} (h : WiOk qs ps rs) (ar : Option Nat) (n : Nat) : ∀ x ∈ ps, (x.row, ar) ∈ Rws.flat rs ar n := by
  rcases wi_flat h ar n with e | ⟨a, b, w3, rfl, e, hw⟩
  · rw [e]
    exact fun x hx => List.mem_map_of_mem hx
  · rw [e]
    intro x hx
    simp only [List.mem_cons, List.not_mem_nil, or_false] at hx
    rcases hx with rfl | rfl <;> simp
/-- the names that the turn i takes -/
def slN (ns : List Str) (i : Nat) : List Str := (ns.drop (1 + 3 * i)).take 3
structure FI (ns : List Str) (i : Nat) (rs : List Rw) (sn ev : List Qd) : Prop where
  ls : sn.length ≤ 1 + 2 * i
  le : ev.length ≤ 2 * i
  ad : Adds [] (Rws.flat rs none 0) [] sn (ns.take (1 + 3 * i)) none
  cn : Rws.cnt rs ≤ 1 + 5 * i
  c1 : 1 ≤ Rws.cnt rs
  dp : Rws.dep rs ≤ 2
  rb : ∀ e ∈ Rws.flat rs none 0, RwB 24 e.1
  ok : ∀ q ∈ sn ++ ev, QdOk q
  qa : ∀ e ∈ Rws.flat rs none 0, e.1.isQ = true → ∃ q ∈ sn ++ ev, ∃ w, e.1 = q.rowW w ∧ e.2.isSome = q.ins
  qb : ∀ q ∈ sn ++ ev, ∃ w ar, (q.rowW w, ar) ∈ Rws.flat rs none 0 ∧ ar.isSome = q.ins
  nd : ((sn ++ ev).map Qd.name).Nodup
  nm : ∀ q ∈ sn ++ ev, q.name ∈ ns.take (1 + 3 * i)
/-- what a turn adds -/
structure Part (ns : List Str) (i : Nat) (L : AL) (n : Nat) (sn : List Qd) (us : List Rw) (s2 e2 : List Qd) : Prop where
  ad : Adds L (Rws.flat us none n) sn s2 (slN ns i) none
  cn : Rws.cnt us ≤ 5
  dp : Rws.dep us ≤ 2
  rb : ∀ e ∈ Rws.flat us none n, RwB 24 e.1
  ok : ∀ q ∈ s2 ++ e2, QdOk q
  qa : ∀ e ∈ Rws.flat us none n, e.1.isQ = true → ∃ q ∈ s2 ++ e2, ∃ w, e.1 = q.rowW w ∧ e.2.isSome = q.ins
  qb : ∀ q ∈ s2 ++ e2, ∃ w ar, (q.rowW w, ar) ∈ Rws.flat us none n ∧ ar.isSome = q.ins
  nd : ((s2 ++ e2).map Qd.name).Nodup
  nm : ∀ q ∈ s2 ++ e2, q.name ∈ slN ns i
  l1 : s2.length ≤ 2
  l2 : e2.length ≤ 2
theorem four_perm {α : Type} (a b c d : List α) : ((a ++ b) ++ (c ++ d)).Perm ((a ++ c) ++ (b ++ d)) := by
  have h : (b ++ c).Perm (c ++ b) := List.perm_append_comm
  have := (h.append_right d).append_left a
  simpa [List.append_assoc] using this
theorem sl_off {ns : List Str} (nd : ns.Nodup) {i : Nat} {z : Str} (h : z ∈ slN ns i) : z ∉ ns.take (1 + 3 * i) := fun k => by
  have e : (ns.take (1 + 3 * i) ++ ns.drop (1 + 3 * i)).Nodup := by rw [List.take_append_drop]; exact nd
  exact (List.nodup_append.mp e).2.2 z k z (List.mem_of_mem_take h) rfl
theorem FI.fresh {ns : List Str} {i : Nat} {rs : List Rw} {sn ev : List Qd} (f : FI ns i rs sn ev) (nd : ns.Nodup) {z : Str} (h : z ∈ slN ns i) : look (alOf (Rws.flat rs none 0)) z = none := f.ad.free z rfl (sl_off nd h)
theorem FI.add {ns : List Str} {i : Nat} {rs us : List Rw} {sn ev s2 e2 : List Qd} (f : FI ns i rs sn ev) (nd : ns.Nodup) (p : Part ns i (alOf (Rws.flat rs none 0)) (0 + Rws.cnt rs) sn us s2 e2) : FI ns (i + 1) (rs ++ us) (sn ++ s2) (ev ++ e2) := by
  have tk : ns.take (1 + 3 * (i + 1)) = ns.take (1 + 3 * i) ++ slN ns i := by
    rw [show 1 + 3 * (i + 1) = (1 + 3 * i) + 3 by omega, List.take_add]
    rfl
  have fl : Rws.flat (rs ++ us) none 0 = Rws.flat rs none 0 ++ Rws.flat us none (0 + Rws.cnt rs) := Rws.flat_apps ..
  have pm := four_perm sn s2 ev e2
  have l1 := f.ls; have l2 := f.le; have l3 := p.l1; have l4 := p.l2; have l5 := f.cn; have l6 := p.cn; have l7 := f.c1; have l8 := f.dp; have l9 := p.dp
  refine ⟨by rw [List.length_append]; omega, by rw [List.length_append]; omega, ?_, by rw [Rws.cnt_apps]; omega, by rw [Rws.cnt_apps]; omega, by rw [Rws.dep_apps]; omega, ?_, ?_, ?_, ?_, ?_, ?_⟩
  · rw [fl, tk]
    exact f.ad.app p.ad
  · rw [fl]
    intro e he
    exact (List.mem_append.mp he).elim (f.rb e) (p.rb e)
  · intro q hq
    exact (List.mem_append.mp (pm.mem_iff.mp hq)).elim (f.ok q) (p.ok q)
  · rw [fl]
    intro e he hq
    rcases List.mem_append.mp he with he | he
    · obtain ⟨q, h1, h2⟩ := f.qa e he hq
      exact ⟨q, pm.mem_iff.mpr (List.mem_append_left _ h1), h2⟩
    · obtain ⟨q, h1, h2⟩ := p.qa e he hq
      exact ⟨q, pm.mem_iff.mpr (List.mem_append_right _ h1), h2⟩
  · rw [fl]
    intro q hq
    rcases List.mem_append.mp (pm.mem_iff.mp hq) with hq | hq
    · obtain ⟨w, ar, h1, h2⟩ := f.qb q hq
      exact ⟨w, ar, List.mem_append_left _ h1, h2⟩
    · obtain ⟨w, ar, h1, h2⟩ := p.qb q hq
      exact ⟨w, ar, List.mem_append_right _ h1, h2⟩
  · rw [(pm.map Qd.name).nodup_iff, List.map_append, List.nodup_append]
    refine ⟨f.nd, p.nd, fun a ha b hb e => ?_⟩
    obtain ⟨x, hx, rfl⟩ := List.mem_map.mp ha
    obtain ⟨y, hy, rfl⟩ := List.mem_map.mp hb
    exact sl_off nd (p.nm y hy) (e ▸ f.nm x hx)
  · rw [tk]
    intro q hq
    exact (List.mem_append.mp (pm.mem_iff.mp hq)).elim (fun h => List.mem_append_left _ (f.nm q h)) (fun h => List.mem_append_right _ (p.nm q h))
section
variable {ns : List Str} {i n : Nat} {L : AL} {sn : List Qd}
theorem part_q {q : Qd} {w : Option Cd} (hs : SeenIn L sn none) (fr : look L q.name = none) (ok : QdOk q) (hw : WS sn w) (ln : sn.length ≤ 11) (hm : q.name ∈ slN ns i) (hi : q.ins = false) : Part ns i L n sn [q.rowW w] [q] [] := by
  have fe : Rws.flat [q.rowW w] none n = [(q.rowW w, none)] := by rw [flat_one, flat_q]
  have cd := rowW_cnt q w
  refine ⟨?_, by simp only [Rws.cnt, cd.1]; decide, by simp only [Rws.dep, cd.2]; decide, ?_, ?_, ?_, ?_, by simp, ?_, by simp, by simp⟩
  · rw [fe]
    exact (adds_q ok fr hs hw).mono fun z hz => by rw [List.mem_singleton.mp hz]; exact hm
  · rw [fe]
    intro e he
    rw [List.mem_singleton.mp he]
    exact rb_q ok hw ln
  · intro x hx
    rw [List.mem_singleton.mp hx]
    exact ok
  · rw [fe]
    intro e he _
    rw [List.mem_singleton.mp he]
    exact ⟨q, by simp, w, rfl, hi.symm⟩
  · rw [fe]
    intro x hx
    rw [List.mem_singleton.mp hx]
    exact ⟨w, none, by simp, hi.symm⟩
  · intro x hx
    rw [List.mem_singleton.mp hx]
    exact hm
theorem part_check {z : Str} {m : Cd} (hs : SeenIn L sn none) (fr : look L z = none) (hz : isName z = true) (hw : WS sn (some m)) (ln : sn.length ≤ 11) (hm : z ∈ slN ns i) : Part ns i L n sn [.check z m none] [] [] := by
  have fe : Rws.flat [.check z m none] none n = [(.check z m none, none)] := by rw [flat_one, Rw.flat]
  obtain ⟨h1, h2⟩ := ws_b hw
  have h3 := (name_ok hz).2
  refine ⟨?_, by simp only [Rws.cnt, Rw.cnt]; decide, by simp only [Rws.dep, Rw.dep]; decide, ?_, ?_, ?_, ?_, by simp, ?_, by simp, by simp⟩
  · rw [fe]
    exact (adds_check hz fr hs (hw m rfl).sp).mono fun y hy => by rw [List.mem_singleton.mp hy]; exact hm
  · rw [fe]
    intro e he
    rw [List.mem_singleton.mp he]
    exact ⟨by show max m.dep 0 < 24; have : m.dep ≤ 2 * sn.length := h1; omega, Nat.zero_le _, by show m.simp.length ≤ 1000; have : m.simp.length ≤ sn.length := h2; omega, by show z.length ≤ 1000; omega, Nat.zero_le _, fun o h => nomatch h⟩
  · exact fun x hx => nomatch hx
  · rw [fe]
    intro e he hq
    rw [List.mem_singleton.mp he] at hq
    cases hq
  · exact fun x hx => nomatch hx
  · exact fun x hx => nomatch hx
theorem part_sect {ps : List QW} {rs : List Rw} {w : Option Cd} (hs : SeenIn L sn none) (fr : ∀ z ∈ slN ns i, look L z = none) (hw : WS sn w) (wi : WiOk sn ps rs) (ln : sn.length ≤ 9) (hnm : ∀ x ∈ ps, x.1.name ∈ slN ns i) (nd : (ps.map (·.1.name)).Nodup) (hi : ∀ x ∈ ps, x.1.ins = false) :
    Part ns i L n sn [.sect rs w] (ps.map (·.1)) [] := by
  have sz := wi_size wi
  have fe : Rws.flat [.sect rs w] none n = [(.sect rs w, none)] ++ Rws.flat rs none (n + 1) := by rw [flat_one, Rw.flat]; rfl
  have hS := adds_nn (r := .sect rs w) hs rfl (ck_sect hs sz.2.2.1 hw)
  have e0 : alOf [(Rw.sect rs w, (none : Option Nat))] = [] := rfl
  have hin := within_adds (L := L) (ar := none) (n + 1) wi hs (fun x hx => fr _ (hnm x hx)) nd
  refine ⟨?_, by simp only [Rws.cnt, Rw.cnt]; omega, by simp only [Rws.dep, Rw.dep]; omega, ?_, ?_, ?_, ?_, ?_, ?_, by rw [List.length_map]; exact sz.2.2.2, by simp⟩
  · rw [fe]
    have := hS.app (G := Rws.flat rs none (n + 1)) (n2 := ps.map (·.1)) (z2 := ps.map (·.1.name)) (by rw [e0, List.append_nil, List.append_nil]; exact hin)
    exact this.mono fun z hz => by
      obtain ⟨x, hx, rfl⟩ := List.mem_map.mp (show z ∈ ps.map (·.1.name) from hz)
      exact hnm x hx
  · rw [fe]
    intro e he
    rcases List.mem_cons.mp he with rfl | he
    · exact rb_sect hw (by omega)
    · exact wi_rb wi ln none _ e he
  · intro q hq
    rw [List.append_nil] at hq
    obtain ⟨x, hx, rfl⟩ := List.mem_map.mp hq
    exact wi.1.ok x hx
  · rw [fe]
    intro e he hq
    rcases List.mem_cons.mp he with rfl | he
    · cases hq
    · obtain ⟨x, hx, rfl⟩ := wi_qa wi none _ e he hq
      exact ⟨x.1, by rw [List.append_nil]; exact List.mem_map_of_mem hx, x.2, rfl, (hi x hx).symm⟩
  · rw [fe]
    intro q hq
    rw [List.append_nil] at hq
    obtain ⟨x, hx, rfl⟩ := List.mem_map.mp hq
    exact ⟨x.2, none, List.mem_append_right _ (wi_qb wi none _ x hx), (hi x hx).symm⟩
  · rw [List.append_nil, List.map_map]
    exact nd
  · intro q hq
    rw [List.append_nil] at hq
    obtain ⟨x, hx, rfl⟩ := List.mem_map.mp hq
    exact hnm x hx
theorem part_rnd {z : Str} {hi : Int} {ps : List QW} {rs : List Rw} (hs : SeenIn L sn none) (fr : ∀ z ∈ slN ns i, look L z = none) (hz : isName z = true) (hzm : z ∈ slN ns i) (h0 : 0 ≤ hi) (h4 : hi ≤ 4) (wi : WiOk (sn ++ [⟨z, "number", .num 0 hi, false⟩]) ps rs) (ln : sn.length ≤ 8) (hnm : ∀ x ∈ ps, x.1.name ∈ slN ns i) (nd : (z :: ps.map (·.1.name)).Nodup) (hin : ∀ x ∈ ps, x.1.ins = true) :
    Part ns i L n sn [.number z 0 hi none, .rounds z rs none] [⟨z, "number", .num 0 hi, false⟩] (ps.map (·.1)) := by
  have sz := wi_size wi
  have nd2 := List.nodup_cons.mp nd
  generalize hq0 : (⟨z, "number", .num 0 hi, false⟩ : Qd) = q0 at wi ⊢
  have en : q0.name = z := by rw [← hq0]
  have er : q0.rowW none = .number z 0 hi none := by rw [← hq0]; rfl
  have ei : q0.ins = false := by rw [← hq0]
  have ok : QdOk q0 := by
    rw [← hq0]
    exact ⟨hz, .inr (.inr rfl), rfl, by show (-100 : Int) ≤ 0; decide, h0, by show hi ≤ 100; omega⟩
  have hN : Adds L [(q0.rowW none, none)] sn [q0] [q0.name] none := adds_q ok (by rw [en]; exact fr z hzm) hs (fun c h => nomatch h)
  have lk : look (L ++ alOf [(q0.rowW none, none)]) z = some (.number z 0 hi none, none) := by
    rw [al_q, en, er]
    exact look_new (fr z hzm)
  have fr2 : ∀ x ∈ ps, look (L ++ alOf [(q0.rowW none, none)]) x.1.name = none := fun x hx => by
    refine hN.free _ (fr _ (hnm x hx)) fun k => ?_
    rw [en] at k
    exact nd2.1 (by rw [← List.mem_singleton.mp k]; exact List.mem_map_of_mem hx)
  have hR := adds_rounds (n + 1) hN.seen lk h4 wi fr2 nd2.2
  have fe : Rws.flat [.number z 0 hi none, .rounds z rs none] none n = [(q0.rowW none, none)] ++ (Rw.rounds z rs none).flat none (n + 1) := by
    rw [← er, flat_two, flat_q, (rowW_cnt q0 none).1]
  have fe2 : (Rw.rounds z rs none).flat none (n + 1) = (.rounds z rs none, none) :: Rws.flat rs (some (n + 1)) (n + 1 + 1) := by rw [Rw.flat]
  refine ⟨?_, by simp only [Rws.cnt, Rw.cnt]; omega, by simp only [Rws.dep, Rw.dep]; omega, ?_, ?_, ?_, ?_, ?_, ?_, by simp, by rw [List.length_map]; exact sz.2.2.2⟩
  · rw [fe]
    have := hN.app hR
    rw [List.append_nil] at this
    exact this.mono fun y hy => by
      rcases List.mem_append.mp hy with hy | hy
      · rw [List.mem_singleton.mp hy, en]; exact hzm
      · obtain ⟨x, hx, rfl⟩ := List.mem_map.mp hy
        exact hnm x hx
  · rw [fe, fe2]
    intro e he
    rcases List.mem_cons.mp he with rfl | he
    · exact rb_q ok (qs := []) (fun c h => nomatch h) (by decide)
    rcases List.mem_cons.mp he with rfl | he
    · have := (name_ok hz).2
      exact ⟨by show (0 : Nat) < 24; decide, Nat.zero_le _, Nat.zero_le _, by show z.length ≤ 1000; omega, Nat.zero_le _, fun o h => nomatch h⟩
    · exact wi_rb wi (by rw [List.length_append]; show sn.length + 1 ≤ 9; omega) _ _ e he
  · intro q hq
    rcases List.mem_append.mp hq with hq | hq
    · rw [List.mem_singleton.mp hq]; exact ok
    · obtain ⟨x, hx, rfl⟩ := List.mem_map.mp hq
      exact wi.1.ok x hx
  · rw [fe, fe2]
    intro e he hq
    rcases List.mem_cons.mp he with rfl | he
    · exact ⟨q0, by simp, none, rfl, ei.symm⟩
    rcases List.mem_cons.mp he with rfl | he
    · cases hq
    · obtain ⟨x, hx, rfl⟩ := wi_qa wi _ _ e he hq
      exact ⟨x.1, List.mem_append_right _ (List.mem_map_of_mem hx), x.2, rfl, (hin x hx).symm⟩
  · rw [fe, fe2]
    intro q hq
    rcases List.mem_append.mp hq with hq | hq
    · rw [List.mem_singleton.mp hq]
      exact ⟨none, none, by simp, ei.symm⟩
    · obtain ⟨x, hx, rfl⟩ := List.mem_map.mp hq
      exact ⟨x.2, some (n + 1), List.mem_append_right _ (List.mem_cons_of_mem _ (wi_qb wi _ _ x hx)), (hin x hx).symm⟩
  · show (q0.name :: (ps.map (·.1)).map Qd.name).Nodup
    rw [en, List.map_map]
    exact nd
  · intro q hq
    rcases List.mem_append.mp hq with hq | hq
    · rw [List.mem_singleton.mp hq, en]; exact hzm
    · obtain ⟨x, hx, rfl⟩ := List.mem_map.mp hq
      exact hnm x hx
end
/-- the first row -/
theorem fi_first {ns : List Str} {z : Str} {fs : List Str} (h : ns[0]? = some z) (ok : QdOk ⟨z, "one", .txt fs, false⟩) : FI ns 0 [.one z fs none] [⟨z, "one", .txt fs, false⟩] [] := by
  have tk : ns.take (1 + 3 * 0) = [z] := by
    rw [show 1 + 3 * 0 = 0 + 1 from rfl, List.take_add_one, h]
    rfl
  have er : (⟨z, "one", .txt fs, false⟩ : Qd).rowW none = .one z fs none := by
    show (if ("one" : Str) = "one" then Rw.one z fs none else Rw.some z fs none) = _
    rw [if_pos rfl]
  have fe : Rws.flat [.one z fs none] none 0 = [(Qd.rowW ⟨z, "one", .txt fs, false⟩ none, none)] := by rw [flat_one, Rw.flat, er]
  have ad := adds_q (L := []) (qs := []) (ar := none) (q := ⟨z, "one", .txt fs, false⟩) (w := none) ok rfl (fun q h => nomatch h) (fun c h => nomatch h)
  refine ⟨Nat.le_refl _, Nat.le_refl _, ?_, by simp only [Rws.cnt, Rw.cnt]; decide, by simp only [Rws.cnt, Rw.cnt]; decide, by simp only [Rws.dep, Rw.dep]; decide, ?_, ?_, ?_, ?_, by simp, ?_⟩
  · rw [fe, tk]
    exact ad
  · rw [fe]
    intro e he
    rw [List.mem_singleton.mp he]
    exact rb_q ok (qs := []) (fun c h => nomatch h) (by decide)
  · intro q hq
    rw [List.mem_singleton.mp hq]
    exact ok
  · rw [fe]
    intro e he _
    rw [List.mem_singleton.mp he]
    exact ⟨⟨z, "one", .txt fs, false⟩, List.mem_singleton.mpr rfl, none, rfl, rfl⟩
  · rw [fe]
    intro q hq
    rw [List.mem_singleton.mp hq]
    exact ⟨none, none, by simp, rfl⟩
  · rw [tk]
    intro q hq
    rw [List.mem_singleton.mp hq]
    simp
/-! ### bounds of rows, whole -/
mutual
def Rw.cb (N : Nat) : Rw → Prop
  | .one _ _ w => odep w < N
  | .some _ _ w => odep w < N
  | .number _ _ _ w => odep w < N
  | .check _ m w => m.dep < N ∧ odep w < N
  | .sect rs w => Rws.cb N rs ∧ odep w < N
  | .rounds _ rs w => Rws.cb N rs ∧ odep w < N
def Rws.cb (N : Nat) : List Rw → Prop
  | [] => True
  | r :: rs => Rw.cb N r ∧ Rws.cb N rs
end
mutual
theorem Rw.cb_of {N : Nat} : ∀ (r : Rw) (ar : Option Nat) (n : Nat), (∀ e ∈ r.flat ar n, RwB N e.1) → r.cb N
  | .one _ _ _, ar, n, h => by rw [Rw.cb]; rw [Rw.flat] at h; exact (h _ (List.mem_singleton.mpr rfl)).cd
  | .some _ _ _, ar, n, h => by rw [Rw.cb]; rw [Rw.flat] at h; exact (h _ (List.mem_singleton.mpr rfl)).cd
  | .number _ _ _ _, ar, n, h => by rw [Rw.cb]; rw [Rw.flat] at h; exact (h _ (List.mem_singleton.mpr rfl)).cd
  | .check _ m w, ar, n, h => by
    rw [Rw.flat] at h
    have k : max m.dep (odep w) < N := (h _ (List.mem_singleton.mpr rfl)).cd
    rw [Rw.cb]
    omega
  | .sect rs w, ar, n, h => by
    rw [Rw.flat] at h
    rw [Rw.cb]
    exact ⟨Rws.cb_of rs _ _ fun e he => h e (List.mem_cons_of_mem _ he), (h _ (List.mem_cons_self ..)).cd⟩
  | .rounds _ rs w, ar, n, h => by
    rw [Rw.flat] at h
    rw [Rw.cb]
    exact ⟨Rws.cb_of rs _ _ fun e he => h e (List.mem_cons_of_mem _ he), (h _ (List.mem_cons_self ..)).cd⟩
theorem Rws.cb_of {N : Nat} : ∀ (rs : List Rw) (ar : Option Nat) (n : Nat), (∀ e ∈ Rws.flat rs ar n, RwB N e.1) → Rws.cb N rs
  | [], _, _, _ => by rw [Rws.cb]; trivial
  | r :: rs, ar, n, h => by
    rw [Rws.flat] at h
    rw [Rws.cb]
    exact ⟨Rw.cb_of r _ _ fun e he => h e (List.mem_append_left _ he), Rws.cb_of rs _ _ fun e he => h e (List.mem_append_right _ he)⟩
end
structure FB (rs : List Rw) : Prop where
  cb : Rws.cb 24 rs
  dp : Rws.dep rs < 3
/-- a form's questions are these -/
structure FQ (rs : List Rw) (qs : List Qd) : Prop where
  none_ : ∀ z, z ∉ qs.map Qd.name → formQ rs z = none
  some_ : ∀ q ∈ qs, ∃ w, formQ rs q.name = some (q.rowW w) ∧ inRd rs q.name = q.ins
  nd : (qs.map Qd.name).Nodup
theorem nd_inj {qs : List Qd} (h : (qs.map Qd.name).Nodup) {a b : Qd} (ha : a ∈ qs) (hb : b ∈ qs) (e : a.name = b.name) : a = b := by
  induction qs with
  | nil => nomatch ha
  | cons x qs ih =>
    rw [List.map_cons, List.nodup_cons] at h
    rcases List.mem_cons.mp ha with e1 | ha2
    · rcases List.mem_cons.mp hb with e2 | hb2
      · rw [e1, e2]
      · exact absurd (by rw [← e1, e]; exact List.mem_map_of_mem hb2) h.1
    · rcases List.mem_cons.mp hb with e2 | hb2
      · exact absurd (by rw [← e2, ← e]; exact List.mem_map_of_mem ha2) h.1
      · exact ih h.2 ha2 hb2
theorem qsOf_mem {F : List (Rw × Option Nat)} {r : Rw} : r ∈ qsOf F ↔ ∃ ar, (r, ar) ∈ F ∧ r.isQ = true := by
  constructor
  · intro h
    obtain ⟨e, he, h3⟩ := List.mem_filterMap.mp h
    cases hq : e.1.isQ with
    | false => rw [hq] at h3; cases h3
    | true =>
      rw [hq, if_pos rfl] at h3
      have := Option.some.inj h3
      subst this
      exact ⟨e.2, he, hq⟩
  · rintro ⟨ar, h1, h2⟩
    exact List.mem_filterMap.mpr ⟨(r, ar), h1, by rw [if_pos h2]⟩
theorem FI.fq {ns : List Str} {i : Nat} {rs : List Rw} {sn ev : List Qd} (f : FI ns i rs sn ev) : FQ rs (sn ++ ev) := by
  have none1 : ∀ z, z ∉ (sn ++ ev).map Qd.name → formQ rs z = none := fun z hz => by
    cases h : formQ rs z with
    | none => rfl
    | some r =>
      obtain ⟨h1, h2, h3⟩ := formQ_isQ h
      obtain ⟨ar, h4, _⟩ := qsOf_mem.mp h3
      obtain ⟨q, hq, w, e, _⟩ := f.qa _ h4 h1
      refine absurd ?_ hz
      have : z = q.name := by rw [← h2, show r = q.rowW w from e, rowW_name]
      rw [this]
      exact List.mem_map_of_mem hq
  refine ⟨none1, fun q hq => ?_, f.nd⟩
  obtain ⟨w, ar, h1, h2⟩ := f.qb q hq
  have hs : (formQ rs q.name).isSome = true := by
    rw [formQ_names]
    exact decide_eq_true (List.mem_map.mpr ⟨q.rowW w, qsOf_mem.mpr ⟨ar, h1, rowW_isQ q w⟩, rowW_name q w⟩)
  obtain ⟨r, hr⟩ := Option.isSome_iff_exists.mp hs
  obtain ⟨g1, g2, g3⟩ := formQ_isQ hr
  obtain ⟨ar', g4, _⟩ := qsOf_mem.mp g3
  obtain ⟨q', hq', w', e, e2⟩ := f.qa _ g4 g1
  have : q' = q := nd_inj f.nd hq' hq (by rw [← rowW_name q' w', ← show r = q'.rowW w' from e, g2])
  subst this
  refine ⟨w', by rw [hr]; exact congrArg some e, ?_⟩
  unfold inRd repB
  cases hi : q'.ins with
  | true =>
    rw [List.any_eq_true]
    exact ⟨_, h1, by rw [rowW_isQ, h2, hi, rowW_name]; simp⟩
  | false =>
    rw [List.any_eq_false]
    intro x hx k
    have k1 := Bool.and_eq_true_iff.mp k
    have k2 := Bool.and_eq_true_iff.mp k1.2
    obtain ⟨q2, hq2, w2, e3, e4⟩ := f.qa x hx k1.1
    have : q2 = q' := nd_inj f.nd hq2 hq' (by rw [← rowW_name q2 w2, ← e3]; exact of_decide_eq_true k2.2)
    rw [this, hi, k2.1] at e4
    cases e4
theorem FI.fb {ns : List Str} {i : Nat} {rs : List Rw} {sn ev : List Qd} (f : FI ns i rs sn ev) : FB rs := ⟨Rws.cb_of rs none 0 f.rb, Nat.lt_succ_of_le f.dp⟩
theorem FI.form {ns : List Str} {i : Nat} {rs : List Rw} {sn ev : List Qd} (f : FI ns i rs sn ev) (hi : i ≤ 3) : formF rs = none := by
  have := f.cn
  unfold formF
  rw [if_pos ⟨f.c1, by omega⟩]
  exact f.ad.ck
end K3
end Y7_part
section Y8_part
set_option Elab.async false
set_option linter.all false
set_option maxRecDepth 100000
set_option maxHeartbeats 1000000
set_option pp.deepTerms true
open PySem PySem.Spec PyProof.Rows L2
/-- go on as far as nothing is open -/
local macro_rules | `(tactic| walk_at "go") => `(tactic| repeat (first
  | with_reducible refine w_seq ?_ | with_reducible refine w_next ?_ | with_reducible refine w_set ?_ | with_reducible refine w_drop ?_ | with_reducible refine w_ret ?_ | with_reducible refine w_retN ?_
  | with_reducible refine w_if ?_ | ((with_reducible refine' w_var ?hv ?_); (case hv => exact rfl)) | with_reducible refine w_c ?_ | with_reducible refine w_nil ?_ | with_reducible refine w_cons ?_ | with_reducible refine w_op ?_ | with_reducible refine w_un ?_
  | with_reducible refine w_test ?_ | with_reducible refine w_tB ?_ | with_reducible refine w_not ?_ | with_reducible refine w_and ?_ | with_reducible refine w_or ?_ | with_reducible refine w_bl ?_
  | with_reducible refine w_andV ?_ | with_reducible refine w_orV ?_ | with_reducible refine w_notV ?_ | with_reducible refine w_ifE ?_ | with_reducible refine w_chain ?_ | with_reducible refine w_i0 ?_
  | with_reducible refine w_call ?_ | with_reducible refine w_callS ?_ | with_reducible refine w_cB ?_ | with_reducible refine w_tup ?_ | with_reducible refine w_lst ?_ | with_reducible refine w_fldV ?_
  | with_reducible refine w_neF ?_ | with_reducible refine w_neT ?_ | with_reducible refine w_notN ?_ | with_reducible refine w_isN ?_ | with_reducible refine w_gname ?_ | with_reducible refine w_gsub ?_ | with_reducible refine w_asg ?_ | with_reducible refine w_sl ?_ | with_reducible refine w_noP ?_ | with_reducible refine w_int1 ?_ | with_reducible refine w_part ?_ | with_reducible refine w_meth ?_ | with_reducible refine w_din ?_ | with_reducible refine w_dnotin ?_ | with_reducible refine w_dgt ?_ | with_reducible refine w_dget1 ?_ | with_reducible refine w_dget2 ?_ | with_reducible refine w_dput ?_ | with_reducible refine w_yes ?_ | with_reducible refine w_nT ?_ | with_reducible refine w_nF ?_ | with_reducible refine w_iteT ?_ | with_reducible refine w_iteF ?_))
namespace K3
/-! ### the form maker -/
def spFormW (K : PySem.W.Frag) : Sp := fun vs H Q _ => ∃ (s p nl : Addr) (n : Nat) (d : PoolD) (ns : List Str), vs = [.ref s, .ref p, .ref nl] ∧ Well H s n ∧ n + 5000 ≤ most ∧ PoolO H p d ∧ nl ≠ s ∧ H nl = some (.lst (ns.map V.str)) ∧ ns.length = 10 ∧ ns.Nodup ∧ (∀ z ∈ ns, z ∈ d.ns) ∧ (∀ z e, ns[0]? = some z → (z, e) ∈ d.ns.zip d.ks → ∃ fs, e = (("one" : Str), Fd.txt fs)) ∧
  ∀ t fa l H' rs ys qs, H t = none → BM [s] H H' → Well H' s (n + 5000) → H' t = some (.tup [.ref fa, .ref l]) → H fa = none → FormO K H' fa rs → l ≠ s → H' l = some (.lst ys) → Paired (QO H') ys qs → (∀ q ∈ qs, QdOk q) → FQ rs qs → FB rs → qs ≠ [] → qs.length ≤ 13 → (∀ q ∈ qs, q.name ∈ ns) → Q (.ref t) H'
/-- what the form maker holds -/
structure FSt (K : PySem.W.Frag) (H : Hp) (s R S E : Addr) (rs : List Rw) (sn ev : List Qd) (H' : Hp) : Prop where
  bm : BM [s] H H'
  R0 : H R = none
  Rs : R ≠ s
  Ss : S ≠ s
  Es : E ≠ s
  RS : R ≠ S
  RE : R ≠ E
  rows : ∃ rvs, H' R = some (.lst rvs) ∧ ROs K H' rvs rs
  seen : ∃ ys, H' S = some (.lst ys) ∧ Paired (QO H') ys sn
  every : ∃ zs, H' E = some (.lst zs) ∧ Paired (QO H') zs ev
section
variable {K : PySem.W.Frag} {H H1 H2 : Hp} {s R S E : Addr} {rs : List Rw} {sn ev : List Qd}
theorem FSt.to (h : FSt K H s R S E rs sn ev H1) (hs : Src H1 s) (b : BM [s] H1 H2) : FSt K H s R S E rs sn ev H2 := by
  have n := BM.nl hs b
  obtain ⟨rvs, h1, h2⟩ := h.rows
  obtain ⟨ys, h3, h4⟩ := h.seen
  obtain ⟨zs, h5, h6⟩ := h.every
  exact ⟨h.bm.trans b, h.R0, h.Rs, h.Ss, h.Es, h.RS, h.RE, ⟨rvs, b.at h1 (by simpa using h.Rs), ROs.si n.si h2⟩, ⟨ys, b.at h3 (by simpa using h.Ss), L2.Paired.mapP h4 fun _ _ z => z.nl n⟩, ⟨zs, b.at h5 (by simpa using h.Es), L2.Paired.mapP h6 fun _ _ z => z.nl n⟩⟩
theorem FSt.same (h : FSt K H s R S E rs sn ev H1) (e : Same H1 H2) : FSt K H s R S E rs sn ev H2 := by
  have n := Same.nl e
  obtain ⟨rvs, h1, h2⟩ := h.rows
  obtain ⟨ys, h3, h4⟩ := h.seen
  obtain ⟨zs, h5, h6⟩ := h.every
  exact ⟨h.bm.same e, h.R0, h.Rs, h.Ss, h.Es, h.RS, h.RE, ⟨rvs, e _ _ h1, ROs.si n.si h2⟩, ⟨ys, e _ _ h3, L2.Paired.mapP h4 fun _ _ z => z.nl n⟩, ⟨zs, e _ _ h5, L2.Paired.mapP h6 fun _ _ z => z.nl n⟩⟩
theorem FSt.app (h : FSt K H s R S E rs sn ev H1) {rvs : List V} {v : V} {r : Rw} (hR : H1 R = some (.lst rvs)) (hr : RO K H1 v r) : FSt K H s R S E (rs ++ [r]) sn ev (upd H1 R (.lst (rvs ++ [v]))) := by
  have n := NLf.upd hR (.lst (rvs ++ [v]))
  obtain ⟨rvs', h1, h2⟩ := h.rows
  obtain ⟨ys, h3, h4⟩ := h.seen
  obtain ⟨zs, h5, h6⟩ := h.every
  rw [hR] at h1
  cases h1
  exact ⟨h.bm.mut h.R0, h.R0, h.Rs, h.Ss, h.Es, h.RS, h.RE, ⟨_, upd_same, ROs.snoc (ROs.si n.si h2) (RO.si n.si hr)⟩, ⟨ys, by rw [upd_ne h.RS.symm]; exact h3, L2.Paired.mapP h4 fun _ _ z => z.nl n⟩, ⟨zs, by rw [upd_ne h.RE.symm]; exact h5, L2.Paired.mapP h6 fun _ _ z => z.nl n⟩⟩
theorem FSt.setS (h : FSt K H s R S E rs sn ev H1) {S2 : Addr} {ys : List V} {s2 : List Qd} (h1 : H1 S2 = some (.lst ys)) (h2 : Paired (QO H1) ys s2) (h3 : S2 ≠ s) (h4 : R ≠ S2) : FSt K H s R S2 E rs s2 ev H1 :=
  ⟨h.bm, h.R0, h.Rs, h3, h.Es, h4, h.RE, h.rows, ⟨ys, h1, h2⟩, h.every⟩
theorem FSt.setE (h : FSt K H s R S E rs sn ev H1) {E2 : Addr} {ys : List V} {s2 : List Qd} (h1 : H1 E2 = some (.lst ys)) (h2 : Paired (QO H1) ys s2) (h3 : E2 ≠ s) (h4 : R ≠ E2) : FSt K H s R S E2 rs sn s2 H1 :=
  ⟨h.bm, h.R0, h.Rs, h.Ss, h3, h.RS, h4, h.rows, h.seen, ⟨ys, h1, h2⟩⟩
theorem FSt.setR (h : FSt K H s R S E rs sn ev H1) {R2 : Addr} {ys : List V} {r2 : List Rw} (h1 : H1 R2 = some (.lst ys)) (h2 : ROs K H1 ys r2) (h0 : H R2 = none) (h3 : R2 ≠ s) (h4 : R2 ≠ S) (h5 : R2 ≠ E) : FSt K H s R2 S E r2 sn ev H1 :=
  ⟨h.bm, h0, h3, h.Ss, h.Es, h4, h5, ⟨ys, h1, h2⟩, h.seen, h.every⟩
theorem ROs.len : ∀ {xs : List V} {rs : List Rw}, ROs K H xs rs → xs.length = rs.length := fun h => by
  induction h using ROs.rec (motive_1 := fun _ _ _ => True) with
  | nil => rfl
  | cons _ _ _ ih => rw [List.length_cons, List.length_cons, ih]
  | _ => trivial
theorem cnt_len : ∀ {rs : List Rw}, rs.length ≤ Rws.cnt rs
  | [] => Nat.zero_le _
  | r :: rs => by
    have := cnt_len (rs := rs)
    have h1 : 1 ≤ r.cnt := by cases r <;> simp only [Rw.cnt] <;> omega
    rw [Rws.cnt, List.length_cons]
    omega
end
theorem cut_mid (xs : List V) {i j : Nat} (hj : j ≤ xs.length) (hi : i ≤ j) : cutV xs (some (i : Int)) (some (j : Int)) = (xs.drop i).take (j - i) := by
  unfold cutV
  rw [HT.sIx_nat, HT.sIx_nat, Nat.min_eq_left hj, Nat.min_eq_left (Nat.le_trans hi hj)]
theorem mkL2 {K : PySem.W.Frag} {x f1 f2 f3 : Str} {v1 v3 : V} {l a dx : Addr} {xs : List V} {H1 : Hp} {PP : Hp → Prop} {E : XK} (hl : H1 l = some (.lst xs)) (ha : H1 a = none) (hd : H1 dx = none) (q : ∀ t H', Same H1 H' → Ins K H' a x [(f1, v1), (f2, .ref t), (f3, v3)] → SqT K H' t xs → PP H') :
    spIT K x f1 f2 f3 [.ref a, v1, .ref l, v3] (L2.upd (L2.upd H1 dx (.own a)) a (.ins (He.ga K x) dx [])) (fun v H2 => v = .non ∧ PP H2) E := by
  have st : Same H1 (L2.upd (L2.upd H1 dx (.own a)) a (.ins (He.ga K x) dx [])) := fun b o hb => by rw [upd_ne (ne_of_none hb ha), upd_ne (ne_of_none hb hd)]; exact hb
  exact ⟨a, dx, l, v1, v3, xs, rfl, .inl (SqL.of (st _ _ hl)), upd_same, fun t H' h1 h2 h3 => ⟨rfl, q t H' (fun b o hb => h3 b o (ne_of_none hb ha) (st b o hb)) ⟨dx, h1⟩ h2⟩⟩
theorem paired_dropN {α β : Type} {F : α → β → Prop} : ∀ {xs : List α} {ys : List β} (n : Nat), Paired F xs ys → Paired F (xs.drop n) (ys.drop n)
  | _, _, 0, h => h
  | _, _, n + 1, .nil => .nil
  | _, _, n + 1, .cons _ t => paired_dropN n t
theorem orI_of {K : PySem.W.Frag} {ta tb : TE} {σ : L2.St} {H : Hp} {Q : VK} (M : V → Hp → Prop) (k : ∀ v H', M v H' → Q v H') (h : ∀ Q' : VK, (∀ v H', M v H' → Q' v H') → LT.tOrI K ta tb σ H Q') : LT.tOrI K ta tb σ H Q := h Q k
theorem CO.tru {K : PySem.W.Frag} {mg : Str → Option Value} (T : Tx K mg) {H : Hp} {v : V} {c : Cd} (h : CO K H v c) : ∃ p C dx fs, v = .ref p ∧ H p = some (.ins C dx fs) ∧ truB K C = true := by
  cases h with
  | is h => obtain ⟨dx, h⟩ := h; exact ⟨_, _, dx, _, rfl, h, T.tru (by decide)⟩
  | has h => obtain ⟨dx, h⟩ := h; exact ⟨_, _, dx, _, rfl, h, T.tru (by decide)⟩
  | over h => obtain ⟨dx, h⟩ := h; exact ⟨_, _, dx, _, rfl, h, T.tru (by decide)⟩
  | under h => obtain ⟨dx, h⟩ := h; exact ⟨_, _, dx, _, rfl, h, T.tru (by decide)⟩
  | no h _ => obtain ⟨dx, h⟩ := h; exact ⟨_, _, dx, _, rfl, h, T.tru (by decide)⟩
  | both h _ _ => obtain ⟨dx, h⟩ := h; exact ⟨_, _, dx, _, rfl, h, T.tru (by decide)⟩
  | either h _ _ => obtain ⟨dx, h⟩ := h; exact ⟨_, _, dx, _, rfl, h, T.tru (by decide)⟩
theorem ro_ins {K : PySem.W.Frag} {H : Hp} {v : V} {r : Rw} (h : RO K H v r) : ∃ a C dx fs, v = .ref a ∧ H a = some (.ins C dx fs) := by
  cases h with
  | one h _ _ => obtain ⟨dx, h⟩ := h; exact ⟨_, _, _, _, rfl, h⟩
  | some h _ _ => obtain ⟨dx, h⟩ := h; exact ⟨_, _, _, _, rfl, h⟩
  | number h _ => obtain ⟨dx, h⟩ := h; exact ⟨_, _, _, _, rfl, h⟩
  | check h _ _ => obtain ⟨dx, h⟩ := h; exact ⟨_, _, _, _, rfl, h⟩
  | sect h _ _ _ => obtain ⟨dx, h⟩ := h; exact ⟨_, _, _, _, rfl, h⟩
  | rounds h _ _ _ => obtain ⟨dx, h⟩ := h; exact ⟨_, _, _, _, rfl, h⟩
theorem ro_ne_qo {K : PySem.W.Frag} {H : Hp} {R S : Addr} {rvs ys : List V} {rs : List Rw} {qs : List Qd} (h1 : H R = some (.lst rvs)) (hr : ROs K H rvs rs) (hn : rs ≠ []) (h2 : H S = some (.lst ys)) (hq : Paired (QO H) ys qs) : R ≠ S := fun z => by
  rw [z, h2] at h1
  cases h1
  cases hr with
  | nil => exact hn rfl
  | cons a _ =>
    cases hq with
    | cons b _ =>
      obtain ⟨x, C, dx, fs, e1, e2⟩ := ro_ins a
      obtain ⟨t, f, e3, e4, _⟩ := b
      rw [e3] at e1
      cases e1
      rw [e4] at e2
      cases e2
theorem sl_three {ns : List Str} (h : ns.length = 10) {i : Nat} (hi : i < 3) : ∃ a b c, slN ns i = [a, b, c] := by
  have l : (slN ns i).length = 3 := by unfold slN; rw [List.length_take, List.length_drop]; omega
  match slN ns i, l with
  | [a, b, c], _ => exact ⟨a, b, c, rfl⟩
theorem last_of {fs : List Str} (h : 1 ≤ fs.length) : ∃ o, o ∈ fs ∧ atI (fs.map V.str) (-1) = some (.str o) := by
  refine ⟨fs[fs.length - 1], List.getElem_mem _, ?_⟩
  unfold atI ixN
  rw [if_neg (by decide), List.length_map]
  have : 0 ≤ (-1 : Int) + (fs.length : Int) := by omega
  rw [if_pos (by omega)]
  show (fs.map V.str)[_]? = _
  rw [List.getElem?_map, show (((-1 : Int) + (fs.length : Int)).toNat) = fs.length - 1 by omega, List.getElem?_eq_getElem (by omega)]
  rfl
theorem w_par3 {ta : TA} {i j l : Nat} {D : L2.Ends} {σ : L2.St} {H : Hp} (h : ta σ H fun vs H1 => ∃ u v w, vs = [u, v, w] ∧ D.nx (((σ.set i (some u)).set j (some v)).set l (some w)) H1) : tPar3 i j l ta D σ H := h
theorem w_rng2 {ta : TA} {σ : L2.St} {H : Hp} {R : It → Hp → Prop} (h : ta σ H fun vs H1 => ∃ i j : Int, vs = [.int i, .int j] ∧ (-(2 ^ 62) ≤ i ∧ i < 2 ^ 62 ∧ -(2 ^ 62) ≤ j ∧ j < 2 ^ 62) ∧ R (Itr i (j - i).toNat) H1) : iRng2 ta σ H R := h
section
variable {P : Program} {w : World} {K : PySem.W.Frag} {mg : Str → Option Value} {base : Heap}
theorem sc_form : FnScope ["_law_well_here", "_law_p", "_law_names_here", "_law_options", "_law_rows", "_law_seen", "_law_every", "_law_k", "_law_some", "_law_way", "_law_condition_here", "_law_within_here", "_law_high", "_law_later", "_law_row", "_law_question_here"] ["_law_well_here", "_law_p", "_law_names_here"] (defScope s__law_form) := ⟨rfl, rfl, rfl, by decide +kernel, rfl, by decide +kernel, by decide +kernel⟩
theorem ok_form (T : Tx K mg) : Ok P w K mg base 40 (He.ga K "_law_form") ["_law_well_here", "_law_p", "_law_names_here"] (spFormW K) := by
  obtain ⟨fd, F⟩ := T.f__law_form
  have O_law_draw := ok_draw (P := P) (w := w) (base := base) T
  have O_law_condition := ok_condition (P := P) (w := w) (base := base) T 20
  have O_law_question := ok_question (P := P) (w := w) (base := base) T 20
  have O_law_within := ok_within (P := P) (w := w) (base := base) T 20
  obtain ⟨fOne, FOne⟩ := T.f_One_init
  obtain ⟨fNumber, FNumber⟩ := T.f_Number_init
  obtain ⟨fRounds, FRounds⟩ := T.f_Rounds_init
  obtain ⟨fSection, FSection⟩ := T.f_Section_init
  obtain ⟨fCheck, FCheck⟩ := T.f_Check_init
  obtain ⟨_, dOne, bOne⟩ := FOne.binds0 (ps := ["self", "name", "options", "where"]) 3 (fun z => nomatch z) rfl (fun _ _ _ _ _ _ us ks h1 h2 => match us, ks, h1, h2 with | [_, _, _], [_], _, _ => ⟨_, _, _, _, _, _, rfl, rfl, rfl⟩)
  obtain ⟨_, dCheck, bCheck⟩ := FCheck.binds0 (ps := ["self", "name", "must", "where"]) 3 (fun z => nomatch z) rfl (fun _ _ _ _ _ _ us ks h1 h2 => match us, ks, h1, h2 with | [_, _, _], [_], _, _ => ⟨_, _, _, _, _, _, rfl, rfl, rfl⟩)
  obtain ⟨_, dNumber, bNumber⟩ := FNumber.binds0 (ps := ["self", "name", "low", "high", "where"]) 4 (fun z => nomatch z) rfl (fun _ _ _ _ _ _ us ks h1 h2 => match us, ks, h1, h2 with | [_, _, _, _], [_], _, _ => ⟨_, _, _, _, _, _, rfl, rfl, rfl⟩)
  obtain ⟨_, dRounds, bRounds⟩ := FRounds.binds0 (ps := ["self", "count", "rows", "where"]) 3 (fun z => nomatch z) rfl (fun _ _ _ _ _ _ us ks h1 h2 => match us, ks, h1, h2 with | [_, _, _], [_], _, _ => ⟨_, _, _, _, _, _, rfl, rfl, rfl⟩)
  obtain ⟨_, kbSection⟩ := FSection.kbinds0 (ps := ["self", "rows", "where"]) 2 ["where"] [] (fun us _ ws => us ++ ws) (by simp) (by simp) (fun a _ c => a.append c) (fun _ _ _ _ _ _ us mv ws h1 h2 h3 => match us, mv, ws, h1, h2, h3 with | [_, _], [], [_], _, _, _ => rfl)
  refine ⟨fd, F.ok (k := 39) sc_form (fun vs H Q E h => ?_) (fun cdv A outer s_ H vs Q E hr h => ?_), F.bindsN fun _ _ _ _ _ _ us hl => match us, hl with | [_, _, _], _ => rfl, F.kp⟩
  · obtain ⟨s, p, nl, n, d, ns, rfl, _⟩ := h
    rfl
  obtain ⟨s, p, nl, n, d, ns, rfl, hs, hn, hp, nls, hnl, ln, nd, hns, first, q⟩ := h
  have hu65 := K3.Room.units65 hr
  have hu1 := Nat.lt_of_le_of_lt (Nat.add_le_add_left (show 1 ≤ 65 by decide) _) hu65
  have r_law_draw : Room 1 _ := hr.mono (by decide)
  have r_law_condition : Room 23 _ := hr.mono (by decide)
  have r_law_question : Room 24 _ := hr.mono (by decide)
  have r_law_within : Room 25 _ := hr.mono (by decide)
  refine ⟨_, pss_cons (ps_set (i := 3) sc_form.nd rfl (Or.inl rfl) (pe_ix ix_tup (pe_dget hu1 (pe_dget hu1 (pv 1) pe_str (fun _ _ => rfl)) (pe_ix ix_list (pv 2) pe_int (fun _ _ => rfl)) (fun _ _ => rfl)) pe_int (fun _ _ => rfl)))
      (pss_cons (ps_par3 (by rfl) sc_form.nd (i := 4) (j := 5) (l := 6) rfl rfl rfl (by decide) (by decide) (by decide) rfl rfl rfl (pa_cons (pe_lst (pa_cons (pe_make T.mk_One (ok_One T FOne) (hr.mono (by decide : 2 ≤ 39)) (by rfl) T.g_One bOne dOne passL (pa_cons (pe_ix ix_list (pv 2) pe_int (fun _ _ => rfl)) (pa_cons (pv 3) pa_nil))) pa_nil)) (pa_cons (pe_lst (pa_cons (pe_tup (pa_cons (pe_ix ix_list (pv 2) pe_int (fun _ _ => rfl)) (pa_cons pe_str (pa_cons (pv 3) (pa_cons pe_bl pa_nil))))) pa_nil)) (pa_cons (pe_lst pa_nil) pa_nil))) (by rfl))
      (pss_cons (ps_for (passes_of rfl) (by rfl) (pi_range2 rfl T.z_range (pa_cons pe_int (pa_cons (pe_op op_add pe_int (pe_f O_law_draw r_law_draw T.g__law_draw (pa_cons (pv 0) (pa_cons pe_int pa_nil)))) pa_nil))) (pg_name (i := 7) sc_form.nd rfl (Or.inl rfl)) (pss_cons (ps_set (i := 8) sc_form.nd rfl (Or.inl rfl) (pe_slice sl_list (pv 2) (po_some (pe_op op_sub (pe_op op_mul pe_int (pv 7)) pe_int)) (po_some (pe_op op_add (pe_op op_mul pe_int (pv 7)) pe_int))))
      (pss_cons (ps_set (i := 9) sc_form.nd rfl (Or.inl rfl) (pe_f O_law_draw r_law_draw T.g__law_draw (pa_cons (pv 0) (pa_cons pe_int pa_nil))))
      (pss_one (ps_if (pt_cmpR op_eq (pv 9) pe_int (nomark _)) (pss_one (ps_expr (pe_bm PySem.F.plainAttrs_list PySem.F.slot_list_append PySem.F.type_list_append mt_append (pv 4) (pa_cons (pe_make T.mk_Check (ok_Check T FCheck) (hr.mono (by decide : 2 ≤ 39)) (by rfl) T.g_Check bCheck dCheck passL (pa_cons (pe_ix ix_list (pv 8) pe_int (fun _ _ => rfl)) (pa_cons (LT.pe_orI (pe_f O_law_condition r_law_condition T.g__law_condition (pa_cons (pv 0) (pa_cons (pv 5) pa_nil))) (pe_one (pe_cls T.mk_Is (ok_Is T) (hr.mono (by decide : 2 ≤ 39)) T.g_Is (pa_cons (pe_ix ix_list (pv 2) pe_int (fun _ _ => rfl)) (pa_cons (pe_ix ix_tup (pv 3) (pe_un un_neg pe_int) (fun _ _ => rfl)) pa_nil))))) pa_nil))) pa_nil)))) (pss_one (ps_if (pt_cmpR op_eq (pv 9) pe_int (nomark _)) (pss_cons (ps_set (i := 10) sc_form.nd rfl (Or.inl rfl) (pe_f O_law_condition r_law_condition T.g__law_condition (pa_cons (pv 0) (pa_cons (pv 5) pa_nil))))
      (pss_cons (ps_asg (pe_f O_law_within r_law_within T.g__law_within (pa_cons (pv 0) (pa_cons (pv 1) (pa_cons (pv 8) (pa_cons (pv 5) (pa_cons pe_bl pa_nil)))))) (pg_tup (by rfl) (pgs_cons (pg_name (i := 11) sc_form.nd rfl (Or.inl rfl)) (pgs_cons (pg_name (i := 5) sc_form.nd rfl (Or.inl rfl)) pgs_nil))))
      (pss_one (ps_expr (pe_bm PySem.F.plainAttrs_list PySem.F.slot_list_append PySem.F.type_list_append mt_append (pv 4) (pa_cons (pe_makeK (n := 1) (ks := ["where"]) T.mk_Section (ok_Section T FSection) (hr.mono (by decide : 2 ≤ 39)) (by rfl) T.g_Section kbSection passL (pa_cons (pv 11) pa_nil) (pk_cons (pv 10) pk_nil)) pa_nil)))))) (pss_one (ps_if (pt_cmpR op_eq (pv 9) pe_int (nomark _)) (pss_cons (ps_set (i := 12) sc_form.nd rfl (Or.inl rfl) (pe_op op_add pe_int (pe_f O_law_draw r_law_draw T.g__law_draw (pa_cons (pv 0) (pa_cons pe_int pa_nil)))))
      (pss_cons (ps_set (i := 5) sc_form.nd rfl (Or.inl rfl) (pe_op op_cat (pv 5) (pe_lst (pa_cons (pe_tup (pa_cons (pe_ix ix_list (pv 8) pe_int (fun _ _ => rfl)) (pa_cons pe_str (pa_cons (pe_tup (pa_cons pe_int (pa_cons (pv 12) pa_nil))) (pa_cons pe_bl pa_nil))))) pa_nil))))
      (pss_cons (ps_asg (pe_f O_law_within r_law_within T.g__law_within (pa_cons (pv 0) (pa_cons (pv 1) (pa_cons (pe_slice sl_list (pv 8) (po_some pe_int) po_none) (pa_cons (pv 5) (pa_cons pe_bl pa_nil)))))) (pg_tup (by rfl) (pgs_cons (pg_name (i := 11) sc_form.nd rfl (Or.inl rfl)) (pgs_cons (pg_name (i := 13) sc_form.nd rfl (Or.inl rfl)) pgs_nil))))
      (pss_cons (ps_set (i := 4) sc_form.nd rfl (Or.inl rfl) (pe_op op_cat (pv 4) (pe_lst (pa_cons (pe_make T.mk_Number (ok_Number T FNumber) (hr.mono (by decide : 2 ≤ 39)) (by rfl) T.g_Number bNumber dNumber passL (pa_cons (pe_ix ix_list (pv 8) pe_int (fun _ _ => rfl)) (pa_cons pe_int (pa_cons (pv 12) pa_nil)))) (pa_cons (pe_make T.mk_Rounds (ok_Rounds T FRounds) (hr.mono (by decide : 2 ≤ 39)) (by rfl) T.g_Rounds bRounds dRounds passL (pa_cons (pe_ix ix_list (pv 8) pe_int (fun _ _ => rfl)) (pa_cons (pv 11) pa_nil))) pa_nil)))))
      (pss_one (ps_set (i := 6) sc_form.nd rfl (Or.inl rfl) (pe_op op_cat (pv 6) (pe_slice sl_list (pv 13) (po_some (pe_callB call_len_seq (by rfl) T.z_len PySem.boot_len (pa_cons (pv 5) pa_nil))) po_none)))))))) (pss_cons (ps_asg (pe_f O_law_question r_law_question T.g__law_question (pa_cons (pv 0) (pa_cons (pv 1) (pa_cons (pe_ix ix_list (pv 8) pe_int (fun _ _ => rfl)) (pa_cons (pv 5) (pa_cons pe_bl pa_nil)))))) (pg_tup (by rfl) (pgs_cons (pg_name (i := 14) sc_form.nd rfl (Or.inl rfl)) (pgs_cons (pg_name (i := 15) sc_form.nd rfl (Or.inl rfl)) pgs_nil))))
      (pss_cons (ps_expr (pe_bm PySem.F.plainAttrs_list PySem.F.slot_list_append PySem.F.type_list_append mt_append (pv 4) (pa_cons (pv 14) pa_nil)))
      (pss_one (ps_set (i := 5) sc_form.nd rfl (Or.inl rfl) (pe_op op_cat (pv 5) (pe_lst (pa_cons (pv 15) pa_nil))))))))))))))))
      (pss_one (ps_ret (pe_tup (pa_cons (pe_cls T.mk_Form (ok_Form T 24) (hr.mono (by decide)) T.g_Form (pa_cons (pv 4) pa_nil)) (pa_cons (pe_op op_cat (pv 5) (pv 6)) pa_nil))))))), ?_⟩
  obtain ⟨⟨nml, ol, kd, kvs, hpd, hnml, hol, hkd, hkv⟩, pok⟩ := id hp
  obtain ⟨z0, hz0⟩ : ∃ z, ns[0]? = some z := ⟨_, List.getElem?_eq_getElem (by omega)⟩
  have hz0n : z0 ∈ d.ns := hns z0 (List.mem_of_getElem? hz0)
  obtain ⟨e, t0, f0, he, hval, ht0, hf0⟩ := ke_val (z := z0) hkv (by rw [zip_fst, pok.k10, ← pok.n10, List.take_length]; exact hz0n)
  obtain ⟨fs, rfl⟩ := first z0 e hz0 he
  have fok := (pok.kd _ (List.of_mem_zip he).2).2
  have fq0 := fdq_of fok (by rw [pok.o4]; exact Nat.le_refl _) pok.ndo pok.nmo
  have at0 : atI (ns.map V.str) (0 : Int) = some (.str z0) := atI_nat (j := 0) (by rw [List.getElem?_map, hz0]; rfl)
  walk_at "go"
  refine ⟨p, .ref kd, rfl, DGet.k (k := Sum.inr "kinds") hpd, ?_⟩
  walk_at "go"
  refine ⟨nl, _, _, _, rfl, rfl, SqL.of hnl, at0, ?_⟩
  refine ⟨kd, .ref t0, rfl, hval ▸ DGet.k (k := Sum.inr z0) hkd, ?_⟩
  walk_at "go"
  refine ⟨t0, _, ((1 : Nat) : Int), _, rfl, rfl, SqT.of ht0, atI_nat rfl, ?_⟩
  walk_at "go"
  refine w_par3 ?_
  walk_at "go"
  refine w_make ?_
  walk_at "go"
  refine ⟨nl, _, _, _, rfl, rfl, SqL.of hnl, at0, ?_⟩
  walk_at "go"
  intro a dxa ha hdxa _
  refine mkT2 (K := K) (x := "One") (f1 := "name") (f2 := "options") (f3 := "where") (v1 := .str z0) (v3 := .non) (SqT.of hf0) ha hdxa fun to1 H1 e1 hi1 ht1 => ?_
  have ro1 : RO K H1 (.ref a) (.one z0 fs none) := .one hi1 ht1 .none
  walk_at "go"
  refine ⟨(by show 1 ≤ sizeLine; decide), fun R hR => ?_⟩
  have e2 := Same.new hR (.lst [V.ref a])
  have g2 : (upd H1 R (.lst [V.ref a])) R = some (.lst [V.ref a]) := upd_same
  generalize upd H1 R (.lst [V.ref a]) = H2 at e2 g2 ⊢
  walk_at "go"
  refine ⟨nl, _, _, _, rfl, rfl, SqL.of ((e1.trans e2) _ _ hnl), at0, ?_⟩
  walk_at "go"
  refine ⟨(by show 4 ≤ sizeLine; decide), fun t1 ht1 => ?_⟩
  have e3 := Same.new ht1 (.tup [V.str z0, .str "one", .ref f0, .bl false])
  have g3 : (upd H2 t1 (.tup [V.str z0, .str "one", .ref f0, .bl false])) t1 = some (.tup [V.str z0, .str "one", .ref f0, .bl false]) := upd_same
  generalize upd H2 t1 (.tup [V.str z0, .str "one", .ref f0, .bl false]) = H3 at e3 g3 ⊢
  walk_at "go"
  refine ⟨(by show 1 ≤ sizeLine; decide), fun S hS => ?_⟩
  have e4 := Same.new hS (.lst [V.ref t1])
  have g4 : (upd H3 S (.lst [V.ref t1])) S = some (.lst [V.ref t1]) := upd_same
  generalize upd H3 S (.lst [V.ref t1]) = H4 at e4 g4 ⊢
  walk_at "go"
  refine ⟨(by show 0 ≤ sizeLine; decide), fun E1 hE => ?_⟩
  have e5 := Same.new hE (.lst [])
  have g5 : (upd H4 E1 (.lst [])) E1 = some (.lst []) := upd_same
  generalize upd H4 E1 (.lst []) = H5 at e5 g5 ⊢
  walk_at "go"
  refine ⟨_, _, _, rfl, ?_⟩
  have q0ok : QdOk ⟨z0, "one", .txt fs, false⟩ := ⟨pok.nm z0 hz0n, .inl rfl, fq0⟩
  have e25 := (e3.trans e4).trans e5
  have e05 := (e1.trans e2).trans e25
  have w1 := hs.same e1
  have w2 := w1.same e2
  have w4 := (w2.same e3).same e4
  have st0 : FSt K H s R S E1 [.one z0 fs none] [⟨z0, "one", .txt fs, false⟩] [] H5 :=
    ⟨BM.of e05, e1.free hR, w1.ne hR, (w2.same e3).ne hS, w4.ne hE, ne_of_none g2 (e3.free hS), ne_of_none g2 ((e3.trans e4).free hE),
      ⟨_, e25 _ _ g2, .cons (RO.same (e2.trans e25) ro1) .nil⟩, ⟨_, e5 _ _ g4, .cons ⟨t1, f0, rfl, (e4.trans e5) _ _ g3, e05 _ _ hf0⟩ .nil⟩, ⟨_, g5, .nil⟩⟩
  have w5 := hs.same e05
  walk_at "go"
  refine w_rng2 ?_
  walk_at "go"
  refine ⟨s, 4, n, rfl, w5, by omega, by decide, by decide, fun r1 H6 hr1 b6 w6 => ?_⟩
  walk_at "go"
  refine ⟨_, _, rfl, ⟨by decide, by decide, by omega, by omega⟩, ?_⟩
  rw [show ((1 : Int) + (r1 : Int) - 1).toNat = r1 by omega]
  have st6 := st0.to w5.src b6
  refine for_range (lo := 1) (n := r1) (fun (i : Nat) σ H' => ∃ (R S E1 : Addr) (rs : List Rw) (sn ev : List Qd) (o7 o8 o9 o10 o11 o12 o13 o14 o15 : Option V), σ = [some (.ref s), some (.ref p), some (.ref nl), some (.ref f0), some (.ref R), some (.ref S), some (.ref E1), o7, o8, o9, o10, o11, o12, o13, o14, o15] ∧ FSt K H s R S E1 rs sn ev H' ∧ Well H' s (n + 1 + 1000 * i) ∧ FI ns i rs sn ev ∧ (⟨z0, "one", .txt fs, false⟩ : Qd) ∈ sn)
    ⟨R, S, E1, _, _, _, none, none, none, none, none, none, none, none, none, rfl, st6, w6, fi_first hz0 q0ok, by simp⟩ ?_ ?_
  · rintro i σ H7 hi ⟨R, S, E1, rs, sn, ev, o7, o8, o9, o10, o11, o12, o13, o14, o15, rfl, st, w7, fi, hq0⟩
    have lsn := fi.ls
    have lev := fi.le
    have hnl7 := st.bm.at hnl (by simpa using nls)
    have cutE : cutV (ns.map V.str) (some (3 * (1 + (i : Int)) - 2)) (some (3 * (1 + (i : Int)) + 1)) = (slN ns i).map V.str := by
      rw [show (3 * (1 + (i : Int)) - 2) = ((1 + 3 * i : Nat) : Int) by omega, show (3 * (1 + (i : Int)) + 1) = ((1 + 3 * i + 3 : Nat) : Int) by omega, cut_mid _ (by rw [List.length_map]; omega) (by omega), ← List.map_drop, ← List.map_take, Nat.add_sub_cancel_left]
      rfl
    obtain ⟨z1, z2, z3, esl⟩ := sl_three ln (show i < 3 by omega)
    have slm : ∀ z ∈ slN ns i, z ∈ ns := fun z hz => List.mem_of_mem_drop (List.mem_of_mem_take hz)
    have slnd : (slN ns i).Nodup := nd.sublist ((List.take_sublist _ _).trans (List.drop_sublist _ _))
    have fresh : ∀ z ∈ slN ns i, look (alOf (Rws.flat rs none 0)) z = none := fun z hz => fi.fresh nd hz
    have seenIn : SeenIn (alOf (Rws.flat rs none 0)) sn none := fi.ad.seen
    walk_at "go"
    refine w_i (.inl (by decide)) ?_
    walk_at "go"
    refine w_i (.inl (by decide)) ?_
    walk_at "go"
    refine ⟨nl, _, rfl, SqL.of hnl7, fun m hm0 => ?_⟩
    rw [cutE]
    have e8 := Same.new hm0 (.lst ((slN ns i).map V.str))
    have hm8 : (upd H7 m (.lst ((slN ns i).map V.str))) m = some (.lst ((slN ns i).map V.str)) := upd_same
    have ms := w7.ne hm0
    have w8 := w7.same e8
    have st8 := st.same e8
    generalize upd H7 m (.lst ((slN ns i).map V.str)) = H8 at e8 hm8 w8 st8 ⊢
    walk_at "go"
    refine ⟨s, 6, _, rfl, w8, by omega, by decide, by decide, fun r2 H9 hr2 b9 w9 => ?_⟩
    have st9 := st8.to w8.src b9
    have hm9 := b9.at hm8 (by simpa using ms)
    obtain ⟨rvs9, hR9, hro9⟩ := st9.rows
    obtain ⟨ys9, hS9, hys9⟩ := st9.seen
    have lcn := fi.cn
    have lrs : rs.length ≤ Rws.cnt rs := cnt_len
    have rsne : rs ≠ [] := fun z => by
      have := fi.c1
      rw [z] at this
      simp only [Rws.cnt] at this
      omega
    have okS : ∀ q ∈ sn, QdOk q := fun q hq => fi.ok q (List.mem_append_left _ hq)
    walk_at "go"
    refine ⟨rfl, ?_⟩
    rw [decV]
    by_cases c0 : (r2 : Int) = 0
    · rw [decide_eq_true c0]
      walk_at "go"
      refine ⟨_, rfl, .inl ⟨rfl, _, SqL.of hR9⟩, ?_⟩
      walk_at "go"
      refine w_make ?_
      walk_at "go"
      refine ⟨m, _, ((0 : Nat) : Int), _, rfl, rfl, SqL.of hm9, atI_nat (by rw [esl]; rfl), ?_⟩
      walk_at "go"
      refine orI_of (fun v H' => ∃ c, BM [s] H9 H' ∧ Well H' s (n + 1 + 1000 * i + 100) ∧ CO K H' v c ∧ WS sn (some c)) ?_ fun Q' q' => LT.w_orI ?_
      · rintro v H10 ⟨c, b10, w10, hc, hws⟩
        walk_at "go"
        intro a2 dxb ha2 hdxb _
        refine mkI2 (K := K) (x := "Check") (fs := ["name", "must", "where"]) (ws := [.str z1, v, .non]) rfl ha2 hdxb fun H11 e11 hi11 => ?_
        have st11 := (st9.to w9.src b10).same e11
        obtain ⟨rvs11, hR11, hro11⟩ := st11.rows
        have l11 := hro11.len
        refine ⟨R, _, _, rfl, rfl, hR11, Nat.lt_of_le_of_lt (show rvs11.length ≤ 100 by omega) (by decide), ?_⟩
        have fi2 := fi.add nd (part_check seenIn (fresh z1 (by rw [esl]; simp)) (pok.nm z1 (hns z1 (slm z1 (by rw [esl]; simp)))) hws (by omega) (by rw [esl]; simp))
        rw [List.append_nil, List.append_nil] at fi2
        exact ⟨R, S, E1, _, _, _, _, _, _, _, _, _, _, _, _, rfl, st11.app hR11 (.check hi11 (hc.same e11) .none), ((w10.same e11).mono (by omega)).upd st.Rs _, fi2, hq0⟩
      · walk_at "go"
        refine ⟨s, S, _, ys9, sn, rfl, by omega, w9, by omega, st9.Ss, hS9, hys9, okS, by omega, fun cv H10 wc b10 w10 wo sm => ?_⟩
        cases wo with
        | none =>
          refine .inl ⟨rfl, ?_⟩
          have b010 := st9.bm.trans b10
          walk_at "go"
          refine w_make ?_
          walk_at "go"
          refine ⟨nl, _, _, _, rfl, rfl, SqL.of (b010.at hnl (by simpa using nls)), at0, ?_⟩
          walk_at "go"
          obtain ⟨o, ho, hlast⟩ := last_of fq0.2.1
          refine ⟨1, rfl, ?_⟩
          walk_at "go"
          refine ⟨f0, _, _, _, rfl, rfl, SqT.of (b010.at hf0 (by simpa using hs.tup hf0)), hlast, ?_⟩
          walk_at "go"
          intro a2 dxb ha2 hdxb _
          refine mkI2 (K := K) (x := "Is") (fs := ["name", "option"]) (ws := [.str z0, .str o]) rfl ha2 hdxb fun H11 e11 hi11 => ?_
          refine q' _ _ ⟨.is z0 o, b10.same e11, (w10.same e11).mono (by omega), .is hi11, fun c h => ?_⟩
          cases h
          refine ⟨⟨_, hq0, rfl, ?_⟩, Nat.zero_le _, ?_⟩
          · show suitsB (.is z0 o) (if ("one" : Str) = "one" then Rw.one z0 fs none else Rw.some z0 fs none) = true
            rw [if_pos rfl]
            exact decide_eq_true ho
          · show 1 ≤ sn.length
            exact List.length_pos_of_mem hq0
        | @some _ c hc =>
          obtain ⟨p', C, dx, fs', rfl, hp', ht'⟩ := hc.tru T
          exact .inr ⟨p', C, dx, fs', rfl, hp', ht', q' _ _ ⟨c, b10, w10.mono (by omega), hc, fun c' h => by cases h; exact sm c rfl⟩⟩
    rw [decide_eq_false c0]
    walk_at "go"
    refine ⟨rfl, ?_⟩
    rw [decV]
    by_cases c1 : (r2 : Int) = 1
    · rw [decide_eq_true c1]
      walk_at "go"
      refine ⟨s, S, _, ys9, sn, rfl, by omega, w9, by omega, st9.Ss, hS9, hys9, okS, by omega, fun cv H10 wc b10 w10 wo sm => ?_⟩
      have st10 := st9.to w9.src b10
      have hm10 := b10.at hm9 (by simpa using ms)
      obtain ⟨ys10, hS10, hys10⟩ := st10.seen
      walk_at "go"
      refine ⟨s, p, m, S, _, d, slN ns i, ys10, sn, false, rfl, by omega, w10, by omega, PoolO.bm hs st10.bm hp, ms, hm10, by rw [esl]; simp, by rw [esl]; simp, fun z hz => hns z (slm z hz), st10.Ss, hS10, hys10, okS, by omega, fun t rl sl rvs ys2 H11 ps wrs ht0 b11 w11 ht11 rls sls hrl hro hsl hys11 wi hnm hins => ?_⟩
      have st11 := st10.to w10.src b11
      obtain ⟨rvs11, hR11, hro11⟩ := st11.rows
      have l11 := hro11.len
      refine w_gtup (SqT.of ht11) rfl (w_gnn ?_)
      refine ⟨_, rfl, .inl ⟨rfl, _, SqL.of hR11⟩, ?_⟩
      walk_at "go"
      refine w_makeK ?_
      walk_at "go"
      refine ⟨rfl, rfl, fun x dx hx hdx _ => ?_⟩
      refine mkS2 (K := K) hrl hx hdx fun ts H12 e12 hi12 ht12 => ?_
      refine ⟨R, _, _, rfl, rfl, e12 _ _ hR11, Nat.lt_of_le_of_lt (show rvs11.length ≤ 100 by omega) (by decide), ?_⟩
      have nRs := ro_ne_qo hR11 hro11 rsne hsl hys11
      have st12 := (st11.setS hsl hys11 sls nRs).same e12
      have hw10 := (wo.si (BM.nl w10.src b11).si).same e12
      have fi2 := fi.add nd (part_sect seenIn fresh sm wi (by omega) (fun x hx => by
        have : x.1.name ∈ ps.map (·.1.name) := List.mem_map_of_mem hx
        rw [hnm] at this
        exact List.mem_of_mem_take this) (by rw [hnm]; exact slnd.sublist (List.take_sublist _ _)) hins)
      rw [List.append_nil] at fi2
      exact ⟨R, sl, E1, _, _, _, _, _, _, _, _, _, _, _, _, rfl, st12.app (e12 _ _ hR11) (.sect hi12 ht12 (ROs.same e12 hro) hw10), ((w11.same e12).mono (by omega)).upd st.Rs _, fi2, List.mem_append_left _ hq0⟩
    rw [decide_eq_false c1]
    walk_at "go"
    refine ⟨rfl, ?_⟩
    rw [decV]
    by_cases c2 : (r2 : Int) = 2
    · rw [decide_eq_true c2]
      walk_at "go"
      refine ⟨s, 3, _, rfl, w9, by omega, by decide, by decide, fun r3 H10 hr3 b10 w10 => ?_⟩
      have st10 := st9.to w9.src b10
      have hm10 := b10.at hm9 (by simpa using ms)
      obtain ⟨ys10, hS10, hys10⟩ := st10.seen
      walk_at "go"
      refine ⟨m, _, ((0 : Nat) : Int), _, rfl, rfl, SqL.of hm10, atI_nat (by rw [esl]; rfl), ?_⟩
      walk_at "go"
      refine ⟨(by show 2 ≤ sizeLine; decide), fun f1 hf1 => ?_⟩
      have e11 := Same.new hf1 (.tup [V.int 0, V.int (1 + (r3 : Int))])
      have g11 : (upd H10 f1 (.tup [V.int 0, V.int (1 + (r3 : Int))])) f1 = some (.tup [V.int 0, V.int (1 + (r3 : Int))]) := upd_same
      generalize upd H10 f1 (.tup [V.int 0, V.int (1 + (r3 : Int))]) = H11 at e11 g11 ⊢
      walk_at "go"
      refine ⟨(by show 4 ≤ sizeLine; decide), fun t2 ht2 => ?_⟩
      have e12 := Same.new ht2 (.tup [V.str z1, .str "number", .ref f1, .bl false])
      have g12 : (upd H11 t2 (.tup [V.str z1, .str "number", .ref f1, .bl false])) t2 = some (.tup [V.str z1, .str "number", .ref f1, .bl false]) := upd_same
      generalize upd H11 t2 (.tup [V.str z1, .str "number", .ref f1, .bl false]) = H12 at e12 g12 ⊢
      walk_at "go"
      refine ⟨(by show 1 ≤ sizeLine; decide), fun l1 hl1 => ?_⟩
      have e13 := Same.new hl1 (.lst [V.ref t2])
      have g13 : (upd H12 l1 (.lst [V.ref t2])) l1 = some (.lst [V.ref t2]) := upd_same
      generalize upd H12 l1 (.lst [V.ref t2]) = H13 at e13 g13 ⊢
      have e03 := (e11.trans e12).trans e13
      have ly := hys10.length
      refine ⟨S, l1, _, _, rfl, rfl, e03 _ _ hS10, g13, ?_, fun S2 hS2 => ?_⟩
      · rw [List.length_singleton]
        exact Nat.le_trans (show ys10.length + 1 ≤ 1000 by omega) (by decide)
      have e14 := Same.new hS2 (.lst (ys10 ++ [V.ref t2]))
      have g14 : (upd H13 S2 (.lst (ys10 ++ [V.ref t2]))) S2 = some (.lst (ys10 ++ [V.ref t2])) := upd_same
      have w13 := w10.same e03
      have S2s := w13.ne hS2
      have st13 := st10.same e03
      have RS2 : R ≠ S2 := fun z => by
        obtain ⟨_, h, _⟩ := st13.rows
        rw [z, hS2] at h
        cases h
      generalize upd H13 S2 (.lst (ys10 ++ [V.ref t2])) = H14 at e14 g14 ⊢
      generalize hqd : (⟨z1, "number", .num 0 (1 + (r3 : Int)), false⟩ : Qd) = qd
      have hqo14 : QO H14 (.ref t2) qd := by
        rw [← hqd]
        exact ⟨t2, f1, rfl, (e13.trans e14) _ _ g12, ((e12.trans e13).trans e14) _ _ g11⟩
      have hys14 : Paired (QO H14) (ys10 ++ [V.ref t2]) (sn ++ [qd]) := K3.Paired.app (L2.Paired.mapP hys10 fun _ _ z => z.nl (Same.nl (e03.trans e14))) (.cons hqo14 .nil)
      have st14 := (st13.same e14).setS g14 hys14 S2s RS2
      have hm14 := (e03.trans e14) _ _ hm10
      have w14 := w13.same e14
      have nz1 := pok.nm z1 (hns z1 (slm z1 (by rw [esl]; simp)))
      have okqd : QdOk qd := by
        rw [← hqd]
        exact ⟨nz1, .inr (.inr rfl), rfl, by show (-100 : Int) ≤ 0; decide, by show (0 : Int) ≤ 1 + (r3 : Int); omega, by show 1 + (r3 : Int) ≤ 100; omega⟩
      have lqd : (sn ++ [qd]).length = sn.length + 1 := by rw [List.length_append]; rfl
      walk_at "go"
      refine ⟨m, _, rfl, SqL.of hm14, fun m2 hm2 => ?_⟩
      rw [show cutV ((slN ns i).map V.str) (some 1) none = [z2, z3].map V.str by rw [esl]; rfl]
      have e15 := Same.new hm2 (.lst ([z2, z3].map V.str))
      have g15 : (upd H14 m2 (.lst ([z2, z3].map V.str))) m2 = some (.lst ([z2, z3].map V.str)) := upd_same
      have m2s := w14.ne hm2
      generalize upd H14 m2 (.lst ([z2, z3].map V.str)) = H15 at e15 g15 ⊢
      have st15 := st14.same e15
      have w15 := w14.same e15
      walk_at "go"
      refine ⟨s, p, m2, S2, _, d, [z2, z3], _, sn ++ [qd], true, rfl, by omega, w15, by omega, PoolO.bm hs st15.bm hp, m2s, g15, by simp, by simp, fun z hz => hns z (slm z (by rw [esl]; exact List.mem_cons_of_mem _ hz)), S2s, e15 _ _ g14, L2.Paired.mapP hys14 fun _ _ z => z.nl (Same.nl e15), ?_, by omega, fun t rl sl rvs ys2 H16 ps wrs ht0 b16 w16 ht16 rls sls hrl hro hsl hys16 wi hnm hins => ?_⟩
      · intro q hq
        rcases List.mem_append.mp hq with hq | hq
        · exact okS q hq
        · rw [List.mem_singleton.mp hq]; exact okqd
      have st16 := st15.to w15.src b16
      have hm16 := b16.at (e15 _ _ hm14) (by simpa using ms)
      obtain ⟨rvs16, hR16, hro16⟩ := st16.rows
      have l16 := hro16.len
      refine w_gtup (SqT.of ht16) rfl (w_gnn ?_)
      walk_at "go"
      refine w_make ?_
      walk_at "go"
      refine ⟨m, _, ((0 : Nat) : Int), _, rfl, rfl, SqL.of hm16, atI_nat (by rw [esl]; rfl), ?_⟩
      walk_at "go"
      intro aN dxN haN hdxN _
      refine mkI2 (K := K) (x := "Number") (fs := ["name", "low", "high", "where"]) (ws := [.str z1, .int 0, .int (1 + (r3 : Int)), .non]) rfl haN hdxN fun H17 e17 hi17 => ?_
      walk_at "go"
      refine w_make ?_
      walk_at "go"
      refine ⟨m, _, ((0 : Nat) : Int), _, rfl, rfl, SqL.of (e17 _ _ hm16), atI_nat (by rw [esl]; rfl), ?_⟩
      walk_at "go"
      intro aR dxR haR hdxR _
      refine mkL2 (K := K) (x := "Rounds") (f1 := "count") (f2 := "rows") (f3 := "where") (v1 := .str z1) (v3 := .non) (e17 _ _ hrl) haR hdxR fun tR H18 e18 hi18 ht18 => ?_
      walk_at "go"
      refine ⟨(by show 2 ≤ sizeLine; decide), fun l2 hl2 => ?_⟩
      have e19 := Same.new hl2 (.lst [V.ref aN, V.ref aR])
      have g19 : (upd H18 l2 (.lst [V.ref aN, V.ref aR])) l2 = some (.lst [V.ref aN, V.ref aR]) := upd_same
      generalize upd H18 l2 (.lst [V.ref aN, V.ref aR]) = H19 at e19 g19 ⊢
      have e69 := (e17.trans e18).trans e19
      refine ⟨R, l2, _, _, rfl, rfl, e69 _ _ hR16, g19, ?_, fun R2 hR2 => ?_⟩
      · exact Nat.le_trans (show rvs16.length + 2 ≤ 1000 by omega) (by decide)
      have e20 := Same.new hR2 (.lst (rvs16 ++ [V.ref aN, V.ref aR]))
      have g20 : (upd H19 R2 (.lst (rvs16 ++ [V.ref aN, V.ref aR]))) R2 = some (.lst (rvs16 ++ [V.ref aN, V.ref aR])) := upd_same
      have st19 := st16.same e69
      have w19 := w16.same e69
      have R2s := w19.ne hR2
      have R20 : H R2 = none := st19.bm.free hR2
      have R2S : R2 ≠ S2 := fun z => by
        obtain ⟨_, h, _⟩ := st19.seen
        rw [← z, hR2] at h
        cases h
      have R2E : R2 ≠ E1 := fun z => by
        obtain ⟨_, h, _⟩ := st19.every
        rw [← z, hR2] at h
        cases h
      have hsl19 := e69 _ _ hsl
      have R2sl : R2 ≠ sl := fun z => by
        rw [← z, hR2] at hsl19
        cases hsl19
      generalize upd H19 R2 (.lst (rvs16 ++ [V.ref aN, V.ref aR])) = H20 at e20 g20 ⊢
      have e60 := e69.trans e20
      have hro20 : ROs K H20 (rvs16 ++ [V.ref aN, V.ref aR]) (rs ++ [.number z1 0 (1 + (r3 : Int)) none, .rounds z1 wrs none]) := by
        have a1 : RO K H20 (.ref aN) (.number z1 0 (1 + (r3 : Int)) none) := RO.same (e18.trans (e19.trans e20)) (.number hi17 .none)
        have a2 : RO K H20 (.ref aR) (.rounds z1 wrs none) := RO.same (e19.trans e20) (.rounds hi18 ht18 (ROs.same (e17.trans e18) hro) .none)
        have := ROs.snoc (ROs.snoc (ROs.same e60 hro16) a1) a2
        rw [List.append_assoc, List.append_assoc] at this
        exact this
      have st20 := (st19.same e20).setR g20 hro20 R20 R2s R2S R2E
      have hsl20 := e60 _ _ hsl
      obtain ⟨ysS, hS20, hysS⟩ := st20.seen
      obtain ⟨zs20, hE20, hzs20⟩ := st20.every
      walk_at "go"
      refine ⟨S2, _, rfl, .inl (SqL.of hS20), ?_⟩
      walk_at "go"
      refine ⟨sl, _, rfl, SqL.of hsl20, fun l3 hl3 => ?_⟩
      rw [hysS.length, cut_from]
      have e21 := Same.new hl3 (.lst (ys2.drop (sn ++ [qd]).length))
      have g21 : (upd H20 l3 (.lst (ys2.drop (sn ++ [qd]).length))) l3 = some (.lst (ys2.drop (sn ++ [qd]).length)) := upd_same
      generalize upd H20 l3 (.lst (ys2.drop (sn ++ [qd]).length)) = H21 at e21 g21 ⊢
      have hdr : Paired (QO H21) (ys2.drop (sn ++ [qd]).length) (ps.map (·.1)) := by
        have := paired_dropN (sn ++ [qd]).length hys16
        rw [List.drop_left] at this
        exact L2.Paired.mapP this fun _ _ z => z.nl (Same.nl (e60.trans e21))
      have lz := hzs20.length
      have ldr := hdr.length
      have l2ps : (ps.map (·.1)).length ≤ 2 := by rw [List.length_map]; exact (wi_size wi).2.2.2
      refine ⟨E1, l3, _, _, rfl, rfl, e21 _ _ hE20, g21, ?_, fun E2 hE2 => ?_⟩
      · exact Nat.le_trans (show zs20.length + (ys2.drop (sn ++ [qd]).length).length ≤ 1000 by omega) (by decide)
      have e22 := Same.new hE2 (.lst (zs20 ++ ys2.drop (sn ++ [qd]).length))
      have g22 : (upd H21 E2 (.lst (zs20 ++ ys2.drop (sn ++ [qd]).length))) E2 = some (.lst (zs20 ++ ys2.drop (sn ++ [qd]).length)) := upd_same
      have st21 := st20.same e21
      have w21 := (w19.same e20).same e21
      have E2s := w21.ne hE2
      have R2E2 : R2 ≠ E2 := fun z => by
        rw [← z, e21 _ _ g20] at hE2
        cases hE2
      generalize upd H21 E2 (.lst (zs20 ++ ys2.drop (sn ++ [qd]).length)) = H22 at e22 g22 ⊢
      have st22 := (st21.same e22).setE g22 (K3.Paired.app (L2.Paired.mapP hzs20 fun _ _ z => z.nl (Same.nl (e21.trans e22))) (L2.Paired.mapP hdr fun _ _ z => z.nl (Same.nl e22))) E2s R2E2
      have tps : ps.map (·.1.name) = [z2, z3].take ps.length := hnm
      have slnd2 := slnd
      rw [esl] at slnd2
      have nmP : ∀ x ∈ ps, x.1.name ∈ [z2, z3] := fun x hx => by
        have : x.1.name ∈ ps.map (·.1.name) := List.mem_map_of_mem hx
        rw [tps] at this
        exact List.mem_of_mem_take this
      have fi2 := fi.add nd (part_rnd seenIn fresh nz1 (by rw [esl]; simp) (show (0 : Int) ≤ 1 + (r3 : Int) by omega) (by omega) (by rw [hqd]; exact wi) (by omega) (fun x hx => by rw [esl]; exact List.mem_cons_of_mem _ (nmP x hx)) (by
        rw [tps]
        refine List.nodup_cons.mpr ⟨fun k => (List.nodup_cons.mp slnd2).1 (List.mem_of_mem_take k), (List.nodup_cons.mp slnd2).2.sublist (List.take_sublist _ _)⟩) hins)
      rw [hqd] at fi2
      exact ⟨R2, S2, E2, _, _, _, _, _, _, _, _, _, _, _, _, rfl, st22, (w21.same e22).mono (by omega), fi2, List.mem_append_left _ hq0⟩
    rw [decide_eq_false c2]
    walk_at "go"
    refine ⟨m, _, ((0 : Nat) : Int), _, rfl, rfl, SqL.of hm9, atI_nat (by rw [esl]; rfl), ?_⟩
    walk_at "go"
    refine ⟨s, p, S, _, d, ys9, sn, z1, false, rfl, by omega, w9, by omega, PoolO.bm hs st9.bm hp, hns z1 (slm z1 (by rw [esl]; simp)), st9.Ss, hS9, hys9, okS, by omega, fun t rv t2 H10 q1 wc ht0 b10 w10 ht10 hqo hro en ei okq sm => ?_⟩
    have st10 := st9.to w9.src b10
    obtain ⟨rvs10, hR10, hro10⟩ := st10.rows
    have l10 := hro10.len
    refine w_gtup (SqT.of ht10) rfl (w_gnn ?_)
    refine ⟨_, rfl, .inl ⟨rfl, _, SqL.of hR10⟩, ?_⟩
    walk_at "go"
    refine ⟨R, _, _, rfl, rfl, hR10, Nat.lt_of_le_of_lt (show rvs10.length ≤ 100 by omega) (by decide), ?_⟩
    have st11 := st10.app hR10 hro
    have w11 := w10.upd st.Rs (.lst (rvs10 ++ [rv]))
    have hqo11 := hqo.nl (NLf.upd hR10 (.lst (rvs10 ++ [rv])))
    generalize upd H10 R (.lst (rvs10 ++ [rv])) = H11 at st11 w11 hqo11 ⊢
    obtain ⟨ys11, hS11, hys11⟩ := st11.seen
    walk_at "go"
    refine ⟨(by show 1 ≤ sizeLine; decide), fun l1 hl1 => ?_⟩
    have e12 := Same.new hl1 (.lst [V.ref t2])
    have g12 : (upd H11 l1 (.lst [V.ref t2])) l1 = some (.lst [V.ref t2]) := upd_same
    generalize upd H11 l1 (.lst [V.ref t2]) = H12 at e12 g12 ⊢
    have ly := hys11.length
    refine ⟨S, l1, _, _, rfl, rfl, e12 _ _ hS11, g12, ?_, fun S2 hS2 => ?_⟩
    · rw [List.length_singleton]
      exact Nat.le_trans (show ys11.length + 1 ≤ 1000 by omega) (by decide)
    have e13 := Same.new hS2 (.lst (ys11 ++ [V.ref t2]))
    have g13 : (upd H12 S2 (.lst (ys11 ++ [V.ref t2]))) S2 = some (.lst (ys11 ++ [V.ref t2])) := upd_same
    have w12 := w11.same e12
    have st12 := st11.same e12
    have S2s := w12.ne hS2
    have RS2 : R ≠ S2 := fun z => by
      obtain ⟨_, h, _⟩ := st12.rows
      rw [z, hS2] at h
      cases h
    generalize upd H12 S2 (.lst (ys11 ++ [V.ref t2])) = H13 at e13 g13 ⊢
    have st13 := (st12.same e13).setS g13 (K3.Paired.app (L2.Paired.mapP hys11 fun _ _ z => z.nl (Same.nl (e12.trans e13))) (.cons (hqo11.nl (Same.nl (e12.trans e13))) .nil)) S2s RS2
    have hz1 : z1 ∈ slN ns i := by rw [esl]; simp
    have fi2 := fi.add nd (part_q (q := q1) (w := wc) seenIn (by rw [en]; exact fresh z1 hz1) okq sm (by omega) (by rw [en]; exact hz1) ei)
    rw [List.append_nil] at fi2
    exact ⟨R, S2, E1, _, _, _, _, _, _, _, _, _, _, _, _, rfl, st13, (w12.same e13).mono (by omega), fi2, List.mem_append_left _ hq0⟩
  · rintro σ H7 ⟨R, S, E1, rs, sn, ev, o7, o8, o9, o10, o11, o12, o13, o14, o15, rfl, st, w7, fi, hq0⟩
    have lsn := fi.ls
    have lev := fi.le
    have lcn := fi.cn
    have ldp := fi.dp
    obtain ⟨rvs, hR, hro⟩ := st.rows
    walk_at "go"
    refine w_make ?_
    walk_at "go"
    intro x dx hx hdx hne
    refine ⟨x, dx, R, rvs, rs, H7, rfl, fun c o h => by rw [upd_ne (ne_of_none h hx), upd_ne (ne_of_none h hdx)]; exact h, hx, .inl (SqL.of hR), hro, fi.rb, by omega, by omega, upd_same, ?_⟩
    unfold FormEnd
    rw [fi.form (by omega)]
    intro H8 t8 d8 d28 kvs8 kv28 e8 hx8 ht8 hd8 hp8 hd28 hz8
    refine ⟨rfl, ?_⟩
    have hF : FormO K H8 x rs := ⟨fi.form (by omega), dx, t8, d8, d28, rvs, kvs8, kv28, hx8, ht8, ROs.same e8 hro, hd8, hp8, hd28, hz8⟩
    have st8 := st.same e8
    have w8 := w7.same e8
    obtain ⟨ys, hS, hys⟩ := st8.seen
    obtain ⟨zs, hE, hzs⟩ := st8.every
    have ly := hys.length
    have lz := hzs.length
    walk_at "go"
    refine ⟨S, E1, _, _, rfl, rfl, hS, hE, Nat.le_trans (show ys.length + zs.length ≤ 1000 by omega) (by decide), fun l hl => ?_⟩
    have e9 := Same.new hl (.lst (ys ++ zs))
    have g9 : (upd H8 l (.lst (ys ++ zs))) l = some (.lst (ys ++ zs)) := upd_same
    have ls := w8.ne hl
    generalize upd H8 l (.lst (ys ++ zs)) = H9 at e9 g9 ⊢
    walk_at "go"
    refine ⟨(by show 2 ≤ sizeLine; decide), fun t ht => ?_⟩
    have e10 := Same.new ht (.tup [V.ref x, .ref l])
    have e80 := e9.trans e10
    refine q t x l _ rs (ys ++ zs) (sn ++ ev) (st8.bm.free (e9.free ht)) (st8.bm.same e80) ((w8.same e80).mono (by omega)) upd_same (st.bm.free hx) (hF.same e80) ls (e10 _ _ g9) (L2.Paired.mapP (K3.Paired.app hys hzs) fun _ _ z => z.nl (Same.nl e80)) fi.ok fi.fq fi.fb (fun z => by rw [List.append_eq_nil_iff] at z; rw [z.1] at hq0; cases hq0) (by rw [List.length_append]; omega) fun q hq => List.mem_of_mem_take (fi.nm q hq)
end
end K3
end Y8_part
section O1_part
set_option Elab.async false
set_option linter.all false
set_option maxRecDepth 100000
set_option maxHeartbeats 1000000
set_option pp.deepTerms true
open PySem PySem.Spec PyProof.Rows L2
/-- go on as far as nothing is open -/
local macro_rules | `(tactic| walk_at "go") => `(tactic| repeat (first
  | with_reducible refine w_seq ?_ | with_reducible refine w_next ?_ | with_reducible refine w_set ?_ | with_reducible refine w_drop ?_ | with_reducible refine w_ret ?_ | with_reducible refine w_retN ?_
  | with_reducible refine w_if ?_ | ((with_reducible refine' w_var ?hv ?_); (case hv => exact rfl)) | with_reducible refine w_c ?_ | with_reducible refine w_nil ?_ | with_reducible refine w_cons ?_ | with_reducible refine w_op ?_ | with_reducible refine w_un ?_
  | with_reducible refine w_test ?_ | with_reducible refine w_tB ?_ | with_reducible refine w_not ?_ | with_reducible refine w_and ?_ | with_reducible refine w_or ?_ | with_reducible refine w_bl ?_
  | with_reducible refine w_andV ?_ | with_reducible refine w_orV ?_ | with_reducible refine w_notV ?_ | with_reducible refine w_ifE ?_ | with_reducible refine w_chain ?_ | with_reducible refine w_i0 ?_
  | with_reducible refine w_call ?_ | with_reducible refine w_callS ?_ | with_reducible refine w_cB ?_ | with_reducible refine w_tup ?_ | with_reducible refine w_lst ?_ | with_reducible refine w_fldV ?_
  | with_reducible refine w_neF ?_ | with_reducible refine w_neT ?_ | with_reducible refine w_notN ?_ | with_reducible refine w_isN ?_ | with_reducible refine w_gname ?_ | with_reducible refine w_gsub ?_ | with_reducible refine w_asg ?_ | with_reducible refine w_sl ?_ | with_reducible refine w_noP ?_ | with_reducible refine w_int1 ?_ | with_reducible refine w_part ?_ | with_reducible refine w_meth ?_ | with_reducible refine w_din ?_ | with_reducible refine w_dnotin ?_ | with_reducible refine w_dgt ?_ | with_reducible refine w_dget1 ?_ | with_reducible refine w_dget2 ?_ | with_reducible refine w_dput ?_ | with_reducible refine w_yes ?_ | with_reducible refine w_nT ?_ | with_reducible refine w_nF ?_ | with_reducible refine w_iteT ?_ | with_reducible refine w_iteF ?_))
namespace K3
/-! ### == of conditions -/
theorem ex_bool (p : Prop) : ∃ b : Bool, b = true ↔ p := by
  classical exact ⟨decide p, decide_eq_true_iff⟩
section
variable {K : PySem.W.Frag} {mg : Str → Option Value} {H : Hp}
theorem Tx.oe (T : Tx K mg) {g : List Str} {x : Str} (hg : g ∈ eqG) (hx : x ∈ g) : oneB K x = true ∧ ∀ y ∈ g, PySem.W.mroIn K (He.ga K y) (.ref (He.ga K x)) = some (x == y) ∧ PySem.W.kitOne K (.ref (He.ga K y)) (.ref (He.ga K x)) = some (y == x) := by
  have h := List.all_eq_true.mp (Bool.and_eq_true_iff.mp (Bool.and_eq_true_iff.mp (Bool.and_eq_true_iff.mp (show (exO K && _) = true from T.e)).2).2).1 g hg
  obtain ⟨h1, h2⟩ := Bool.and_eq_true_iff.mp (List.all_eq_true.mp h x hx)
  refine ⟨h1, fun y hy => ?_⟩
  obtain ⟨h3, h4⟩ := Bool.and_eq_true_iff.mp (List.all_eq_true.mp h2 y hy)
  exact ⟨eqB_ok h3, eqB_ok h4⟩
theorem Tx.exm (T : Tx K mg) {x y : Str} (hx : x ∈ errN) (hy : y ∈ errN) : PySem.W.exmOne K (.ref (He.ga K x)) (.ref (He.ga K y)) = some (x == y) := by
  have h := (Bool.and_eq_true_iff.mp (Bool.and_eq_true_iff.mp (Bool.and_eq_true_iff.mp (Bool.and_eq_true_iff.mp (show (exO K && _) = true from T.e)).2).2).2).1
  exact eqB_ok (List.all_eq_true.mp (List.all_eq_true.mp h x hx) y hy)
structure OneF (K : PySem.W.Frag) (C : Addr) : Prop where
  ne : PySem.W.findIn K (.ref C) "__ne__" = some (some (.builtin "object.__ne__"))
  non : PySem.W.mroIn K C (.type "NoneType") = some false
  kn : PySem.W.kitOne K (.type "NoneType") (.ref C) = some false
  ki : PySem.W.kitOne K (.type "int") (.ref C) = some false
  kc : kclsB K C = true
theorem Tx.one (T : Tx K mg) {g : List Str} {x : Str} (hg : g ∈ eqG) (hx : x ∈ g) : OneF K (He.ga K x) := by
  obtain ⟨h0, h⟩ := Bool.and_eq_true_iff.mp (T.oe hg hx).1
  obtain ⟨h1, h⟩ := Bool.and_eq_true_iff.mp h
  obtain ⟨h2, h⟩ := Bool.and_eq_true_iff.mp h
  obtain ⟨h3, h4⟩ := Bool.and_eq_true_iff.mp h
  exact ⟨eqB_ok h1, eqB_ok h2, eqB_ok h3, eqB_ok h4, h0⟩
theorem Tx.gaI (T : Tx K mg) {g : List Str} {x y : Str} (hg : g ∈ eqG) (hx : x ∈ g) (hy : y ∈ g) (e : He.ga K x = He.ga K y) : x = y := by
  have a := ((T.oe hg hx).2 y hy).1
  have b := ((T.oe hg hx).2 x hx).1
  rw [← e, b] at a
  have := Option.some.inj a
  rw [beq_self_eq_true] at this
  exact eq_of_beq this.symm
theorem Tx.gaB (T : Tx K mg) {g : List Str} {x y : Str} (hg : g ∈ eqG) (hx : x ∈ g) (hy : y ∈ g) : (He.ga K x == He.ga K y) = (x == y) := by
  by_cases e : x = y
  · rw [e, beq_self_eq_true, beq_self_eq_true]
  · rw [beq_false_of_ne e, beq_false_of_ne fun z => e (T.gaI hg hx hy z)]
theorem cg : cndN ∈ eqG := by decide
theorem rg : rowN ∈ eqG := by decide
theorem co_at {v : V} {c : Cd} (h : CO K H v c) : c.nm ∈ cndN ∧ ∃ a dx fs, v = .ref a ∧ H a = some (.ins (He.ga K c.nm) dx fs) := by
  cases h with
  | is h => obtain ⟨dx, h⟩ := h; exact ⟨by simp only [Cd.nm]; decide, _, _, _, rfl, h⟩
  | has h => obtain ⟨dx, h⟩ := h; exact ⟨by simp only [Cd.nm]; decide, _, _, _, rfl, h⟩
  | over h => obtain ⟨dx, h⟩ := h; exact ⟨by simp only [Cd.nm]; decide, _, _, _, rfl, h⟩
  | under h => obtain ⟨dx, h⟩ := h; exact ⟨by simp only [Cd.nm]; decide, _, _, _, rfl, h⟩
  | no h _ => obtain ⟨dx, h⟩ := h; exact ⟨by simp only [Cd.nm]; decide, _, _, _, rfl, h⟩
  | both h _ _ => obtain ⟨dx, h⟩ := h; exact ⟨by simp only [Cd.nm]; decide, _, _, _, rfl, h⟩
  | either h _ _ => obtain ⟨dx, h⟩ := h; exact ⟨by simp only [Cd.nm]; decide, _, _, _, rfl, h⟩
theorem ro_at {v : V} {r : Rw} (h : RO K H v r) : r.nm ∈ rowN ∧ ∃ a dx fs, v = .ref a ∧ H a = some (.ins (He.ga K r.nm) dx fs) := by
  cases h with
  | one h _ _ => obtain ⟨dx, h⟩ := h; exact ⟨by simp only [Rw.nm]; decide, _, _, _, rfl, h⟩
  | some h _ _ => obtain ⟨dx, h⟩ := h; exact ⟨by simp only [Rw.nm]; decide, _, _, _, rfl, h⟩
  | number h _ => obtain ⟨dx, h⟩ := h; exact ⟨by simp only [Rw.nm]; decide, _, _, _, rfl, h⟩
  | check h _ _ => obtain ⟨dx, h⟩ := h; exact ⟨by simp only [Rw.nm]; decide, _, _, _, rfl, h⟩
  | sect h _ _ _ => obtain ⟨dx, h⟩ := h; exact ⟨by simp only [Rw.nm]; decide, _, _, _, rfl, h⟩
  | rounds h _ _ _ => obtain ⟨dx, h⟩ := h; exact ⟨by simp only [Rw.nm]; decide, _, _, _, rfl, h⟩
theorem isiOC (T : Tx K mg) {c : Cd} {v : V} {y : Str} {Q : VK} (h : CO K H v c) (hy : y ∈ cndN) (q : Q (.bl (c.nm == y)) H) : rIsi K [v, .ref (He.ga K y)] H Q :=
  ⟨_, _, _, _, _, rfl, .own _, (T.tyC h).2, ((T.oe cg hy).2 _ (T.tyC h).1).2, q⟩
theorem isiOR (T : Tx K mg) {c : Rw} {v : V} {y : Str} {Q : VK} (h : RO K H v c) (hy : y ∈ rowN) (q : Q (.bl (c.nm == y)) H) : rIsi K [v, .ref (He.ga K y)] H Q :=
  ⟨_, _, _, _, _, rfl, .own _, (T.tyR h).2, ((T.oe rg hy).2 _ (T.tyR h).1).2, q⟩
theorem isiNon (T : Tx K mg) {g : List Str} {y : Str} {Q : VK} (hg : g ∈ eqG) (hy : y ∈ g) (q : Q (.bl false) H) : rIsi K [.non, .ref (He.ga K y)] H Q :=
  ⟨_, _, _, _, _, rfl, .own _, .base .non, (T.one hg hy).kn, q⟩
theorem isiInt (T : Tx K mg) {g : List Str} {y : Str} {i : Int} {Q : VK} (hg : g ∈ eqG) (hy : y ∈ g) (q : Q (.bl false) H) : rIsi K [.int i, .ref (He.ga K y)] H Q :=
  ⟨_, _, _, _, _, rfl, .own _, .base (.int i), (T.one hg hy).ki, q⟩
theorem co_nm (T : Tx K mg) {c d : Cd} {v : V} (h : CO K H v c) (k : CO K H v d) : c.nm = d.nm := by
  obtain ⟨m1, a, dx, fs, e1, h1⟩ := co_at h
  obtain ⟨m2, b, dy, gs, e2, h2⟩ := co_at k
  rw [e1] at e2
  cases e2
  exact T.gaI cg m1 m2 (HO.ins.inj (Option.some.inj (h1.symm.trans h2))).1
theorem ins_fs {a : Addr} {x y : Str} {fs gs : List (Str × V)} (h : Ins K H a x fs) (k : Ins K H a y gs) : fs = gs := by
  obtain ⟨dx, h⟩ := h
  obtain ⟨dy, k⟩ := k
  exact (HO.ins.inj (Option.some.inj (h.symm.trans k))).2.2
/-- what stands at an address is one condition -/
theorem co_uniq (T : Tx K mg) : ∀ {c d : Cd} {v : V}, CO K H v c → CO K H v d → c = d := by
  intro c
  induction c with
  | no c ih =>
    intro d v h k
    have e := co_nm T h k
    cases h with
    | no h1 h2 =>
      cases k with
      | no k1 k2 =>
        have z := ins_fs h1 k1
        simp at z
        subst z
        rw [ih h2 k2]
      | _ => simp only [Cd.nm] at e; exact absurd e (by decide)
  | both c1 c2 ih1 ih2 =>
    intro d v h k
    have e := co_nm T h k
    cases h with
    | both h1 h2 h3 =>
      cases k with
      | both k1 k2 k3 =>
        have z := ins_fs h1 k1
        simp at z
        obtain ⟨z1, z2⟩ := z
        subst z1
        subst z2
        rw [ih1 h2 k2, ih2 h3 k3]
      | _ => simp only [Cd.nm] at e; exact absurd e (by decide)
  | either c1 c2 ih1 ih2 =>
    intro d v h k
    have e := co_nm T h k
    cases h with
    | either h1 h2 h3 =>
      cases k with
      | either k1 k2 k3 =>
        have z := ins_fs h1 k1
        simp at z
        obtain ⟨z1, z2⟩ := z
        subst z1
        subst z2
        rw [ih1 h2 k2, ih2 h3 k3]
      | _ => simp only [Cd.nm] at e; exact absurd e (by decide)
  | is n1 o1 =>
    intro d v h k
    have e := co_nm T h k
    cases h with
    | is h1 =>
      cases k with
      | is k1 =>
        have z := ins_fs h1 k1
        simp at z
        rw [z.1, z.2]
      | _ => simp only [Cd.nm] at e; exact absurd e (by decide)
  | has n1 o1 =>
    intro d v h k
    have e := co_nm T h k
    cases h with
    | has h1 =>
      cases k with
      | has k1 =>
        have z := ins_fs h1 k1
        simp at z
        rw [z.1, z.2]
      | _ => simp only [Cd.nm] at e; exact absurd e (by decide)
  | over n1 o1 =>
    intro d v h k
    have e := co_nm T h k
    cases h with
    | over h1 =>
      cases k with
      | over k1 =>
        have z := ins_fs h1 k1
        simp at z
        rw [z.1, z.2]
      | _ => simp only [Cd.nm] at e; exact absurd e (by decide)
  | under n1 o1 =>
    intro d v h k
    have e := co_nm T h k
    cases h with
    | under h1 =>
      cases k with
      | under k1 =>
        have z := ins_fs h1 k1
        simp at z
        rw [z.1, z.2]
      | _ => simp only [Cd.nm] at e; exact absurd e (by decide)
theorem wo_uniq (T : Tx K mg) {c d : Option Cd} {v : V} (h : WO K H v c) (k : WO K H v d) : c = d := by
  cases h with
  | none =>
    cases k with
    | none => rfl
    | some k => obtain ⟨_, _, _, _, e, _⟩ := co_at k; cases e
  | some h =>
    cases k with
    | none => obtain ⟨_, _, _, _, e, _⟩ := co_at h; cases e
    | some k => rw [co_uniq T h k]
end
/-- the own == of the class x, for all callers -/
structure EqM (P : Program) (w : World) (K : PySem.W.Frag) (mg : Str → Option Value) (base : Heap) (k : Nat) (x : Str) (R : Addr → V → Bool → Hp → Prop) : Prop where
  ex : ∃ f fd, FnOk P w K mg base (L2.CX P w) k f fd ["self", "other"] (spEqB R) ∧ Meth K (He.ga K x) "__eq__" f ∧ Binds K fd ["self", "other"] []
theorem EqM.own {X : Cx} {k : Nat} {x : Str} {R : Addr → V → Bool → Hp → Prop} (h : EqM X.prog X.w X.K X.mg X.base k x R) (T : Tx X.K X.mg) {g : List Str} (hg : g ∈ eqG) (hx : x ∈ g) : OwnE X k (He.ga X.K x) R := by
  obtain ⟨f, fd, F, m, b⟩ := h.ex
  have o := T.one hg hx
  obtain ⟨_, k2⟩ := Bool.and_eq_true_iff.mp (show (eqB _ _ && eqB _ _) = true from o.kc)
  exact own_of F m b passL (eqB_ok k2) o.non o.ne
def RC (K : PySem.W.Frag) (n : Nat) (x : Str) : Addr → V → Bool → Hp → Prop := fun a y b H => ∃ c o, CO K H (.ref a) c ∧ c.nm = x ∧ c.dep < n ∧ WO K H y o ∧ (b = true ↔ some c = o)
def DCo (K : PySem.W.Frag) (n : Nat) : Eqb := fun x y b H => ∃ c o, CO K H x c ∧ c.dep < n ∧ WO K H y o ∧ (b = true ↔ some c = o)
theorem mon_co {K : PySem.W.Frag} {n : Nat} : MonB (DCo K n) := fun x y b H H' e ⟨c, o, h1, h2, h3, h4⟩ => ⟨c, o, h1.same e, h2, h3.same e, h4⟩
theorem wo_oth {X : Cx} (T : Tx X.K X.mg) {H : Hp} {x : Str} {y : V} {o : Option Cd} (hx : x ∈ cndN) (h : WO X.K H y o) : OthT X.K (He.ga X.K x) H y := by
  cases h with
  | none => trivial
  | some h =>
    obtain ⟨m, a, dx, fs, rfl, ha⟩ := co_at h
    exact ⟨_, dx, fs, ha, by rw [T.gaB cg hx m]; exact ((T.oe cg hx).2 _ m).1⟩
theorem rcC {X : Cx} (T : Tx X.K X.mg) {k n : Nat} (O : ∀ x ∈ cndN, EqM X.prog X.w X.K X.mg X.base k x (RC X.K n x)) : RcT X k .Eq (DCo X.K n) := by
  intro A pins s σ H x y b u v sb I rx ry d
  obtain ⟨c, o, hc, hd, ho, hb⟩ := d
  obtain ⟨m, a, dx, fs, rfl, ha⟩ := co_at hc
  exact rcT_ins ((O _ m).own T cg m) A pins s σ H _ y b u v sb I rx ry ⟨a, dx, fs, rfl, ha, wo_oth T m ho, c, o, hc, rfl, hd, ho, hb⟩
section
variable {P : Program} {w : World} {K : PySem.W.Frag} {mg : Str → Option Value} {base : Heap}
theorem sc_Is_eq : FnScope ["self", "other"] ["self", "other"] (defScope s_Is_eq) := ⟨rfl, rfl, rfl, by decide +kernel, rfl, by decide +kernel, by decide +kernel⟩
theorem eq_Is (T : Tx K mg) (n : Nat) (O : ∀ x ∈ cndN, EqM P w K mg base (n + 1) x (RC K n x)) : EqM P w K mg base (n + 2) "Is" (RC K (n + 1) "Is") := by
  obtain ⟨fd, F⟩ := T.f_Is_eq
  refine ⟨⟨_, fd, F.ok (k := n + 1) sc_Is_eq (fun vs H Q E h => ?_) (fun cdv A outer s_ H vs Q E hr h => ?_), T.m_Is_eq, F.bindsN fun _ _ _ _ _ _ us hl => match us, hl with | [_, _], _ => rfl⟩⟩
  · obtain ⟨a, y, b, rfl, _⟩ := h
    rfl
  obtain ⟨a, y, b, rfl, ⟨c, o, hc, hn, hd, ho, hb⟩, q⟩ := h
  have q' : ∀ (k : Bool) (H' : Hp), (k = true ↔ some c = o) → Ext H H' → Q (.bl k) H' := fun k H' hk e => by
    have : k = b := by rw [Bool.eq_iff_iff, hk, hb]
    rw [this]
    exact q H' e
  refine ⟨_, pss_one (ps_ret (pe_and (pe_callB call_isi (by rfl) T.z_isinstance (by decide +kernel) (pa_cons (pv 1) (pa_cons (pe_gref T.g_Is) pa_nil))) (pe_and (pe_cmpR op_eq (pe_fld (pv 0) rfl) (pe_fld (pv 1) rfl) rfl) (pe_one (pe_cmpR op_eq (pe_fld (pv 0) rfl) (pe_fld (pv 1) rfl) rfl))))), ?_⟩
  walk_at "go"
  cases hc with
  | @is a n1 o1 hi =>
    obtain ⟨dx, hi⟩ := hi
    cases ho with
    | none => exact isiNon T (g := cndN) (by decide) (by decide) ⟨_, rfl, q' false H (by simp) Ext.rfl'⟩
    | some ho =>
      refine isiOC T ho (by decide) ?_
      cases ho with
      | @is a2 n2 o2 hj =>
        obtain ⟨dy, hj⟩ := hj
        refine ⟨_, rfl, ?_⟩
        show if true = true then _ else _
        rw [if_pos rfl]
        walk_at "go"
        refine ⟨_, _, dx, _, _, rfl, hi, T.cl_Is, T.n_Is_name, rfl, ?_⟩
        walk_at "go"
        refine ⟨_, _, dy, _, _, rfl, hj, T.cl_Is, T.n_Is_name, rfl, ?_⟩
        refine ⟨rfl, ?_⟩
        by_cases e0 : n1 = n2
        rotate_left
        · rw [show decide (V.str n1 = V.str n2) = false from decide_eq_false fun z => e0 (V.str.inj z)]
          refine ⟨_, rfl, ?_⟩
          exact q' false H (by simp [e0]) (Ext.rfl')
        rw [show decide (V.str n1 = V.str n2) = true from decide_eq_true (congrArg V.str e0)]
        refine ⟨_, rfl, ?_⟩
        rw [if_pos rfl]
        walk_at "go"
        refine ⟨_, _, dx, _, _, rfl, hi, T.cl_Is, T.n_Is_option, rfl, ?_⟩
        walk_at "go"
        refine ⟨_, _, dy, _, _, rfl, hj, T.cl_Is, T.n_Is_option, rfl, ?_⟩
        refine ⟨rfl, ?_⟩
        by_cases e1 : o1 = o2
        rotate_left
        · rw [show decide (V.str o1 = V.str o2) = false from decide_eq_false fun z => e1 (V.str.inj z)]
          exact q' false H (by simp [e0, e1]) (Ext.rfl')
        rw [show decide (V.str o1 = V.str o2) = true from decide_eq_true (congrArg V.str e1)]
        exact q' true H (by simp [e0, e1]) (Ext.rfl')
      | _ => exact ⟨_, rfl, q' false H (by simp) Ext.rfl'⟩
  | _ => simp only [Cd.nm] at hn; exact absurd hn (by decide)

theorem sc_Has_eq : FnScope ["self", "other"] ["self", "other"] (defScope s_Has_eq) := ⟨rfl, rfl, rfl, by decide +kernel, rfl, by decide +kernel, by decide +kernel⟩
theorem eq_Has (T : Tx K mg) (n : Nat) (O : ∀ x ∈ cndN, EqM P w K mg base (n + 1) x (RC K n x)) : EqM P w K mg base (n + 2) "Has" (RC K (n + 1) "Has") := by
  obtain ⟨fd, F⟩ := T.f_Has_eq
  refine ⟨⟨_, fd, F.ok (k := n + 1) sc_Has_eq (fun vs H Q E h => ?_) (fun cdv A outer s_ H vs Q E hr h => ?_), T.m_Has_eq, F.bindsN fun _ _ _ _ _ _ us hl => match us, hl with | [_, _], _ => rfl⟩⟩
  · obtain ⟨a, y, b, rfl, _⟩ := h
    rfl
  obtain ⟨a, y, b, rfl, ⟨c, o, hc, hn, hd, ho, hb⟩, q⟩ := h
  have q' : ∀ (k : Bool) (H' : Hp), (k = true ↔ some c = o) → Ext H H' → Q (.bl k) H' := fun k H' hk e => by
    have : k = b := by rw [Bool.eq_iff_iff, hk, hb]
    rw [this]
    exact q H' e
  refine ⟨_, pss_one (ps_ret (pe_and (pe_callB call_isi (by rfl) T.z_isinstance (by decide +kernel) (pa_cons (pv 1) (pa_cons (pe_gref T.g_Has) pa_nil))) (pe_and (pe_cmpR op_eq (pe_fld (pv 0) rfl) (pe_fld (pv 1) rfl) rfl) (pe_one (pe_cmpR op_eq (pe_fld (pv 0) rfl) (pe_fld (pv 1) rfl) rfl))))), ?_⟩
  walk_at "go"
  cases hc with
  | @has a n1 o1 hi =>
    obtain ⟨dx, hi⟩ := hi
    cases ho with
    | none => exact isiNon T (g := cndN) (by decide) (by decide) ⟨_, rfl, q' false H (by simp) Ext.rfl'⟩
    | some ho =>
      refine isiOC T ho (by decide) ?_
      cases ho with
      | @has a2 n2 o2 hj =>
        obtain ⟨dy, hj⟩ := hj
        refine ⟨_, rfl, ?_⟩
        show if true = true then _ else _
        rw [if_pos rfl]
        walk_at "go"
        refine ⟨_, _, dx, _, _, rfl, hi, T.cl_Has, T.n_Has_name, rfl, ?_⟩
        walk_at "go"
        refine ⟨_, _, dy, _, _, rfl, hj, T.cl_Has, T.n_Has_name, rfl, ?_⟩
        refine ⟨rfl, ?_⟩
        by_cases e0 : n1 = n2
        rotate_left
        · rw [show decide (V.str n1 = V.str n2) = false from decide_eq_false fun z => e0 (V.str.inj z)]
          refine ⟨_, rfl, ?_⟩
          exact q' false H (by simp [e0]) (Ext.rfl')
        rw [show decide (V.str n1 = V.str n2) = true from decide_eq_true (congrArg V.str e0)]
        refine ⟨_, rfl, ?_⟩
        rw [if_pos rfl]
        walk_at "go"
        refine ⟨_, _, dx, _, _, rfl, hi, T.cl_Has, T.n_Has_option, rfl, ?_⟩
        walk_at "go"
        refine ⟨_, _, dy, _, _, rfl, hj, T.cl_Has, T.n_Has_option, rfl, ?_⟩
        refine ⟨rfl, ?_⟩
        by_cases e1 : o1 = o2
        rotate_left
        · rw [show decide (V.str o1 = V.str o2) = false from decide_eq_false fun z => e1 (V.str.inj z)]
          exact q' false H (by simp [e0, e1]) (Ext.rfl')
        rw [show decide (V.str o1 = V.str o2) = true from decide_eq_true (congrArg V.str e1)]
        exact q' true H (by simp [e0, e1]) (Ext.rfl')
      | _ => exact ⟨_, rfl, q' false H (by simp) Ext.rfl'⟩
  | _ => simp only [Cd.nm] at hn; exact absurd hn (by decide)

theorem sc_Above_eq : FnScope ["self", "other"] ["self", "other"] (defScope s_Above_eq) := ⟨rfl, rfl, rfl, by decide +kernel, rfl, by decide +kernel, by decide +kernel⟩
theorem eq_Above (T : Tx K mg) (n : Nat) (O : ∀ x ∈ cndN, EqM P w K mg base (n + 1) x (RC K n x)) : EqM P w K mg base (n + 2) "Above" (RC K (n + 1) "Above") := by
  obtain ⟨fd, F⟩ := T.f_Above_eq
  refine ⟨⟨_, fd, F.ok (k := n + 1) sc_Above_eq (fun vs H Q E h => ?_) (fun cdv A outer s_ H vs Q E hr h => ?_), T.m_Above_eq, F.bindsN fun _ _ _ _ _ _ us hl => match us, hl with | [_, _], _ => rfl⟩⟩
  · obtain ⟨a, y, b, rfl, _⟩ := h
    rfl
  obtain ⟨a, y, b, rfl, ⟨c, o, hc, hn, hd, ho, hb⟩, q⟩ := h
  have q' : ∀ (k : Bool) (H' : Hp), (k = true ↔ some c = o) → Ext H H' → Q (.bl k) H' := fun k H' hk e => by
    have : k = b := by rw [Bool.eq_iff_iff, hk, hb]
    rw [this]
    exact q H' e
  refine ⟨_, pss_one (ps_ret (pe_and (pe_callB call_isi (by rfl) T.z_isinstance (by decide +kernel) (pa_cons (pv 1) (pa_cons (pe_gref T.g_Above) pa_nil))) (pe_and (pe_cmpR op_eq (pe_fld (pv 0) rfl) (pe_fld (pv 1) rfl) rfl) (pe_one (pe_cmpR op_eq (pe_fld (pv 0) rfl) (pe_fld (pv 1) rfl) rfl))))), ?_⟩
  walk_at "go"
  cases hc with
  | @over a n1 o1 hi =>
    obtain ⟨dx, hi⟩ := hi
    cases ho with
    | none => exact isiNon T (g := cndN) (by decide) (by decide) ⟨_, rfl, q' false H (by simp) Ext.rfl'⟩
    | some ho =>
      refine isiOC T ho (by decide) ?_
      cases ho with
      | @over a2 n2 o2 hj =>
        obtain ⟨dy, hj⟩ := hj
        refine ⟨_, rfl, ?_⟩
        show if true = true then _ else _
        rw [if_pos rfl]
        walk_at "go"
        refine ⟨_, _, dx, _, _, rfl, hi, T.cl_Above, T.n_Above_name, rfl, ?_⟩
        walk_at "go"
        refine ⟨_, _, dy, _, _, rfl, hj, T.cl_Above, T.n_Above_name, rfl, ?_⟩
        refine ⟨rfl, ?_⟩
        by_cases e0 : n1 = n2
        rotate_left
        · rw [show decide (V.str n1 = V.str n2) = false from decide_eq_false fun z => e0 (V.str.inj z)]
          refine ⟨_, rfl, ?_⟩
          exact q' false H (by simp [e0]) (Ext.rfl')
        rw [show decide (V.str n1 = V.str n2) = true from decide_eq_true (congrArg V.str e0)]
        refine ⟨_, rfl, ?_⟩
        rw [if_pos rfl]
        walk_at "go"
        refine ⟨_, _, dx, _, _, rfl, hi, T.cl_Above, T.n_Above_number, rfl, ?_⟩
        walk_at "go"
        refine ⟨_, _, dy, _, _, rfl, hj, T.cl_Above, T.n_Above_number, rfl, ?_⟩
        refine ⟨rfl, ?_⟩
        by_cases e1 : o1 = o2
        rotate_left
        · rw [show decide (V.int o1 = V.int o2) = false from decide_eq_false fun z => e1 (V.int.inj z)]
          exact q' false H (by simp [e0, e1]) (Ext.rfl')
        rw [show decide (V.int o1 = V.int o2) = true from decide_eq_true (congrArg V.int e1)]
        exact q' true H (by simp [e0, e1]) (Ext.rfl')
      | _ => exact ⟨_, rfl, q' false H (by simp) Ext.rfl'⟩
  | _ => simp only [Cd.nm] at hn; exact absurd hn (by decide)

theorem sc_Below_eq : FnScope ["self", "other"] ["self", "other"] (defScope s_Below_eq) := ⟨rfl, rfl, rfl, by decide +kernel, rfl, by decide +kernel, by decide +kernel⟩
theorem eq_Below (T : Tx K mg) (n : Nat) (O : ∀ x ∈ cndN, EqM P w K mg base (n + 1) x (RC K n x)) : EqM P w K mg base (n + 2) "Below" (RC K (n + 1) "Below") := by
  obtain ⟨fd, F⟩ := T.f_Below_eq
  refine ⟨⟨_, fd, F.ok (k := n + 1) sc_Below_eq (fun vs H Q E h => ?_) (fun cdv A outer s_ H vs Q E hr h => ?_), T.m_Below_eq, F.bindsN fun _ _ _ _ _ _ us hl => match us, hl with | [_, _], _ => rfl⟩⟩
  · obtain ⟨a, y, b, rfl, _⟩ := h
    rfl
  obtain ⟨a, y, b, rfl, ⟨c, o, hc, hn, hd, ho, hb⟩, q⟩ := h
  have q' : ∀ (k : Bool) (H' : Hp), (k = true ↔ some c = o) → Ext H H' → Q (.bl k) H' := fun k H' hk e => by
    have : k = b := by rw [Bool.eq_iff_iff, hk, hb]
    rw [this]
    exact q H' e
  refine ⟨_, pss_one (ps_ret (pe_and (pe_callB call_isi (by rfl) T.z_isinstance (by decide +kernel) (pa_cons (pv 1) (pa_cons (pe_gref T.g_Below) pa_nil))) (pe_and (pe_cmpR op_eq (pe_fld (pv 0) rfl) (pe_fld (pv 1) rfl) rfl) (pe_one (pe_cmpR op_eq (pe_fld (pv 0) rfl) (pe_fld (pv 1) rfl) rfl))))), ?_⟩
  walk_at "go"
  cases hc with
  | @under a n1 o1 hi =>
    obtain ⟨dx, hi⟩ := hi
    cases ho with
    | none => exact isiNon T (g := cndN) (by decide) (by decide) ⟨_, rfl, q' false H (by simp) Ext.rfl'⟩
    | some ho =>
      refine isiOC T ho (by decide) ?_
      cases ho with
      | @under a2 n2 o2 hj =>
        obtain ⟨dy, hj⟩ := hj
        refine ⟨_, rfl, ?_⟩
        show if true = true then _ else _
        rw [if_pos rfl]
        walk_at "go"
        refine ⟨_, _, dx, _, _, rfl, hi, T.cl_Below, T.n_Below_name, rfl, ?_⟩
        walk_at "go"
        refine ⟨_, _, dy, _, _, rfl, hj, T.cl_Below, T.n_Below_name, rfl, ?_⟩
        refine ⟨rfl, ?_⟩
        by_cases e0 : n1 = n2
        rotate_left
        · rw [show decide (V.str n1 = V.str n2) = false from decide_eq_false fun z => e0 (V.str.inj z)]
          refine ⟨_, rfl, ?_⟩
          exact q' false H (by simp [e0]) (Ext.rfl')
        rw [show decide (V.str n1 = V.str n2) = true from decide_eq_true (congrArg V.str e0)]
        refine ⟨_, rfl, ?_⟩
        rw [if_pos rfl]
        walk_at "go"
        refine ⟨_, _, dx, _, _, rfl, hi, T.cl_Below, T.n_Below_number, rfl, ?_⟩
        walk_at "go"
        refine ⟨_, _, dy, _, _, rfl, hj, T.cl_Below, T.n_Below_number, rfl, ?_⟩
        refine ⟨rfl, ?_⟩
        by_cases e1 : o1 = o2
        rotate_left
        · rw [show decide (V.int o1 = V.int o2) = false from decide_eq_false fun z => e1 (V.int.inj z)]
          exact q' false H (by simp [e0, e1]) (Ext.rfl')
        rw [show decide (V.int o1 = V.int o2) = true from decide_eq_true (congrArg V.int e1)]
        exact q' true H (by simp [e0, e1]) (Ext.rfl')
      | _ => exact ⟨_, rfl, q' false H (by simp) Ext.rfl'⟩
  | _ => simp only [Cd.nm] at hn; exact absurd hn (by decide)

theorem sc_Not_eq : FnScope ["self", "other"] ["self", "other"] (defScope s_Not_eq) := ⟨rfl, rfl, rfl, by decide +kernel, rfl, by decide +kernel, by decide +kernel⟩
theorem eq_Not (T : Tx K mg) (n : Nat) (O : ∀ x ∈ cndN, EqM P w K mg base (n + 1) x (RC K n x)) : EqM P w K mg base (n + 2) "Not" (RC K (n + 1) "Not") := by
  obtain ⟨fd, F⟩ := T.f_Not_eq
  refine ⟨⟨_, fd, F.ok (k := n + 1) sc_Not_eq (fun vs H Q E h => ?_) (fun cdv A outer s_ H vs Q E hr h => ?_), T.m_Not_eq, F.bindsN fun _ _ _ _ _ _ us hl => match us, hl with | [_, _], _ => rfl⟩⟩
  · obtain ⟨a, y, b, rfl, _⟩ := h
    rfl
  obtain ⟨a, y, b, rfl, ⟨c, o, hc, hn, hd, ho, hb⟩, q⟩ := h
  have q' : ∀ (k : Bool) (H' : Hp), (k = true ↔ some c = o) → Ext H H' → Q (.bl k) H' := fun k H' hk e => by
    have : k = b := by rw [Bool.eq_iff_iff, hk, hb]
    rw [this]
    exact q H' e
  refine ⟨_, pss_one (ps_ret (pe_and (pe_callB call_isi (by rfl) T.z_isinstance (by decide +kernel) (pa_cons (pv 1) (pa_cons (pe_gref T.g_Not) pa_nil))) (pe_one (pe_cmpR (op_own (rcC T O) hr) (pe_fld (pv 0) rfl) (pe_fld (pv 1) rfl) rfl)))), ?_⟩
  walk_at "go"
  cases hc with
  | @no a v1 c1 hi h1 =>
    obtain ⟨dx, hi⟩ := hi
    cases ho with
    | none => exact isiNon T (g := cndN) (by decide) (by decide) ⟨_, rfl, q' false H (by simp) Ext.rfl'⟩
    | some ho =>
      refine isiOC T ho (by decide) ?_
      cases ho with
      | @no a2 v2 c2 hj h2 =>
        obtain ⟨dy, hj⟩ := hj
        refine ⟨_, rfl, ?_⟩
        show if true = true then _ else _
        rw [if_pos rfl]
        walk_at "go"
        refine ⟨_, _, dx, _, _, rfl, hi, T.cl_Not, T.n_Not_inner, rfl, ?_⟩
        walk_at "go"
        refine ⟨_, _, dy, _, _, rfl, hj, T.cl_Not, T.n_Not_inner, rfl, ?_⟩
        obtain ⟨b0, hb0⟩ := ex_bool (some c1 = some c2)
        refine ⟨b0, ⟨c1, some c2, (h1.same (Ext.rfl')), by show c1.dep < n; simp only [Cd.dep] at hd; omega, .some (h2.same (Ext.rfl')), hb0⟩, fun H1 x1 => ?_⟩
        cases hb0v : b0
        · have e0 : ¬ c1 = c2 := fun z => by rw [hb0v] at hb0; exact Bool.false_ne_true (hb0.mpr (congrArg some z))
          exact q' false H1 (by simp [e0]) (x1)
        have e0 : c1 = c2 := Option.some.inj (hb0.mp hb0v)
        exact q' true H1 (by simp [e0]) (x1)
      | _ => exact ⟨_, rfl, q' false H (by simp) Ext.rfl'⟩
  | _ => simp only [Cd.nm] at hn; exact absurd hn (by decide)

theorem sc_Both_eq : FnScope ["self", "other"] ["self", "other"] (defScope s_Both_eq) := ⟨rfl, rfl, rfl, by decide +kernel, rfl, by decide +kernel, by decide +kernel⟩
theorem eq_Both (T : Tx K mg) (n : Nat) (O : ∀ x ∈ cndN, EqM P w K mg base (n + 1) x (RC K n x)) : EqM P w K mg base (n + 2) "Both" (RC K (n + 1) "Both") := by
  obtain ⟨fd, F⟩ := T.f_Both_eq
  refine ⟨⟨_, fd, F.ok (k := n + 1) sc_Both_eq (fun vs H Q E h => ?_) (fun cdv A outer s_ H vs Q E hr h => ?_), T.m_Both_eq, F.bindsN fun _ _ _ _ _ _ us hl => match us, hl with | [_, _], _ => rfl⟩⟩
  · obtain ⟨a, y, b, rfl, _⟩ := h
    rfl
  obtain ⟨a, y, b, rfl, ⟨c, o, hc, hn, hd, ho, hb⟩, q⟩ := h
  have q' : ∀ (k : Bool) (H' : Hp), (k = true ↔ some c = o) → Ext H H' → Q (.bl k) H' := fun k H' hk e => by
    have : k = b := by rw [Bool.eq_iff_iff, hk, hb]
    rw [this]
    exact q H' e
  refine ⟨_, pss_one (ps_ret (pe_and (pe_callB call_isi (by rfl) T.z_isinstance (by decide +kernel) (pa_cons (pv 1) (pa_cons (pe_gref T.g_Both) pa_nil))) (pe_and (pe_cmpR (op_own (rcC T O) hr) (pe_fld (pv 0) rfl) (pe_fld (pv 1) rfl) rfl) (pe_one (pe_cmpR (op_own (rcC T O) hr) (pe_fld (pv 0) rfl) (pe_fld (pv 1) rfl) rfl))))), ?_⟩
  walk_at "go"
  cases hc with
  | @both a v1 u1 c1 d1 hi h1 k1 =>
    obtain ⟨dx, hi⟩ := hi
    cases ho with
    | none => exact isiNon T (g := cndN) (by decide) (by decide) ⟨_, rfl, q' false H (by simp) Ext.rfl'⟩
    | some ho =>
      refine isiOC T ho (by decide) ?_
      cases ho with
      | @both a2 v2 u2 c2 d2 hj h2 k2 =>
        obtain ⟨dy, hj⟩ := hj
        refine ⟨_, rfl, ?_⟩
        show if true = true then _ else _
        rw [if_pos rfl]
        walk_at "go"
        refine ⟨_, _, dx, _, _, rfl, hi, T.cl_Both, T.n_Both_left, rfl, ?_⟩
        walk_at "go"
        refine ⟨_, _, dy, _, _, rfl, hj, T.cl_Both, T.n_Both_left, rfl, ?_⟩
        obtain ⟨b0, hb0⟩ := ex_bool (some c1 = some c2)
        refine ⟨b0, ⟨c1, some c2, (h1.same (Ext.rfl')), by show c1.dep < n; simp only [Cd.dep] at hd; omega, .some (h2.same (Ext.rfl')), hb0⟩, fun H1 x1 => ?_⟩
        cases hb0v : b0
        · have e0 : ¬ c1 = c2 := fun z => by rw [hb0v] at hb0; exact Bool.false_ne_true (hb0.mpr (congrArg some z))
          refine ⟨_, rfl, ?_⟩
          exact q' false H1 (by simp [e0]) (x1)
        have e0 : c1 = c2 := Option.some.inj (hb0.mp hb0v)
        refine ⟨_, rfl, ?_⟩
        rw [if_pos rfl]
        walk_at "go"
        refine ⟨_, _, dx, _, _, rfl, (x1) _ _ hi, T.cl_Both, T.n_Both_right, rfl, ?_⟩
        walk_at "go"
        refine ⟨_, _, dy, _, _, rfl, (x1) _ _ hj, T.cl_Both, T.n_Both_right, rfl, ?_⟩
        obtain ⟨b1, hb1⟩ := ex_bool (some d1 = some d2)
        refine ⟨b1, ⟨d1, some d2, (k1.same (x1)), by show d1.dep < n; simp only [Cd.dep] at hd; omega, .some (k2.same (x1)), hb1⟩, fun H2 x2 => ?_⟩
        cases hb1v : b1
        · have e1 : ¬ d1 = d2 := fun z => by rw [hb1v] at hb1; exact Bool.false_ne_true (hb1.mpr (congrArg some z))
          exact q' false H2 (by simp [e0, e1]) ((x1).trans x2)
        have e1 : d1 = d2 := Option.some.inj (hb1.mp hb1v)
        exact q' true H2 (by simp [e0, e1]) ((x1).trans x2)
      | _ => exact ⟨_, rfl, q' false H (by simp) Ext.rfl'⟩
  | _ => simp only [Cd.nm] at hn; exact absurd hn (by decide)

theorem sc_Either_eq : FnScope ["self", "other"] ["self", "other"] (defScope s_Either_eq) := ⟨rfl, rfl, rfl, by decide +kernel, rfl, by decide +kernel, by decide +kernel⟩
theorem eq_Either (T : Tx K mg) (n : Nat) (O : ∀ x ∈ cndN, EqM P w K mg base (n + 1) x (RC K n x)) : EqM P w K mg base (n + 2) "Either" (RC K (n + 1) "Either") := by
  obtain ⟨fd, F⟩ := T.f_Either_eq
  refine ⟨⟨_, fd, F.ok (k := n + 1) sc_Either_eq (fun vs H Q E h => ?_) (fun cdv A outer s_ H vs Q E hr h => ?_), T.m_Either_eq, F.bindsN fun _ _ _ _ _ _ us hl => match us, hl with | [_, _], _ => rfl⟩⟩
  · obtain ⟨a, y, b, rfl, _⟩ := h
    rfl
  obtain ⟨a, y, b, rfl, ⟨c, o, hc, hn, hd, ho, hb⟩, q⟩ := h
  have q' : ∀ (k : Bool) (H' : Hp), (k = true ↔ some c = o) → Ext H H' → Q (.bl k) H' := fun k H' hk e => by
    have : k = b := by rw [Bool.eq_iff_iff, hk, hb]
    rw [this]
    exact q H' e
  refine ⟨_, pss_one (ps_ret (pe_and (pe_callB call_isi (by rfl) T.z_isinstance (by decide +kernel) (pa_cons (pv 1) (pa_cons (pe_gref T.g_Either) pa_nil))) (pe_and (pe_cmpR (op_own (rcC T O) hr) (pe_fld (pv 0) rfl) (pe_fld (pv 1) rfl) rfl) (pe_one (pe_cmpR (op_own (rcC T O) hr) (pe_fld (pv 0) rfl) (pe_fld (pv 1) rfl) rfl))))), ?_⟩
  walk_at "go"
  cases hc with
  | @either a v1 u1 c1 d1 hi h1 k1 =>
    obtain ⟨dx, hi⟩ := hi
    cases ho with
    | none => exact isiNon T (g := cndN) (by decide) (by decide) ⟨_, rfl, q' false H (by simp) Ext.rfl'⟩
    | some ho =>
      refine isiOC T ho (by decide) ?_
      cases ho with
      | @either a2 v2 u2 c2 d2 hj h2 k2 =>
        obtain ⟨dy, hj⟩ := hj
        refine ⟨_, rfl, ?_⟩
        show if true = true then _ else _
        rw [if_pos rfl]
        walk_at "go"
        refine ⟨_, _, dx, _, _, rfl, hi, T.cl_Either, T.n_Either_left, rfl, ?_⟩
        walk_at "go"
        refine ⟨_, _, dy, _, _, rfl, hj, T.cl_Either, T.n_Either_left, rfl, ?_⟩
        obtain ⟨b0, hb0⟩ := ex_bool (some c1 = some c2)
        refine ⟨b0, ⟨c1, some c2, (h1.same (Ext.rfl')), by show c1.dep < n; simp only [Cd.dep] at hd; omega, .some (h2.same (Ext.rfl')), hb0⟩, fun H1 x1 => ?_⟩
        cases hb0v : b0
        · have e0 : ¬ c1 = c2 := fun z => by rw [hb0v] at hb0; exact Bool.false_ne_true (hb0.mpr (congrArg some z))
          refine ⟨_, rfl, ?_⟩
          exact q' false H1 (by simp [e0]) (x1)
        have e0 : c1 = c2 := Option.some.inj (hb0.mp hb0v)
        refine ⟨_, rfl, ?_⟩
        rw [if_pos rfl]
        walk_at "go"
        refine ⟨_, _, dx, _, _, rfl, (x1) _ _ hi, T.cl_Either, T.n_Either_right, rfl, ?_⟩
        walk_at "go"
        refine ⟨_, _, dy, _, _, rfl, (x1) _ _ hj, T.cl_Either, T.n_Either_right, rfl, ?_⟩
        obtain ⟨b1, hb1⟩ := ex_bool (some d1 = some d2)
        refine ⟨b1, ⟨d1, some d2, (k1.same (x1)), by show d1.dep < n; simp only [Cd.dep] at hd; omega, .some (k2.same (x1)), hb1⟩, fun H2 x2 => ?_⟩
        cases hb1v : b1
        · have e1 : ¬ d1 = d2 := fun z => by rw [hb1v] at hb1; exact Bool.false_ne_true (hb1.mpr (congrArg some z))
          exact q' false H2 (by simp [e0, e1]) ((x1).trans x2)
        have e1 : d1 = d2 := Option.some.inj (hb1.mp hb1v)
        exact q' true H2 (by simp [e0, e1]) ((x1).trans x2)
      | _ => exact ⟨_, rfl, q' false H (by simp) Ext.rfl'⟩
  | _ => simp only [Cd.nm] at hn; exact absurd hn (by decide)

theorem eqC (T : Tx K mg) : ∀ n, ∀ x ∈ cndN, EqM P w K mg base (n + 1) x (RC K n x)
  | 0, x, hx => by
    have F : ∃ f fd, Meth K (He.ga K x) "__eq__" f ∧ Binds K fd ["self", "other"] [] := by
      simp only [cndN, List.mem_cons, List.not_mem_nil, or_false] at hx
      rcases hx with rfl | rfl | rfl | rfl | rfl | rfl | rfl
      · obtain ⟨fd, F⟩ := T.f_Is_eq
        exact ⟨_, fd, T.m_Is_eq, F.bindsN fun _ _ _ _ _ _ us hl => match us, hl with | [_, _], _ => rfl⟩
      · obtain ⟨fd, F⟩ := T.f_Has_eq
        exact ⟨_, fd, T.m_Has_eq, F.bindsN fun _ _ _ _ _ _ us hl => match us, hl with | [_, _], _ => rfl⟩
      · obtain ⟨fd, F⟩ := T.f_Above_eq
        exact ⟨_, fd, T.m_Above_eq, F.bindsN fun _ _ _ _ _ _ us hl => match us, hl with | [_, _], _ => rfl⟩
      · obtain ⟨fd, F⟩ := T.f_Below_eq
        exact ⟨_, fd, T.m_Below_eq, F.bindsN fun _ _ _ _ _ _ us hl => match us, hl with | [_, _], _ => rfl⟩
      · obtain ⟨fd, F⟩ := T.f_Not_eq
        exact ⟨_, fd, T.m_Not_eq, F.bindsN fun _ _ _ _ _ _ us hl => match us, hl with | [_, _], _ => rfl⟩
      · obtain ⟨fd, F⟩ := T.f_Both_eq
        exact ⟨_, fd, T.m_Both_eq, F.bindsN fun _ _ _ _ _ _ us hl => match us, hl with | [_, _], _ => rfl⟩
      · obtain ⟨fd, F⟩ := T.f_Either_eq
        exact ⟨_, fd, T.m_Either_eq, F.bindsN fun _ _ _ _ _ _ us hl => match us, hl with | [_, _], _ => rfl⟩
    obtain ⟨f, fd, m, b⟩ := F
    exact ⟨⟨f, fd, ok_none' fun vs H Q E ⟨_, _, _, _, ⟨_, _, _, _, h, _⟩, _⟩ => absurd h (Nat.not_lt_zero _), m, b⟩⟩
  | n + 1, x, hx => by
    have ih := eqC T n
    simp only [cndN, List.mem_cons, List.not_mem_nil, or_false] at hx
    rcases hx with rfl | rfl | rfl | rfl | rfl | rfl | rfl
    · exact eq_Is T n ih
    · exact eq_Has T n ih
    · exact eq_Above T n ih
    · exact eq_Below T n ih
    · exact eq_Not T n ih
    · exact eq_Both T n ih
    · exact eq_Either T n ih
end
end K3
end O1_part
section O2_part
set_option Elab.async false
set_option linter.all false
set_option maxRecDepth 100000
set_option maxHeartbeats 1000000
set_option pp.deepTerms true
open PySem PySem.Spec PyProof.Rows L2
/-- go on as far as nothing is open -/
local macro_rules | `(tactic| walk_at "go") => `(tactic| repeat (first
  | with_reducible refine w_seq ?_ | with_reducible refine w_next ?_ | with_reducible refine w_set ?_ | with_reducible refine w_drop ?_ | with_reducible refine w_ret ?_ | with_reducible refine w_retN ?_
  | with_reducible refine w_if ?_ | ((with_reducible refine' w_var ?hv ?_); (case hv => exact rfl)) | with_reducible refine w_c ?_ | with_reducible refine w_nil ?_ | with_reducible refine w_cons ?_ | with_reducible refine w_op ?_ | with_reducible refine w_un ?_
  | with_reducible refine w_test ?_ | with_reducible refine w_tB ?_ | with_reducible refine w_not ?_ | with_reducible refine w_and ?_ | with_reducible refine w_or ?_ | with_reducible refine w_bl ?_
  | with_reducible refine w_andV ?_ | with_reducible refine w_orV ?_ | with_reducible refine w_notV ?_ | with_reducible refine w_ifE ?_ | with_reducible refine w_chain ?_ | with_reducible refine w_i0 ?_
  | with_reducible refine w_call ?_ | with_reducible refine w_callS ?_ | with_reducible refine w_cB ?_ | with_reducible refine w_tup ?_ | with_reducible refine w_lst ?_ | with_reducible refine w_fldV ?_
  | with_reducible refine w_neF ?_ | with_reducible refine w_neT ?_ | with_reducible refine w_notN ?_ | with_reducible refine w_isN ?_ | with_reducible refine w_gname ?_ | with_reducible refine w_gsub ?_ | with_reducible refine w_asg ?_ | with_reducible refine w_sl ?_ | with_reducible refine w_noP ?_ | with_reducible refine w_int1 ?_ | with_reducible refine w_part ?_ | with_reducible refine w_meth ?_ | with_reducible refine w_din ?_ | with_reducible refine w_dnotin ?_ | with_reducible refine w_dgt ?_ | with_reducible refine w_dget1 ?_ | with_reducible refine w_dget2 ?_ | with_reducible refine w_dput ?_ | with_reducible refine w_yes ?_ | with_reducible refine w_nT ?_ | with_reducible refine w_nF ?_ | with_reducible refine w_iteT ?_ | with_reducible refine w_iteF ?_))
namespace K3
/-! ### == of rows -/
theorem strs_inj : ∀ {os us : List Str}, os.map V.str = us.map V.str → os = us
  | [], [], _ => rfl
  | [], _ :: _, h => nomatch h
  | _ :: _, [], h => nomatch h
  | o :: os, u :: us, h => by
    rw [List.map_cons, List.map_cons, List.cons.injEq] at h
    rw [V.str.inj h.1, strs_inj h.2]
section
variable {K : PySem.W.Frag} {mg : Str → Option Value} {H : Hp}
theorem ro_nm (T : Tx K mg) {c d : Rw} {v : V} (h : RO K H v c) (k : RO K H v d) : c.nm = d.nm := by
  obtain ⟨m1, a, dx, fs, e1, h1⟩ := ro_at h
  obtain ⟨m2, b, dy, gs, e2, h2⟩ := ro_at k
  rw [e1] at e2
  cases e2
  exact T.gaI rg m1 m2 (HO.ins.inj (Option.some.inj (h1.symm.trans h2))).1
end
mutual
theorem ro_uniq {X : Cx} {pins : List (Addr × Obj)} {σ : L2.St} {H : Hp} {s : Shared} (T : Tx X.K X.mg) (I : Inv X pins σ H s) : ∀ {r u : Rw} {v : V}, RO X.K H v r → RO X.K H v u → r = u
  | _, _, _, .one h t w, k => by
    have e := ro_nm T (.one h t w) k
    cases k with
    | one h' t' w' =>
      have z := ins_fs h h'
      simp at z
      obtain ⟨z1, z2, z3⟩ := z
      subst z2; subst z3
      rw [z1, strs_inj (I.tuple_inj t t'), wo_uniq T w w']
    | _ => simp only [Rw.nm] at e; exact absurd e (by decide)
  | _, _, _, .some h t w, k => by
    have e := ro_nm T (.some h t w) k
    cases k with
    | some h' t' w' =>
      have z := ins_fs h h'
      simp at z
      obtain ⟨z1, z2, z3⟩ := z
      subst z2; subst z3
      rw [z1, strs_inj (I.tuple_inj t t'), wo_uniq T w w']
    | _ => simp only [Rw.nm] at e; exact absurd e (by decide)
  | _, _, _, .number h w, k => by
    have e := ro_nm T (.number h w) k
    cases k with
    | number h' w' =>
      have z := ins_fs h h'
      simp at z
      obtain ⟨z1, z2, z3, z4⟩ := z
      subst z4
      rw [z1, z2, z3, wo_uniq T w w']
    | _ => simp only [Rw.nm] at e; exact absurd e (by decide)
  | _, _, _, .check h m w, k => by
    have e := ro_nm T (.check h m w) k
    cases k with
    | check h' m' w' =>
      have z := ins_fs h h'
      simp at z
      obtain ⟨z1, z2, z3⟩ := z
      subst z2; subst z3
      rw [z1, co_uniq T m m', wo_uniq T w w']
    | _ => simp only [Rw.nm] at e; exact absurd e (by decide)
  | _, _, _, .sect h t rs w, k => by
    have e := ro_nm T (.sect h t rs w) k
    cases k with
    | sect h' t' rs' w' =>
      have z := ins_fs h h'
      simp at z
      obtain ⟨z1, z2⟩ := z
      subst z1; subst z2
      have z3 := I.tuple_inj t t'
      subst z3
      rw [ros_uniq T I rs rs', wo_uniq T w w']
    | _ => simp only [Rw.nm] at e; exact absurd e (by decide)
  | _, _, _, .rounds h t rs w, k => by
    have e := ro_nm T (.rounds h t rs w) k
    cases k with
    | rounds h' t' rs' w' =>
      have z := ins_fs h h'
      simp at z
      obtain ⟨z1, z2, z3⟩ := z
      subst z2; subst z3
      have z4 := I.tuple_inj t t'
      subst z4
      rw [z1, ros_uniq T I rs rs', wo_uniq T w w']
    | _ => simp only [Rw.nm] at e; exact absurd e (by decide)
theorem ros_uniq {X : Cx} {pins : List (Addr × Obj)} {σ : L2.St} {H : Hp} {s : Shared} (T : Tx X.K X.mg) (I : Inv X pins σ H s) : ∀ {rs us : List Rw} {vs : List V}, ROs X.K H vs rs → ROs X.K H vs us → rs = us
  | _, _, _, .nil, .nil => rfl
  | _, _, _, .cons h t, .cons h' t' => by rw [ro_uniq T I h h', ros_uniq T I t t']
end
def RRw (K : PySem.W.Frag) (N m : Nat) (x : Str) : Addr → V → Bool → Hp → Prop := fun a y b H => ∃ r u, RO K H (.ref a) r ∧ r.nm = x ∧ RO K H y u ∧ r.cb N ∧ u.cb N ∧ r.dep < m ∧ (b = true ↔ r = u)
def DRo (K : PySem.W.Frag) (N m : Nat) : Eqb := fun x y b H => ∃ r u, RO K H x r ∧ RO K H y u ∧ r.cb N ∧ u.cb N ∧ r.dep < m ∧ (b = true ↔ r = u)
def DWo (K : PySem.W.Frag) (N : Nat) : Eqb := fun x y b H => ∃ o p, WO K H x o ∧ WO K H y p ∧ odep o < N ∧ odep p < N ∧ (b = true ↔ o = p)
def DFlatB : Eqb := fun x y b _ => flatV x = true ∧ flatV y = true ∧ eqV x y = b
theorem mon_flatB : MonB DFlatB := fun _ _ _ _ _ _ d => d
theorem eqT_flatB {X : Cx} : EqT X 0 DFlatB := by
  intro A pins s σ H x y b u v sb I rx ry ⟨fx, fy, e⟩
  have q := eqAt_V (A := A) (s := s) rx ry fx fy
  rw [e] at q
  exact q X.prog X.w X.xe _ ⟨rfl, H, I, Ext.rfl'⟩
theorem mon_ro {K : PySem.W.Frag} {N m : Nat} : MonB (DRo K N m) := fun x y b H H' e ⟨r, u, h1, h2, h3⟩ => ⟨r, u, RO.same e h1, RO.same e h2, h3⟩
theorem prs_strs {H : Hp} : ∀ os us : List Str, ∃ b, PrsB DFlatB H (os.map V.str) (us.map V.str) b ∧ (b = true ↔ os = us)
  | [], [] => ⟨true, .nil, by simp⟩
  | [], _ :: _ => ⟨false, .right, by simp⟩
  | _ :: _, [] => ⟨false, .left, by simp⟩
  | o :: os, u :: us => by
    obtain ⟨b, h1, h2⟩ := prs_strs (H := H) os us
    by_cases e : o = u
    · subst e
      refine ⟨b, .yes ⟨rfl, rfl, ?_⟩ h1, by rw [h2]; simp⟩
      show eqV (.str o) (.str o) = true
      simp [eqV]
    · refine ⟨false, .no ⟨rfl, rfl, ?_⟩, by simp [e]⟩
      show eqV (.str o) (.str u) = false
      simp [eqV, e]
theorem prs_rows {K : PySem.W.Frag} {H : Hp} {N m : Nat} : ∀ {rs us : List Rw} {xs ys : List V}, ROs K H xs rs → ROs K H ys us → Rws.cb N rs → Rws.cb N us → Rws.dep rs < m → ∃ b, PrsB (DRo K N m) H xs ys b ∧ (b = true ↔ rs = us)
  | [], [], _, _, .nil, .nil, _, _, _ => ⟨true, .nil, by simp⟩
  | [], _ :: _, _, _, .nil, .cons _ _, _, _, _ => ⟨false, .right, by simp⟩
  | _ :: _, [], _, _, .cons _ _, .nil, _, _, _ => ⟨false, .left, by simp⟩
  | r :: rs, u :: us, _, _, .cons h1 t1, .cons h2 t2, c1, c2, d => by
    rw [Rws.cb] at c1 c2
    rw [Rws.dep] at d
    obtain ⟨b, p, hb⟩ := prs_rows t1 t2 c1.2 c2.2 (by omega : Rws.dep rs < m)
    by_cases e : r = u
    · exact ⟨b, .yes ⟨r, u, h1, h2, c1.1, c2.1, by omega, by simp [e]⟩ p, by rw [hb, e]; simp⟩
    · exact ⟨false, .no ⟨r, u, h1, h2, c1.1, c2.1, by omega, by simp [e]⟩, by simp [e]⟩
theorem rcW {X : Cx} (T : Tx X.K X.mg) {N : Nat} : RcT X (N + 1) .Eq (DWo X.K N) := by
  intro A pins s σ H x y b u v sb I rx ry ⟨o, p, ho, hp, d1, d2, hb⟩
  have E := eqC (P := X.prog) (w := X.w) (base := X.base) T N
  cases ho with
  | some hc => exact rcC T E A pins s σ H x y b u v sb I rx ry ⟨_, p, hc, d1, hp, hb⟩
  | none =>
    cases hp with
    | none => exact rcT_nn A pins s σ H _ _ b u v (sb.mono (Nat.zero_le _)) I rx ry ⟨rfl, rfl, hb.mpr rfl⟩
    | some hc =>
      obtain ⟨m, a, dx, fs, rfl, ha⟩ := co_at hc
      exact rcT_non ((E _ m).own T cg m) A pins s σ H _ _ b u v sb I rx ry ⟨rfl, a, dx, fs, rfl, ha, _, none, hc, rfl, d2, .none, by rw [hb]; simp⟩
theorem ro_oth {X : Cx} (T : Tx X.K X.mg) {H : Hp} {x : Str} {y : V} {u : Rw} (hx : x ∈ rowN) (h : RO X.K H y u) : OthT X.K (He.ga X.K x) H y := by
  obtain ⟨m, a, dx, fs, rfl, ha⟩ := ro_at h
  exact ⟨_, dx, fs, ha, by rw [T.gaB rg hx m]; exact ((T.oe rg hx).2 _ m).1⟩
theorem rcR {X : Cx} (T : Tx X.K X.mg) {k N m : Nat} (O : ∀ x ∈ rowN, EqM X.prog X.w X.K X.mg X.base k x (RRw X.K N m x)) : RcT X k .Eq (DRo X.K N m) := by
  intro A pins s σ H x y b u v sb I rx ry ⟨r, q, hr, hq, c1, c2, hd, hb⟩
  obtain ⟨mm, a, dx, fs, rfl, ha⟩ := ro_at hr
  exact rcT_ins ((O _ mm).own T rg mm) A pins s σ H _ y b u v sb I rx ry ⟨a, dx, fs, rfl, ha, ro_oth T mm hq, r, q, hr, rfl, hq, c1, c2, hd, hb⟩
theorem eqT_R {X : Cx} (T : Tx X.K X.mg) {k N m : Nat} (O : ∀ x ∈ rowN, EqM X.prog X.w X.K X.mg X.base k x (RRw X.K N m x)) : EqT X k (DRo X.K N m) :=
  (rcR T O).eqT (fun x y b H ⟨r, q, hr, hq, _⟩ => ⟨.inr (let ⟨_, a, _, _, e, _⟩ := ro_at hr; ⟨a, e⟩), .inr (let ⟨_, a, _, _, e, _⟩ := ro_at hq; ⟨a, e⟩)⟩) fun x b H I ⟨r, q, hr, hq, _, _, _, hb⟩ => hb.mpr (ro_uniq T I hr hq)
section
variable {P : Program} {w : World} {K : PySem.W.Frag} {mg : Str → Option Value} {base : Heap}
theorem sc_One_eq : FnScope ["self", "other"] ["self", "other"] (defScope s_One_eq) := ⟨rfl, rfl, rfl, by decide +kernel, rfl, by decide +kernel, by decide +kernel⟩
theorem eq_One (T : Tx K mg) (N m : Nat) (O : ∀ x ∈ rowN, EqM P w K mg base (N + 2 + 2 * m) x (RRw K N m x)) : EqM P w K mg base (N + 2 + 2 * m + 1 + 1) "One" (RRw K N (m + 1) "One") := by
  obtain ⟨fd, F⟩ := T.f_One_eq
  refine ⟨⟨_, fd, F.ok (k := N + 2 + 2 * m + 1) sc_One_eq (fun vs H Q E h => ?_) (fun cdv A outer s_ H vs Q E hr h => ?_), T.m_One_eq, F.bindsN fun _ _ _ _ _ _ us hl => match us, hl with | [_, _], _ => rfl⟩⟩
  · obtain ⟨a, y, b, rfl, _⟩ := h
    rfl
  obtain ⟨a, y, b, rfl, ⟨r, u, hc, hn, ho, cb1, cb2, hd, hb⟩, q⟩ := h
  have q' : ∀ (k : Bool) (H' : Hp), (k = true ↔ r = u) → Ext H H' → Q (.bl k) H' := fun k H' hk e => by
    have : k = b := by rw [Bool.eq_iff_iff, hk, hb]
    rw [this]
    exact q H' e
  refine ⟨_, pss_one (ps_ret (pe_and (pe_callB call_isi (by rfl) T.z_isinstance (by decide +kernel) (pa_cons (pv 1) (pa_cons (pe_gref T.g_One) pa_nil))) (pe_and (pe_cmpR op_eq (pe_fld (pv 0) rfl) (pe_fld (pv 1) rfl) rfl) (pe_and (pe_cmpR (op_own (rcT_tup mon_flatB eqT_flatB) (hr.mono (by omega : 0 + 1 ≤ N + 2 + 2 * m + 1))) (pe_fld (pv 0) rfl) (pe_fld (pv 1) rfl) rfl) (pe_one (pe_cmpR (op_own (rcW (N := N) T) (hr.mono (by omega : N + 1 ≤ N + 2 + 2 * m + 1))) (pe_fld (pv 0) rfl) (pe_fld (pv 1) rfl) rfl)))))), ?_⟩
  walk_at "go"
  cases hc with
  | @one a t1 n1 os1 w1 v1 hi ht hw1 =>
    obtain ⟨dx, hi⟩ := hi
    refine isiOR T ho (by decide) ?_
    cases ho with
    | @one a2 t2 n2 os2 w2 v2 hj hu hw2 =>
        obtain ⟨dy, hj⟩ := hj
        simp only [Rw.cb] at cb1 cb2
        refine ⟨_, rfl, ?_⟩
        show if true = true then _ else _
        rw [if_pos rfl]
        walk_at "go"
        have cw1 := cb1
        have cw2 := cb2
        refine ⟨_, _, dx, _, _, rfl, hi, T.cl_One, T.n_One_name, rfl, ?_⟩
        walk_at "go"
        refine ⟨_, _, dy, _, _, rfl, hj, T.cl_One, T.n_One_name, rfl, ?_⟩
        refine ⟨rfl, ?_⟩
        by_cases e0 : n1 = n2
        rotate_left
        · rw [show decide (V.str n1 = V.str n2) = false from decide_eq_false fun z => e0 (V.str.inj z)]
          refine ⟨_, rfl, ?_⟩
          exact q' false H (by simp [e0]) (Ext.rfl')
        rw [show decide (V.str n1 = V.str n2) = true from decide_eq_true (congrArg V.str e0)]
        refine ⟨_, rfl, ?_⟩
        rw [if_pos rfl]
        walk_at "go"
        refine ⟨_, _, dx, _, _, rfl, hi, T.cl_One, T.n_One_options, rfl, ?_⟩
        walk_at "go"
        refine ⟨_, _, dy, _, _, rfl, hj, T.cl_One, T.n_One_options, rfl, ?_⟩
        obtain ⟨b1, pb1, hb1⟩ := prs_strs (H := H) os1 os2
        refine ⟨b1, ⟨_, _, _, _, rfl, rfl, (SqT.ext ht (Ext.rfl')), (SqT.ext hu (Ext.rfl')), pb1⟩, fun H1 x1 => ?_⟩
        cases hb1v : b1
        · have e1 : ¬ os1 = os2 := fun z => by rw [hb1v] at hb1; exact Bool.false_ne_true (hb1.mpr (z))
          refine ⟨_, rfl, ?_⟩
          exact q' false H1 (by simp [e0, e1]) (x1)
        have e1 : os1 = os2 := hb1.mp hb1v
        refine ⟨_, rfl, ?_⟩
        rw [if_pos rfl]
        walk_at "go"
        refine ⟨_, _, dx, _, _, rfl, (x1) _ _ hi, T.cl_One, T.n_One_where, rfl, ?_⟩
        walk_at "go"
        refine ⟨_, _, dy, _, _, rfl, (x1) _ _ hj, T.cl_One, T.n_One_where, rfl, ?_⟩
        obtain ⟨b2, hb2⟩ := ex_bool (w1 = w2)
        refine ⟨b2, ⟨w1, w2, (hw1.same (x1)), (hw2.same (x1)), by omega, by omega, hb2⟩, fun H2 x2 => ?_⟩
        cases hb2v : b2
        · have e2 : ¬ w1 = w2 := fun z => by rw [hb2v] at hb2; exact Bool.false_ne_true (hb2.mpr (z))
          exact q' false H2 (by simp [e0, e1, e2]) ((x1).trans x2)
        have e2 : w1 = w2 := hb2.mp hb2v
        exact q' true H2 (by simp [e0, e1, e2]) ((x1).trans x2)
    | _ => exact ⟨_, rfl, q' false H (by simp) Ext.rfl'⟩
  | _ => simp only [Rw.nm] at hn; exact absurd hn (by decide)

theorem sc_Some_eq : FnScope ["self", "other"] ["self", "other"] (defScope s_Some_eq) := ⟨rfl, rfl, rfl, by decide +kernel, rfl, by decide +kernel, by decide +kernel⟩
theorem eq_Some (T : Tx K mg) (N m : Nat) (O : ∀ x ∈ rowN, EqM P w K mg base (N + 2 + 2 * m) x (RRw K N m x)) : EqM P w K mg base (N + 2 + 2 * m + 1 + 1) "Some" (RRw K N (m + 1) "Some") := by
  obtain ⟨fd, F⟩ := T.f_Some_eq
  refine ⟨⟨_, fd, F.ok (k := N + 2 + 2 * m + 1) sc_Some_eq (fun vs H Q E h => ?_) (fun cdv A outer s_ H vs Q E hr h => ?_), T.m_Some_eq, F.bindsN fun _ _ _ _ _ _ us hl => match us, hl with | [_, _], _ => rfl⟩⟩
  · obtain ⟨a, y, b, rfl, _⟩ := h
    rfl
  obtain ⟨a, y, b, rfl, ⟨r, u, hc, hn, ho, cb1, cb2, hd, hb⟩, q⟩ := h
  have q' : ∀ (k : Bool) (H' : Hp), (k = true ↔ r = u) → Ext H H' → Q (.bl k) H' := fun k H' hk e => by
    have : k = b := by rw [Bool.eq_iff_iff, hk, hb]
    rw [this]
    exact q H' e
  refine ⟨_, pss_one (ps_ret (pe_and (pe_callB call_isi (by rfl) T.z_isinstance (by decide +kernel) (pa_cons (pv 1) (pa_cons (pe_gref T.g_Some) pa_nil))) (pe_and (pe_cmpR op_eq (pe_fld (pv 0) rfl) (pe_fld (pv 1) rfl) rfl) (pe_and (pe_cmpR (op_own (rcT_tup mon_flatB eqT_flatB) (hr.mono (by omega : 0 + 1 ≤ N + 2 + 2 * m + 1))) (pe_fld (pv 0) rfl) (pe_fld (pv 1) rfl) rfl) (pe_one (pe_cmpR (op_own (rcW (N := N) T) (hr.mono (by omega : N + 1 ≤ N + 2 + 2 * m + 1))) (pe_fld (pv 0) rfl) (pe_fld (pv 1) rfl) rfl)))))), ?_⟩
  walk_at "go"
  cases hc with
  | @some a t1 n1 os1 w1 v1 hi ht hw1 =>
    obtain ⟨dx, hi⟩ := hi
    refine isiOR T ho (by decide) ?_
    cases ho with
    | @some a2 t2 n2 os2 w2 v2 hj hu hw2 =>
        obtain ⟨dy, hj⟩ := hj
        simp only [Rw.cb] at cb1 cb2
        refine ⟨_, rfl, ?_⟩
        show if true = true then _ else _
        rw [if_pos rfl]
        walk_at "go"
        have cw1 := cb1
        have cw2 := cb2
        refine ⟨_, _, dx, _, _, rfl, hi, T.cl_Some, T.n_Some_name, rfl, ?_⟩
        walk_at "go"
        refine ⟨_, _, dy, _, _, rfl, hj, T.cl_Some, T.n_Some_name, rfl, ?_⟩
        refine ⟨rfl, ?_⟩
        by_cases e0 : n1 = n2
        rotate_left
        · rw [show decide (V.str n1 = V.str n2) = false from decide_eq_false fun z => e0 (V.str.inj z)]
          refine ⟨_, rfl, ?_⟩
          exact q' false H (by simp [e0]) (Ext.rfl')
        rw [show decide (V.str n1 = V.str n2) = true from decide_eq_true (congrArg V.str e0)]
        refine ⟨_, rfl, ?_⟩
        rw [if_pos rfl]
        walk_at "go"
        refine ⟨_, _, dx, _, _, rfl, hi, T.cl_Some, T.n_Some_options, rfl, ?_⟩
        walk_at "go"
        refine ⟨_, _, dy, _, _, rfl, hj, T.cl_Some, T.n_Some_options, rfl, ?_⟩
        obtain ⟨b1, pb1, hb1⟩ := prs_strs (H := H) os1 os2
        refine ⟨b1, ⟨_, _, _, _, rfl, rfl, (SqT.ext ht (Ext.rfl')), (SqT.ext hu (Ext.rfl')), pb1⟩, fun H1 x1 => ?_⟩
        cases hb1v : b1
        · have e1 : ¬ os1 = os2 := fun z => by rw [hb1v] at hb1; exact Bool.false_ne_true (hb1.mpr (z))
          refine ⟨_, rfl, ?_⟩
          exact q' false H1 (by simp [e0, e1]) (x1)
        have e1 : os1 = os2 := hb1.mp hb1v
        refine ⟨_, rfl, ?_⟩
        rw [if_pos rfl]
        walk_at "go"
        refine ⟨_, _, dx, _, _, rfl, (x1) _ _ hi, T.cl_Some, T.n_Some_where, rfl, ?_⟩
        walk_at "go"
        refine ⟨_, _, dy, _, _, rfl, (x1) _ _ hj, T.cl_Some, T.n_Some_where, rfl, ?_⟩
        obtain ⟨b2, hb2⟩ := ex_bool (w1 = w2)
        refine ⟨b2, ⟨w1, w2, (hw1.same (x1)), (hw2.same (x1)), by omega, by omega, hb2⟩, fun H2 x2 => ?_⟩
        cases hb2v : b2
        · have e2 : ¬ w1 = w2 := fun z => by rw [hb2v] at hb2; exact Bool.false_ne_true (hb2.mpr (z))
          exact q' false H2 (by simp [e0, e1, e2]) ((x1).trans x2)
        have e2 : w1 = w2 := hb2.mp hb2v
        exact q' true H2 (by simp [e0, e1, e2]) ((x1).trans x2)
    | _ => exact ⟨_, rfl, q' false H (by simp) Ext.rfl'⟩
  | _ => simp only [Rw.nm] at hn; exact absurd hn (by decide)

theorem sc_Number_eq : FnScope ["self", "other"] ["self", "other"] (defScope s_Number_eq) := ⟨rfl, rfl, rfl, by decide +kernel, rfl, by decide +kernel, by decide +kernel⟩
theorem eq_Number (T : Tx K mg) (N m : Nat) (O : ∀ x ∈ rowN, EqM P w K mg base (N + 2 + 2 * m) x (RRw K N m x)) : EqM P w K mg base (N + 2 + 2 * m + 1 + 1) "Number" (RRw K N (m + 1) "Number") := by
  obtain ⟨fd, F⟩ := T.f_Number_eq
  refine ⟨⟨_, fd, F.ok (k := N + 2 + 2 * m + 1) sc_Number_eq (fun vs H Q E h => ?_) (fun cdv A outer s_ H vs Q E hr h => ?_), T.m_Number_eq, F.bindsN fun _ _ _ _ _ _ us hl => match us, hl with | [_, _], _ => rfl⟩⟩
  · obtain ⟨a, y, b, rfl, _⟩ := h
    rfl
  obtain ⟨a, y, b, rfl, ⟨r, u, hc, hn, ho, cb1, cb2, hd, hb⟩, q⟩ := h
  have q' : ∀ (k : Bool) (H' : Hp), (k = true ↔ r = u) → Ext H H' → Q (.bl k) H' := fun k H' hk e => by
    have : k = b := by rw [Bool.eq_iff_iff, hk, hb]
    rw [this]
    exact q H' e
  refine ⟨_, pss_one (ps_ret (pe_and (pe_callB call_isi (by rfl) T.z_isinstance (by decide +kernel) (pa_cons (pv 1) (pa_cons (pe_gref T.g_Number) pa_nil))) (pe_and (pe_cmpR op_eq (pe_fld (pv 0) rfl) (pe_fld (pv 1) rfl) rfl) (pe_and (pe_cmpR op_eq (pe_fld (pv 0) rfl) (pe_fld (pv 1) rfl) rfl) (pe_and (pe_cmpR op_eq (pe_fld (pv 0) rfl) (pe_fld (pv 1) rfl) rfl) (pe_one (pe_cmpR (op_own (rcW (N := N) T) (hr.mono (by omega : N + 1 ≤ N + 2 + 2 * m + 1))) (pe_fld (pv 0) rfl) (pe_fld (pv 1) rfl) rfl))))))), ?_⟩
  walk_at "go"
  cases hc with
  | @number a n1 l1 h1 w1 v1 hi hw1 =>
    obtain ⟨dx, hi⟩ := hi
    refine isiOR T ho (by decide) ?_
    cases ho with
    | @number a2 n2 l2 h2 w2 v2 hj hw2 =>
        obtain ⟨dy, hj⟩ := hj
        simp only [Rw.cb] at cb1 cb2
        refine ⟨_, rfl, ?_⟩
        show if true = true then _ else _
        rw [if_pos rfl]
        walk_at "go"
        have cw1 := cb1
        have cw2 := cb2
        refine ⟨_, _, dx, _, _, rfl, hi, T.cl_Number, T.n_Number_name, rfl, ?_⟩
        walk_at "go"
        refine ⟨_, _, dy, _, _, rfl, hj, T.cl_Number, T.n_Number_name, rfl, ?_⟩
        refine ⟨rfl, ?_⟩
        by_cases e0 : n1 = n2
        rotate_left
        · rw [show decide (V.str n1 = V.str n2) = false from decide_eq_false fun z => e0 (V.str.inj z)]
          refine ⟨_, rfl, ?_⟩
          exact q' false H (by simp [e0]) (Ext.rfl')
        rw [show decide (V.str n1 = V.str n2) = true from decide_eq_true (congrArg V.str e0)]
        refine ⟨_, rfl, ?_⟩
        rw [if_pos rfl]
        walk_at "go"
        refine ⟨_, _, dx, _, _, rfl, hi, T.cl_Number, T.n_Number_low, rfl, ?_⟩
        walk_at "go"
        refine ⟨_, _, dy, _, _, rfl, hj, T.cl_Number, T.n_Number_low, rfl, ?_⟩
        refine ⟨rfl, ?_⟩
        by_cases e1 : l1 = l2
        rotate_left
        · rw [show decide (V.int l1 = V.int l2) = false from decide_eq_false fun z => e1 (V.int.inj z)]
          refine ⟨_, rfl, ?_⟩
          exact q' false H (by simp [e0, e1]) (Ext.rfl')
        rw [show decide (V.int l1 = V.int l2) = true from decide_eq_true (congrArg V.int e1)]
        refine ⟨_, rfl, ?_⟩
        rw [if_pos rfl]
        walk_at "go"
        refine ⟨_, _, dx, _, _, rfl, hi, T.cl_Number, T.n_Number_high, rfl, ?_⟩
        walk_at "go"
        refine ⟨_, _, dy, _, _, rfl, hj, T.cl_Number, T.n_Number_high, rfl, ?_⟩
        refine ⟨rfl, ?_⟩
        by_cases e2 : h1 = h2
        rotate_left
        · rw [show decide (V.int h1 = V.int h2) = false from decide_eq_false fun z => e2 (V.int.inj z)]
          refine ⟨_, rfl, ?_⟩
          exact q' false H (by simp [e0, e1, e2]) (Ext.rfl')
        rw [show decide (V.int h1 = V.int h2) = true from decide_eq_true (congrArg V.int e2)]
        refine ⟨_, rfl, ?_⟩
        rw [if_pos rfl]
        walk_at "go"
        refine ⟨_, _, dx, _, _, rfl, hi, T.cl_Number, T.n_Number_where, rfl, ?_⟩
        walk_at "go"
        refine ⟨_, _, dy, _, _, rfl, hj, T.cl_Number, T.n_Number_where, rfl, ?_⟩
        obtain ⟨b3, hb3⟩ := ex_bool (w1 = w2)
        refine ⟨b3, ⟨w1, w2, (hw1.same (Ext.rfl')), (hw2.same (Ext.rfl')), by omega, by omega, hb3⟩, fun H1 x1 => ?_⟩
        cases hb3v : b3
        · have e3 : ¬ w1 = w2 := fun z => by rw [hb3v] at hb3; exact Bool.false_ne_true (hb3.mpr (z))
          exact q' false H1 (by simp [e0, e1, e2, e3]) (x1)
        have e3 : w1 = w2 := hb3.mp hb3v
        exact q' true H1 (by simp [e0, e1, e2, e3]) (x1)
    | _ => exact ⟨_, rfl, q' false H (by simp) Ext.rfl'⟩
  | _ => simp only [Rw.nm] at hn; exact absurd hn (by decide)

theorem sc_Check_eq : FnScope ["self", "other"] ["self", "other"] (defScope s_Check_eq) := ⟨rfl, rfl, rfl, by decide +kernel, rfl, by decide +kernel, by decide +kernel⟩
theorem eq_Check (T : Tx K mg) (N m : Nat) (O : ∀ x ∈ rowN, EqM P w K mg base (N + 2 + 2 * m) x (RRw K N m x)) : EqM P w K mg base (N + 2 + 2 * m + 1 + 1) "Check" (RRw K N (m + 1) "Check") := by
  obtain ⟨fd, F⟩ := T.f_Check_eq
  refine ⟨⟨_, fd, F.ok (k := N + 2 + 2 * m + 1) sc_Check_eq (fun vs H Q E h => ?_) (fun cdv A outer s_ H vs Q E hr h => ?_), T.m_Check_eq, F.bindsN fun _ _ _ _ _ _ us hl => match us, hl with | [_, _], _ => rfl⟩⟩
  · obtain ⟨a, y, b, rfl, _⟩ := h
    rfl
  obtain ⟨a, y, b, rfl, ⟨r, u, hc, hn, ho, cb1, cb2, hd, hb⟩, q⟩ := h
  have q' : ∀ (k : Bool) (H' : Hp), (k = true ↔ r = u) → Ext H H' → Q (.bl k) H' := fun k H' hk e => by
    have : k = b := by rw [Bool.eq_iff_iff, hk, hb]
    rw [this]
    exact q H' e
  refine ⟨_, pss_one (ps_ret (pe_and (pe_callB call_isi (by rfl) T.z_isinstance (by decide +kernel) (pa_cons (pv 1) (pa_cons (pe_gref T.g_Check) pa_nil))) (pe_and (pe_cmpR op_eq (pe_fld (pv 0) rfl) (pe_fld (pv 1) rfl) rfl) (pe_and (pe_cmpR (op_own (rcC (n := N) T (eqC T N)) (hr.mono (by omega : N + 1 ≤ N + 2 + 2 * m + 1))) (pe_fld (pv 0) rfl) (pe_fld (pv 1) rfl) rfl) (pe_one (pe_cmpR (op_own (rcW (N := N) T) (hr.mono (by omega : N + 1 ≤ N + 2 + 2 * m + 1))) (pe_fld (pv 0) rfl) (pe_fld (pv 1) rfl) rfl)))))), ?_⟩
  walk_at "go"
  cases hc with
  | @check a n1 m1 mv1 w1 v1 hi hm1 hw1 =>
    obtain ⟨dx, hi⟩ := hi
    refine isiOR T ho (by decide) ?_
    cases ho with
    | @check a2 n2 m2 mv2 w2 v2 hj hm2 hw2 =>
        obtain ⟨dy, hj⟩ := hj
        simp only [Rw.cb] at cb1 cb2
        refine ⟨_, rfl, ?_⟩
        show if true = true then _ else _
        rw [if_pos rfl]
        walk_at "go"
        have cm1 := cb1.1
        have cw1 := cb1.2
        have cw2 := cb2.2
        refine ⟨_, _, dx, _, _, rfl, hi, T.cl_Check, T.n_Check_name, rfl, ?_⟩
        walk_at "go"
        refine ⟨_, _, dy, _, _, rfl, hj, T.cl_Check, T.n_Check_name, rfl, ?_⟩
        refine ⟨rfl, ?_⟩
        by_cases e0 : n1 = n2
        rotate_left
        · rw [show decide (V.str n1 = V.str n2) = false from decide_eq_false fun z => e0 (V.str.inj z)]
          refine ⟨_, rfl, ?_⟩
          exact q' false H (by simp [e0]) (Ext.rfl')
        rw [show decide (V.str n1 = V.str n2) = true from decide_eq_true (congrArg V.str e0)]
        refine ⟨_, rfl, ?_⟩
        rw [if_pos rfl]
        walk_at "go"
        refine ⟨_, _, dx, _, _, rfl, hi, T.cl_Check, T.n_Check_must, rfl, ?_⟩
        walk_at "go"
        refine ⟨_, _, dy, _, _, rfl, hj, T.cl_Check, T.n_Check_must, rfl, ?_⟩
        obtain ⟨b1, hb1⟩ := ex_bool (some m1 = some m2)
        refine ⟨b1, ⟨m1, some m2, (hm1.same (Ext.rfl')), by exact cm1, .some ((hm2.same (Ext.rfl'))), hb1⟩, fun H1 x1 => ?_⟩
        cases hb1v : b1
        · have e1 : ¬ m1 = m2 := fun z => by rw [hb1v] at hb1; exact Bool.false_ne_true (hb1.mpr (congrArg some z))
          refine ⟨_, rfl, ?_⟩
          exact q' false H1 (by simp [e0, e1]) (x1)
        have e1 : m1 = m2 := Option.some.inj (hb1.mp hb1v)
        refine ⟨_, rfl, ?_⟩
        rw [if_pos rfl]
        walk_at "go"
        refine ⟨_, _, dx, _, _, rfl, (x1) _ _ hi, T.cl_Check, T.n_Check_where, rfl, ?_⟩
        walk_at "go"
        refine ⟨_, _, dy, _, _, rfl, (x1) _ _ hj, T.cl_Check, T.n_Check_where, rfl, ?_⟩
        obtain ⟨b2, hb2⟩ := ex_bool (w1 = w2)
        refine ⟨b2, ⟨w1, w2, (hw1.same (x1)), (hw2.same (x1)), by omega, by omega, hb2⟩, fun H2 x2 => ?_⟩
        cases hb2v : b2
        · have e2 : ¬ w1 = w2 := fun z => by rw [hb2v] at hb2; exact Bool.false_ne_true (hb2.mpr (z))
          exact q' false H2 (by simp [e0, e1, e2]) ((x1).trans x2)
        have e2 : w1 = w2 := hb2.mp hb2v
        exact q' true H2 (by simp [e0, e1, e2]) ((x1).trans x2)
    | _ => exact ⟨_, rfl, q' false H (by simp) Ext.rfl'⟩
  | _ => simp only [Rw.nm] at hn; exact absurd hn (by decide)

theorem sc_Section_eq : FnScope ["self", "other"] ["self", "other"] (defScope s_Section_eq) := ⟨rfl, rfl, rfl, by decide +kernel, rfl, by decide +kernel, by decide +kernel⟩
theorem eq_Section (T : Tx K mg) (N m : Nat) (O : ∀ x ∈ rowN, EqM P w K mg base (N + 2 + 2 * m) x (RRw K N m x)) : EqM P w K mg base (N + 2 + 2 * m + 1 + 1) "Section" (RRw K N (m + 1) "Section") := by
  obtain ⟨fd, F⟩ := T.f_Section_eq
  refine ⟨⟨_, fd, F.ok (k := N + 2 + 2 * m + 1) sc_Section_eq (fun vs H Q E h => ?_) (fun cdv A outer s_ H vs Q E hr h => ?_), T.m_Section_eq, F.bindsN fun _ _ _ _ _ _ us hl => match us, hl with | [_, _], _ => rfl⟩⟩
  · obtain ⟨a, y, b, rfl, _⟩ := h
    rfl
  obtain ⟨a, y, b, rfl, ⟨r, u, hc, hn, ho, cb1, cb2, hd, hb⟩, q⟩ := h
  have q' : ∀ (k : Bool) (H' : Hp), (k = true ↔ r = u) → Ext H H' → Q (.bl k) H' := fun k H' hk e => by
    have : k = b := by rw [Bool.eq_iff_iff, hk, hb]
    rw [this]
    exact q H' e
  refine ⟨_, pss_one (ps_ret (pe_and (pe_callB call_isi (by rfl) T.z_isinstance (by decide +kernel) (pa_cons (pv 1) (pa_cons (pe_gref T.g_Section) pa_nil))) (pe_and (pe_cmpR (op_own (rcT_tup mon_ro (eqT_R T O)) hr) (pe_fld (pv 0) rfl) (pe_fld (pv 1) rfl) rfl) (pe_one (pe_cmpR (op_own (rcW (N := N) T) (hr.mono (by omega : N + 1 ≤ N + 2 + 2 * m + 1))) (pe_fld (pv 0) rfl) (pe_fld (pv 1) rfl) rfl))))), ?_⟩
  walk_at "go"
  cases hc with
  | @sect a t1 xs1 rs1 w1 v1 hi ht hr1 hw1 =>
    obtain ⟨dx, hi⟩ := hi
    refine isiOR T ho (by decide) ?_
    cases ho with
    | @sect a2 t2 xs2 rs2 w2 v2 hj hu hr2 hw2 =>
        obtain ⟨dy, hj⟩ := hj
        simp only [Rw.cb] at cb1 cb2
        refine ⟨_, rfl, ?_⟩
        show if true = true then _ else _
        rw [if_pos rfl]
        walk_at "go"
        have cw1 := cb1.2
        have cw2 := cb2.2
        simp only [Rw.dep] at hd
        have ba := cb1.1
        have bb := cb2.1
        refine ⟨_, _, dx, _, _, rfl, hi, T.cl_Section, T.n_Section_rows, rfl, ?_⟩
        walk_at "go"
        refine ⟨_, _, dy, _, _, rfl, hj, T.cl_Section, T.n_Section_rows, rfl, ?_⟩
        obtain ⟨b0, pb0, hb0⟩ := prs_rows ((ROs.same (Ext.rfl') hr1)) ((ROs.same (Ext.rfl') hr2)) ba bb (by omega : Rws.dep rs1 < m)
        refine ⟨b0, ⟨_, _, _, _, rfl, rfl, (Ext.rfl') |> fun e => SqT.ext ht e, (Ext.rfl') |> fun e => SqT.ext hu e, pb0⟩, fun H1 x1 => ?_⟩
        cases hb0v : b0
        · have e0 : ¬ rs1 = rs2 := fun z => by rw [hb0v] at hb0; exact Bool.false_ne_true (hb0.mpr (z))
          refine ⟨_, rfl, ?_⟩
          exact q' false H1 (by simp [e0]) (x1)
        have e0 : rs1 = rs2 := hb0.mp hb0v
        refine ⟨_, rfl, ?_⟩
        rw [if_pos rfl]
        walk_at "go"
        refine ⟨_, _, dx, _, _, rfl, (x1) _ _ hi, T.cl_Section, T.n_Section_where, rfl, ?_⟩
        walk_at "go"
        refine ⟨_, _, dy, _, _, rfl, (x1) _ _ hj, T.cl_Section, T.n_Section_where, rfl, ?_⟩
        obtain ⟨b1, hb1⟩ := ex_bool (w1 = w2)
        refine ⟨b1, ⟨w1, w2, (hw1.same (x1)), (hw2.same (x1)), by omega, by omega, hb1⟩, fun H2 x2 => ?_⟩
        cases hb1v : b1
        · have e1 : ¬ w1 = w2 := fun z => by rw [hb1v] at hb1; exact Bool.false_ne_true (hb1.mpr (z))
          exact q' false H2 (by simp [e0, e1]) ((x1).trans x2)
        have e1 : w1 = w2 := hb1.mp hb1v
        exact q' true H2 (by simp [e0, e1]) ((x1).trans x2)
    | _ => exact ⟨_, rfl, q' false H (by simp) Ext.rfl'⟩
  | _ => simp only [Rw.nm] at hn; exact absurd hn (by decide)

theorem sc_Rounds_eq : FnScope ["self", "other"] ["self", "other"] (defScope s_Rounds_eq) := ⟨rfl, rfl, rfl, by decide +kernel, rfl, by decide +kernel, by decide +kernel⟩
theorem eq_Rounds (T : Tx K mg) (N m : Nat) (O : ∀ x ∈ rowN, EqM P w K mg base (N + 2 + 2 * m) x (RRw K N m x)) : EqM P w K mg base (N + 2 + 2 * m + 1 + 1) "Rounds" (RRw K N (m + 1) "Rounds") := by
  obtain ⟨fd, F⟩ := T.f_Rounds_eq
  refine ⟨⟨_, fd, F.ok (k := N + 2 + 2 * m + 1) sc_Rounds_eq (fun vs H Q E h => ?_) (fun cdv A outer s_ H vs Q E hr h => ?_), T.m_Rounds_eq, F.bindsN fun _ _ _ _ _ _ us hl => match us, hl with | [_, _], _ => rfl⟩⟩
  · obtain ⟨a, y, b, rfl, _⟩ := h
    rfl
  obtain ⟨a, y, b, rfl, ⟨r, u, hc, hn, ho, cb1, cb2, hd, hb⟩, q⟩ := h
  have q' : ∀ (k : Bool) (H' : Hp), (k = true ↔ r = u) → Ext H H' → Q (.bl k) H' := fun k H' hk e => by
    have : k = b := by rw [Bool.eq_iff_iff, hk, hb]
    rw [this]
    exact q H' e
  refine ⟨_, pss_one (ps_ret (pe_and (pe_callB call_isi (by rfl) T.z_isinstance (by decide +kernel) (pa_cons (pv 1) (pa_cons (pe_gref T.g_Rounds) pa_nil))) (pe_and (pe_cmpR op_eq (pe_fld (pv 0) rfl) (pe_fld (pv 1) rfl) rfl) (pe_and (pe_cmpR (op_own (rcT_tup mon_ro (eqT_R T O)) hr) (pe_fld (pv 0) rfl) (pe_fld (pv 1) rfl) rfl) (pe_one (pe_cmpR (op_own (rcW (N := N) T) (hr.mono (by omega : N + 1 ≤ N + 2 + 2 * m + 1))) (pe_fld (pv 0) rfl) (pe_fld (pv 1) rfl) rfl)))))), ?_⟩
  walk_at "go"
  cases hc with
  | @rounds a t1 n1 xs1 rs1 w1 v1 hi ht hr1 hw1 =>
    obtain ⟨dx, hi⟩ := hi
    refine isiOR T ho (by decide) ?_
    cases ho with
    | @rounds a2 t2 n2 xs2 rs2 w2 v2 hj hu hr2 hw2 =>
        obtain ⟨dy, hj⟩ := hj
        simp only [Rw.cb] at cb1 cb2
        refine ⟨_, rfl, ?_⟩
        show if true = true then _ else _
        rw [if_pos rfl]
        walk_at "go"
        have cw1 := cb1.2
        have cw2 := cb2.2
        simp only [Rw.dep] at hd
        have ba := cb1.1
        have bb := cb2.1
        refine ⟨_, _, dx, _, _, rfl, hi, T.cl_Rounds, T.n_Rounds_count, rfl, ?_⟩
        walk_at "go"
        refine ⟨_, _, dy, _, _, rfl, hj, T.cl_Rounds, T.n_Rounds_count, rfl, ?_⟩
        refine ⟨rfl, ?_⟩
        by_cases e0 : n1 = n2
        rotate_left
        · rw [show decide (V.str n1 = V.str n2) = false from decide_eq_false fun z => e0 (V.str.inj z)]
          refine ⟨_, rfl, ?_⟩
          exact q' false H (by simp [e0]) (Ext.rfl')
        rw [show decide (V.str n1 = V.str n2) = true from decide_eq_true (congrArg V.str e0)]
        refine ⟨_, rfl, ?_⟩
        rw [if_pos rfl]
        walk_at "go"
        refine ⟨_, _, dx, _, _, rfl, hi, T.cl_Rounds, T.n_Rounds_rows, rfl, ?_⟩
        walk_at "go"
        refine ⟨_, _, dy, _, _, rfl, hj, T.cl_Rounds, T.n_Rounds_rows, rfl, ?_⟩
        obtain ⟨b1, pb1, hb1⟩ := prs_rows ((ROs.same (Ext.rfl') hr1)) ((ROs.same (Ext.rfl') hr2)) ba bb (by omega : Rws.dep rs1 < m)
        refine ⟨b1, ⟨_, _, _, _, rfl, rfl, (Ext.rfl') |> fun e => SqT.ext ht e, (Ext.rfl') |> fun e => SqT.ext hu e, pb1⟩, fun H1 x1 => ?_⟩
        cases hb1v : b1
        · have e1 : ¬ rs1 = rs2 := fun z => by rw [hb1v] at hb1; exact Bool.false_ne_true (hb1.mpr (z))
          refine ⟨_, rfl, ?_⟩
          exact q' false H1 (by simp [e0, e1]) (x1)
        have e1 : rs1 = rs2 := hb1.mp hb1v
        refine ⟨_, rfl, ?_⟩
        rw [if_pos rfl]
        walk_at "go"
        refine ⟨_, _, dx, _, _, rfl, (x1) _ _ hi, T.cl_Rounds, T.n_Rounds_where, rfl, ?_⟩
        walk_at "go"
        refine ⟨_, _, dy, _, _, rfl, (x1) _ _ hj, T.cl_Rounds, T.n_Rounds_where, rfl, ?_⟩
        obtain ⟨b2, hb2⟩ := ex_bool (w1 = w2)
        refine ⟨b2, ⟨w1, w2, (hw1.same (x1)), (hw2.same (x1)), by omega, by omega, hb2⟩, fun H2 x2 => ?_⟩
        cases hb2v : b2
        · have e2 : ¬ w1 = w2 := fun z => by rw [hb2v] at hb2; exact Bool.false_ne_true (hb2.mpr (z))
          exact q' false H2 (by simp [e0, e1, e2]) ((x1).trans x2)
        have e2 : w1 = w2 := hb2.mp hb2v
        exact q' true H2 (by simp [e0, e1, e2]) ((x1).trans x2)
    | _ => exact ⟨_, rfl, q' false H (by simp) Ext.rfl'⟩
  | _ => simp only [Rw.nm] at hn; exact absurd hn (by decide)

theorem eqR (T : Tx K mg) (N : Nat) : ∀ m, ∀ x ∈ rowN, EqM P w K mg base (N + 2 + 2 * m) x (RRw K N m x)
  | 0, x, hx => by
    have F : ∃ f fd, Meth K (He.ga K x) "__eq__" f ∧ Binds K fd ["self", "other"] [] := by
      simp only [rowN, List.mem_cons, List.not_mem_nil, or_false] at hx
      rcases hx with rfl | rfl | rfl | rfl | rfl | rfl
      · obtain ⟨fd, F⟩ := T.f_One_eq
        exact ⟨_, fd, T.m_One_eq, F.bindsN fun _ _ _ _ _ _ us hl => match us, hl with | [_, _], _ => rfl⟩
      · obtain ⟨fd, F⟩ := T.f_Some_eq
        exact ⟨_, fd, T.m_Some_eq, F.bindsN fun _ _ _ _ _ _ us hl => match us, hl with | [_, _], _ => rfl⟩
      · obtain ⟨fd, F⟩ := T.f_Number_eq
        exact ⟨_, fd, T.m_Number_eq, F.bindsN fun _ _ _ _ _ _ us hl => match us, hl with | [_, _], _ => rfl⟩
      · obtain ⟨fd, F⟩ := T.f_Check_eq
        exact ⟨_, fd, T.m_Check_eq, F.bindsN fun _ _ _ _ _ _ us hl => match us, hl with | [_, _], _ => rfl⟩
      · obtain ⟨fd, F⟩ := T.f_Section_eq
        exact ⟨_, fd, T.m_Section_eq, F.bindsN fun _ _ _ _ _ _ us hl => match us, hl with | [_, _], _ => rfl⟩
      · obtain ⟨fd, F⟩ := T.f_Rounds_eq
        exact ⟨_, fd, T.m_Rounds_eq, F.bindsN fun _ _ _ _ _ _ us hl => match us, hl with | [_, _], _ => rfl⟩
    obtain ⟨f, fd, m, b⟩ := F
    exact ⟨⟨f, fd, ok_none' fun vs H Q E ⟨_, _, _, _, ⟨_, _, _, _, _, _, _, h, _⟩, _⟩ => absurd h (Nat.not_lt_zero _), m, b⟩⟩
  | m + 1, x, hx => by
    have ih := eqR T N m
    simp only [rowN, List.mem_cons, List.not_mem_nil, or_false] at hx
    rcases hx with rfl | rfl | rfl | rfl | rfl | rfl
    · exact eq_One T N m ih
    · exact eq_Some T N m ih
    · exact eq_Number T N m ih
    · exact eq_Check T N m ih
    · exact eq_Section T N m ih
    · exact eq_Rounds T N m ih
end
end K3
end O2_part
section O3_part
set_option Elab.async false
set_option linter.all false
set_option maxRecDepth 100000
set_option maxHeartbeats 1000000
set_option pp.deepTerms true
open PySem PySem.Spec PyProof.Rows L2
/-- go on as far as nothing is open -/
local macro_rules | `(tactic| walk_at "go") => `(tactic| repeat (first
  | with_reducible refine w_seq ?_ | with_reducible refine w_next ?_ | with_reducible refine w_set ?_ | with_reducible refine w_drop ?_ | with_reducible refine w_ret ?_ | with_reducible refine w_retN ?_
  | with_reducible refine w_if ?_ | ((with_reducible refine' w_var ?hv ?_); (case hv => exact rfl)) | with_reducible refine w_c ?_ | with_reducible refine w_nil ?_ | with_reducible refine w_cons ?_ | with_reducible refine w_op ?_ | with_reducible refine w_un ?_
  | with_reducible refine w_test ?_ | with_reducible refine w_tB ?_ | with_reducible refine w_not ?_ | with_reducible refine w_and ?_ | with_reducible refine w_or ?_ | with_reducible refine w_bl ?_
  | with_reducible refine w_andV ?_ | with_reducible refine w_orV ?_ | with_reducible refine w_notV ?_ | with_reducible refine w_ifE ?_ | with_reducible refine w_chain ?_ | with_reducible refine w_i0 ?_
  | with_reducible refine w_call ?_ | with_reducible refine w_callS ?_ | with_reducible refine w_cB ?_ | with_reducible refine w_tup ?_ | with_reducible refine w_lst ?_ | with_reducible refine w_fldV ?_
  | with_reducible refine w_neF ?_ | with_reducible refine w_neT ?_ | with_reducible refine w_notN ?_ | with_reducible refine w_isN ?_ | with_reducible refine w_gname ?_ | with_reducible refine w_gsub ?_ | with_reducible refine w_asg ?_ | with_reducible refine w_sl ?_ | with_reducible refine w_noP ?_ | with_reducible refine w_int1 ?_ | with_reducible refine w_part ?_ | with_reducible refine w_meth ?_ | with_reducible refine w_din ?_ | with_reducible refine w_dnotin ?_ | with_reducible refine w_dgt ?_ | with_reducible refine w_dget1 ?_ | with_reducible refine w_dget2 ?_ | with_reducible refine w_dput ?_ | with_reducible refine w_yes ?_ | with_reducible refine w_nT ?_ | with_reducible refine w_nF ?_ | with_reducible refine w_iteT ?_ | with_reducible refine w_iteF ?_))
namespace K3
/-! ### == of forms, of editions -/
def RF (K : PySem.W.Frag) : Addr → V → Bool → Hp → Prop := fun a y b H => ∃ rs us c, FormO K H a rs ∧ y = .ref c ∧ FormO K H c us ∧ FB rs ∧ FB us ∧ (b = true ↔ rs = us)
def RE (K : PySem.W.Frag) : Addr → V → Bool → Hp → Prop := fun a y b H => ∃ e, EdO K H a e ∧ FB e.rs ∧ ((∃ i, y = .int i ∧ b = false) ∨ ∃ c d, y = .ref c ∧ EdO K H c d ∧ FB d.rs ∧ (b = true ↔ e.num = d.num ∧ e.rs = d.rs ∧ e.cs = d.cs))
theorem fg : [("Form" : Str)] ∈ eqG := by decide
theorem eg : [("Edition" : Str)] ∈ eqG := by decide
theorem form_at {K : PySem.W.Frag} {H : Hp} {a : Addr} {rs : List Rw} (h : FormO K H a rs) : ∃ dx t d d2 xs, H a = some (.ins (He.ga K "Form") dx [("rows", .ref t), ("questions", .ref d), ("repeated", .ref d2)]) ∧ SqT K H t xs ∧ ROs K H xs rs := by
  obtain ⟨_, dx, t, d, d2, xs, kvs, kv2, h1, h2, h3, _⟩ := h
  exact ⟨dx, t, d, d2, xs, h1, h2, h3⟩
section
variable {K : PySem.W.Frag} {mg : Str → Option Value} {H : Hp}
theorem isiSelf (T : Tx K mg) {x : Str} {a dx : Addr} {fs : List (Str × V)} {Q : VK} (hg : [x] ∈ eqG) (c : Cls K (He.ga K x)) (h : H a = some (.ins (He.ga K x) dx fs)) (q : Q (.bl true) H) : rIsi K [.ref a, .ref (He.ga K x)] H Q := by
  have k := ((T.oe hg (List.mem_singleton.mpr rfl)).2 x (List.mem_singleton.mpr rfl)).2
  rw [beq_self_eq_true] at k
  exact ⟨_, _, _, _, _, rfl, .own _, T.ty (T.one hg (List.mem_singleton.mpr rfl)).kc c ⟨dx, h⟩, k, q⟩
theorem self_oth {X : Cx} (T : Tx X.K X.mg) {H : Hp} {x : Str} {a dx : Addr} {fs : List (Str × V)} (hg : [x] ∈ eqG) (h : H a = some (.ins (He.ga X.K x) dx fs)) : OthT X.K (He.ga X.K x) H (.ref a) := by
  refine ⟨_, dx, fs, h, ?_⟩
  have k := ((T.oe hg (List.mem_singleton.mpr rfl)).2 x (List.mem_singleton.mpr rfl)).1
  rw [beq_self_eq_true] at k ⊢
  exact k
end
/-- pairs of texts -/
theorem mon_pair {K : PySem.W.Frag} : MonB (DTupB K DFlatB) := mon_tupB mon_flatB
theorem prs_self {D : Eqb} {H : Hp} (hs : ∀ x b, D x x b H → b = true) : ∀ {xs : List V} {b : Bool}, PrsB D H xs xs b → b = true
  | [], _, .nil => rfl
  | _ :: _, _, .yes _ t => prs_self hs t
  | _ :: _, _, .no h => absurd (hs _ _ h) Bool.false_ne_true
theorem eqT_pair {X : Cx} : EqT X 1 (DTupB X.K DFlatB) :=
  (rcT_tup mon_flatB eqT_flatB).eqT (fun x y b H ⟨p, q, xs, ys, h1, h2, _⟩ => ⟨.inr ⟨p, h1⟩, .inr ⟨q, h2⟩⟩) fun x b H I ⟨p, q, xs, ys, h1, h2, h3, h4, h5⟩ => by
    rw [h1] at h2
    cases h2
    have e := I.tuple_inj h3 h4
    subst e
    exact prs_self (fun z k ⟨f1, f2, f3⟩ => by rw [← f3]; cases z <;> first | (simp [flatV] at f1; done) | simp [eqV]) h5
theorem prs_two {H : Hp} (a b c d : Str) : ∃ k, PrsB DFlatB H [V.str a, V.str b] [V.str c, V.str d] k ∧ (k = true ↔ (a, b) = (c, d)) := by
  obtain ⟨k, h1, h2⟩ := prs_strs (H := H) [a, b] [c, d]
  exact ⟨k, h1, by rw [h2]; simp⟩
theorem prs_calls {K : PySem.W.Frag} {H : Hp} : ∀ {ps qs : List Addr} {cs ds : List (Str × Str)}, Paired (fun p c => SqT K H p [.str c.1, .str c.2]) ps cs → Paired (fun p c => SqT K H p [.str c.1, .str c.2]) qs ds → ∃ b, PrsB (DTupB K DFlatB) H (ps.map V.ref) (qs.map V.ref) b ∧ (b = true ↔ cs = ds)
  | _, _, _, _, .nil, .nil => ⟨true, .nil, by simp⟩
  | _, _, _, _, .nil, .cons _ _ => ⟨false, .right, by simp⟩
  | _, _, _, _, .cons _ _, .nil => ⟨false, .left, by simp⟩
  | _, _, _, _, .cons (b := c) h1 t1, .cons (b := d) h2 t2 => by
    obtain ⟨b, p, hb⟩ := prs_calls t1 t2
    obtain ⟨k, p2, hk⟩ := prs_two (H := H) c.1 c.2 d.1 d.2
    cases hkv : k with
    | true =>
      rw [hkv] at p2 hk
      have e : c = d := hk.mp rfl
      exact ⟨b, .yes ⟨_, _, _, _, rfl, rfl, h1, h2, p2⟩ p, by rw [hb, e]; simp⟩
    | false =>
      rw [hkv] at p2 hk
      have e : c ≠ d := fun z => Bool.false_ne_true (hk.mpr z)
      exact ⟨false, .no ⟨_, _, _, _, rfl, rfl, h1, h2, p2⟩, by simp [e]⟩
section
variable {P : Program} {w : World} {K : PySem.W.Frag} {mg : Str → Option Value} {base : Heap}
theorem sc_Form_eq : FnScope ["self", "other"] ["self", "other"] (defScope s_Form_eq) := ⟨rfl, rfl, rfl, by decide +kernel, rfl, by decide +kernel, by decide +kernel⟩
theorem eq_Form (T : Tx K mg) : EqM P w K mg base 34 "Form" (RF K) := by
  obtain ⟨fd, F⟩ := T.f_Form_eq
  have O := eqR (P := P) (w := w) (base := base) T 24 3
  refine ⟨⟨_, fd, F.ok (k := 33) sc_Form_eq (fun vs H Q E h => ?_) (fun cdv A outer s_ H vs Q E hr h => ?_), T.m_Form_eq, F.bindsN fun _ _ _ _ _ _ us hl => match us, hl with | [_, _], _ => rfl⟩⟩
  · obtain ⟨a, y, b, rfl, _⟩ := h
    rfl
  obtain ⟨a, y, b, rfl, ⟨rs, us, c, hf, rfl, hg, b1, b2, hb⟩, q⟩ := h
  obtain ⟨dx, t, d, d2, xs, h1, h2, h3⟩ := form_at hf
  obtain ⟨dy, u, d', d2', ys, k1, k2, k3⟩ := form_at hg
  refine ⟨_, pss_one (ps_ret (pe_and (pe_callB call_isi (by rfl) T.z_isinstance (by decide +kernel) (pa_cons (pv 1) (pa_cons (pe_gref T.g_Form) pa_nil))) (pe_one (pe_cmpR (op_own (rcT_tup mon_ro (eqT_R (N := 24) (m := 3) T O)) (hr.mono (by decide))) (pe_fld (pv 0) rfl) (pe_fld (pv 1) rfl) rfl)))), ?_⟩
  walk_at "go"
  refine isiSelf T fg T.cl_Form k1 ?_
  refine ⟨_, rfl, ?_⟩
  rw [if_pos rfl]
  walk_at "go"
  refine ⟨_, _, dx, _, _, rfl, h1, T.cl_Form, T.n_Form_rows, rfl, ?_⟩
  walk_at "go"
  refine ⟨_, _, dy, _, _, rfl, k1, T.cl_Form, T.n_Form_rows, rfl, ?_⟩
  obtain ⟨k, p, hk⟩ := prs_rows h3 k3 b1.cb b2.cb b1.dp
  refine ⟨k, ⟨_, _, _, _, rfl, rfl, h2, k2, p⟩, fun H' e => ?_⟩
  have : k = b := by rw [Bool.eq_iff_iff, hk, hb]
  rw [this]
  exact q H' e
theorem rcF {X : Cx} (T : Tx X.K X.mg) : RcT X 34 .Eq (fun x y b H => ∃ a, x = .ref a ∧ RF X.K a y b H) := by
  intro A pins s σ H x y b u v sb I rx ry ⟨a, e, r⟩
  obtain ⟨rs, us, c, hf, ey, hg, z⟩ := id r
  obtain ⟨dx, t, d, d2, xs, h1, _⟩ := form_at hf
  obtain ⟨dy, u', d', d2', ys, k1, _⟩ := form_at hg
  exact rcT_ins ((eq_Form (P := X.prog) (w := X.w) (base := X.base) T).own T fg (List.mem_singleton.mpr rfl)) A pins s σ H x y b u v sb I rx ry ⟨a, dx, _, e, h1, by rw [ey]; exact self_oth T fg k1, r⟩
theorem rnF {X : Cx} (T : Tx X.K X.mg) : RcT X 35 .NotEq (fun x y b H => ∃ a, x = .ref a ∧ RF X.K a y (!b) H) := by
  intro A pins s σ H x y b u v sb I rx ry ⟨a, e, r⟩
  obtain ⟨rs, us, c, hf, ey, hg, z⟩ := id r
  obtain ⟨dx, t, d, d2, xs, h1, _⟩ := form_at hf
  obtain ⟨dy, u', d', d2', ys, k1, _⟩ := form_at hg
  exact rcN_ins ((eq_Form (P := X.prog) (w := X.w) (base := X.base) T).own T fg (List.mem_singleton.mpr rfl)) A pins s σ H x y b u v sb I rx ry ⟨a, dx, _, e, h1, by rw [ey]; exact self_oth T fg k1, r⟩
theorem sc_Edition_eq : FnScope ["self", "other"] ["self", "other"] (defScope s_Edition_eq) := ⟨rfl, rfl, rfl, by decide +kernel, rfl, by decide +kernel, by decide +kernel⟩
theorem eq_Edition (T : Tx K mg) : EqM P w K mg base 36 "Edition" (RE K) := by
  obtain ⟨fd, F⟩ := T.f_Edition_eq
  refine ⟨⟨_, fd, F.ok (k := 35) sc_Edition_eq (fun vs H Q E h => ?_) (fun cdv A outer s_ H vs Q E hr h => ?_), T.m_Edition_eq, F.bindsN fun _ _ _ _ _ _ us hl => match us, hl with | [_, _], _ => rfl⟩⟩
  · obtain ⟨a, y, b, rfl, _⟩ := h
    rfl
  obtain ⟨a, y, b, rfl, ⟨e, he, b1, hy⟩, q⟩ := h
  obtain ⟨⟨dx, f, t, h1, h2, h3⟩, few⟩ := id he
  refine ⟨_, pss_one (ps_ret (pe_and (pe_callB call_isi (by rfl) T.z_isinstance (by decide +kernel) (pa_cons (pv 1) (pa_cons (pe_gref T.g_Edition) pa_nil))) (pe_and (pe_cmpR op_eq (pe_fld (pv 0) rfl) (pe_fld (pv 1) rfl) rfl) (pe_and (pe_cmpR (op_own (rcF T) (hr.mono (by decide))) (pe_fld (pv 0) rfl) (pe_fld (pv 1) rfl) rfl) (pe_one (pe_cmpR (op_own (rcT_tup mon_pair eqT_pair) (hr.mono (by decide))) (pe_fld (pv 0) rfl) (pe_fld (pv 1) rfl) rfl)))))), ?_⟩
  walk_at "go"
  rcases hy with ⟨i, rfl, rfl⟩ | ⟨c, d, rfl, hd, b2, hb⟩
  · exact isiInt T eg (List.mem_singleton.mpr rfl) ⟨_, rfl, q H Ext.rfl'⟩
  have q' : ∀ (k : Bool) (H' : Hp), (k = true ↔ e.num = d.num ∧ e.rs = d.rs ∧ e.cs = d.cs) → Ext H H' → Q (.bl k) H' := fun k H' hk x => by
    have : k = b := by rw [Bool.eq_iff_iff, hk, hb]
    rw [this]
    exact q H' x
  obtain ⟨⟨dy, g, u, k1, k2, k3⟩, few2⟩ := id hd
  refine isiSelf T eg T.cl_Edition k1 ?_
  refine ⟨_, rfl, ?_⟩
  rw [if_pos rfl]
  walk_at "go"
  refine ⟨_, _, dx, _, _, rfl, h1, T.cl_Edition, T.n_Edition_number, rfl, ?_⟩
  walk_at "go"
  refine ⟨_, _, dy, _, _, rfl, k1, T.cl_Edition, T.n_Edition_number, rfl, ?_⟩
  refine ⟨rfl, ?_⟩
  by_cases e0 : e.num = d.num
  rotate_left
  · rw [show decide (V.int e.num = V.int d.num) = false from decide_eq_false fun z => e0 (V.int.inj z)]
    refine ⟨_, rfl, ?_⟩
    exact q' false H (by simp [e0]) Ext.rfl'
  rw [show decide (V.int e.num = V.int d.num) = true from decide_eq_true (congrArg V.int e0)]
  refine ⟨_, rfl, ?_⟩
  rw [if_pos rfl]
  walk_at "go"
  refine ⟨_, _, dx, _, _, rfl, h1, T.cl_Edition, T.n_Edition_form, rfl, ?_⟩
  walk_at "go"
  refine ⟨_, _, dy, _, _, rfl, k1, T.cl_Edition, T.n_Edition_form, rfl, ?_⟩
  obtain ⟨k, hk⟩ := ex_bool (e.rs = d.rs)
  refine ⟨k, ⟨f, rfl, e.rs, d.rs, g, h2, rfl, k2, b1, b2, hk⟩, fun H1 x1 => ?_⟩
  refine ⟨_, rfl, ?_⟩
  cases hkv : k
  · have e1 : ¬ e.rs = d.rs := fun z => by rw [hkv] at hk; exact Bool.false_ne_true (hk.mpr z)
    exact q' false H1 (by simp [e1]) x1
  have e1 : e.rs = d.rs := hk.mp hkv
  rw [if_pos rfl]
  walk_at "go"
  have s1 : Same H H1 := x1
  refine ⟨_, _, dx, _, _, rfl, s1 _ _ h1, T.cl_Edition, T.n_Edition_calls, rfl, ?_⟩
  walk_at "go"
  refine ⟨_, _, dy, _, _, rfl, s1 _ _ k1, T.cl_Edition, T.n_Edition_calls, rfl, ?_⟩
  obtain ⟨ps, c1, c2⟩ := (h3.same s1).at_
  obtain ⟨qs, c3, c4⟩ := (k3.same s1).at_
  obtain ⟨z, p, hz⟩ := prs_calls c2 c4
  refine ⟨z, ⟨_, _, _, _, rfl, rfl, c1, c3, p⟩, fun H2 x2 => ?_⟩
  exact q' z H2 (by rw [hz]; simp [e0, e1]) (x1.trans x2)
theorem ed_at {H : Hp} {a : Addr} {e : Ed} (h : EdO K H a e) : ∃ dx fs, H a = some (.ins (He.ga K "Edition") dx fs) := by
  obtain ⟨⟨dx, f, t, h1, _⟩, _⟩ := h
  exact ⟨dx, _, h1⟩
theorem re_at {X : Cx} (T : Tx X.K X.mg) {H : Hp} {a : Addr} {y : V} {b : Bool} (r : RE X.K a y b H) : (∃ dx fs, H a = some (.ins (He.ga X.K "Edition") dx fs)) ∧ OthT X.K (He.ga X.K "Edition") H y := by
  obtain ⟨e, he, _, hy⟩ := r
  refine ⟨ed_at he, ?_⟩
  rcases hy with ⟨i, rfl, _⟩ | ⟨c, d, rfl, hd, _⟩
  · trivial
  · obtain ⟨dy, gs, k⟩ := ed_at hd
    exact self_oth T eg k
theorem rcE {X : Cx} (T : Tx X.K X.mg) : RcT X 36 .Eq (fun x y b H => ∃ a, x = .ref a ∧ RE X.K a y b H) := by
  intro A pins s σ H x y b u v sb I rx ry ⟨a, e, r⟩
  obtain ⟨⟨dx, fs, h1⟩, oy⟩ := re_at T r
  exact rcT_ins ((eq_Edition (P := X.prog) (w := X.w) (base := X.base) T).own T eg (List.mem_singleton.mpr rfl)) A pins s σ H x y b u v sb I rx ry ⟨a, dx, _, e, h1, oy, r⟩
theorem rnE {X : Cx} (T : Tx X.K X.mg) : RcT X 37 .NotEq (fun x y b H => ∃ a, x = .ref a ∧ RE X.K a y (!b) H) := by
  intro A pins s σ H x y b u v sb I rx ry ⟨a, e, r⟩
  obtain ⟨⟨dx, fs, h1⟩, oy⟩ := re_at T r
  exact rcN_ins ((eq_Edition (P := X.prog) (w := X.w) (base := X.base) T).own T eg (List.mem_singleton.mpr rfl)) A pins s σ H x y b u v sb I rx ry ⟨a, dx, _, e, h1, oy, r⟩
end
end K3
end O3_part
section Z1_part
set_option Elab.async false
set_option linter.all false
set_option maxRecDepth 100000
set_option maxHeartbeats 1000000
set_option pp.deepTerms true
open PySem PySem.Spec PyProof.Rows L2
/-- go on as far as nothing is open -/
local macro_rules | `(tactic| walk_at "go") => `(tactic| repeat (first
  | with_reducible refine w_seq ?_ | with_reducible refine w_next ?_ | with_reducible refine w_set ?_ | with_reducible refine w_drop ?_ | with_reducible refine w_ret ?_ | with_reducible refine w_retN ?_
  | with_reducible refine w_if ?_ | ((with_reducible refine' w_var ?hv ?_); (case hv => exact rfl)) | with_reducible refine w_c ?_ | with_reducible refine w_nil ?_ | with_reducible refine w_cons ?_ | with_reducible refine w_op ?_ | with_reducible refine w_un ?_
  | with_reducible refine w_test ?_ | with_reducible refine w_tB ?_ | with_reducible refine w_not ?_ | with_reducible refine w_and ?_ | with_reducible refine w_or ?_ | with_reducible refine w_bl ?_
  | with_reducible refine w_andV ?_ | with_reducible refine w_orV ?_ | with_reducible refine w_notV ?_ | with_reducible refine w_ifE ?_ | with_reducible refine w_chain ?_ | with_reducible refine w_i0 ?_
  | with_reducible refine w_call ?_ | with_reducible refine w_callS ?_ | with_reducible refine w_cB ?_ | with_reducible refine w_tup ?_ | with_reducible refine w_lst ?_ | with_reducible refine w_fldV ?_
  | with_reducible refine w_neF ?_ | with_reducible refine w_neT ?_ | with_reducible refine w_notN ?_ | with_reducible refine w_isN ?_ | with_reducible refine w_gname ?_ | with_reducible refine w_gsub ?_ | with_reducible refine w_asg ?_ | with_reducible refine w_sl ?_ | with_reducible refine w_noP ?_ | with_reducible refine w_int1 ?_ | with_reducible refine w_part ?_ | with_reducible refine w_meth ?_ | with_reducible refine w_din ?_ | with_reducible refine w_dnotin ?_ | with_reducible refine w_dgt ?_ | with_reducible refine w_dget1 ?_ | with_reducible refine w_dget2 ?_ | with_reducible refine w_dput ?_ | with_reducible refine w_yes ?_ | with_reducible refine w_nT ?_ | with_reducible refine w_nF ?_ | with_reducible refine w_iteT ?_ | with_reducible refine w_iteF ?_))
namespace K3
/-! ### the law's own name test, and the first that is repeated -/
abbrev spNm (_ : PySem.W.Frag) : Sp := spIsName
def lf : Str := "abcdefghijklmnopqrstuvwxyz0123456789"
theorem lf_in (c : Nat) : decide (c ∈ lf.cps.toList) = (decide (c ∈ lets.cps.toList) || decide (c ∈ figs.cps.toList)) := by
  have : lf.cps.toList = lets.cps.toList ++ figs.cps.toList := by decide +kernel
  rw [this]
  by_cases h1 : c ∈ lets.cps.toList
  · rw [decide_eq_true h1, decide_eq_true (List.mem_append.mpr (.inl h1))]; rfl
  · rw [decide_eq_false h1]
    by_cases h2 : c ∈ figs.cps.toList
    · rw [decide_eq_true h2, decide_eq_true (List.mem_append.mpr (.inr h2))]; rfl
    · rw [decide_eq_false h2, decide_eq_false (fun z => (List.mem_append.mp z).elim h1 h2)]; rfl
def repsF : List Str → List Str → List Str
  | _, [] => []
  | seen, o :: r => (if o ∈ seen then [o] else []) ++ repsF (seen ++ [o]) r
theorem reps_head : ∀ (os seen : List Str), (repsF seen os).head? = dupOf seen os
  | [], _ => rfl
  | o :: os, seen => by
    unfold repsF dupOf
    by_cases h : o ∈ seen
    · rw [if_pos h, if_pos h]; rfl
    · rw [if_neg h, if_neg h, List.nil_append, reps_head os]
theorem reps_snoc : ∀ (os seen : List Str) (x : Str), repsF seen (os ++ [x]) = repsF seen os ++ (if x ∈ seen ++ os then [x] else [])
  | [], seen, x => by
    show (if x ∈ seen then [x] else []) ++ repsF (seen ++ [x]) [] = [] ++ _
    rw [List.append_nil]
    show _ ++ [] = _
    rw [List.append_nil, List.nil_append]
  | o :: os, seen, x => by
    show (if o ∈ seen then [o] else []) ++ repsF (seen ++ [o]) (os ++ [x]) = _
    rw [reps_snoc os]
    show _ = ((if o ∈ seen then [o] else []) ++ repsF (seen ++ [o]) os) ++ _
    rw [List.append_assoc, List.append_assoc]
    simp
theorem reps_len : ∀ (os seen : List Str), (repsF seen os).length ≤ os.length
  | [], _ => Nat.zero_le _
  | o :: os, seen => by
    have := reps_len os (seen ++ [o])
    unfold repsF
    split
    · simp; exact this
    · simp; omega
def optV : Option Str → V
  | none => .non
  | some z => .str z
def spRep (K : PySem.W.Frag) : Sp := fun vs H Q _ => ∃ (l : Addr) (zs : List Str), vs = [.ref l] ∧ SqL K H l (zs.map V.str) ∧ zs.length ≤ 1000 ∧ ∀ H', Same H H' → Q (optV (dupOf [] zs)) H'
section
variable {P : Program} {w : World} {K : PySem.W.Frag} {mg : Str → Option Value} {base : Heap}
theorem sc_law_is_name : FnScope ["_law_text", "_law_sign"] ["_law_text"] (defScope s__law_is_name) := ⟨rfl, rfl, rfl, by decide +kernel, rfl, by decide +kernel, by decide +kernel⟩
theorem ok_law_is_name (T : Tx K mg) : Ok P w K mg base 1 (He.ga K "_law_is_name") ["_law_text"] (spNm K) := by
  obtain ⟨fd, F⟩ := T.f__law_is_name
  refine ⟨fd, F.ok (k := 0) sc_law_is_name (fun vs H Q E h => ?_) (fun cdv A outer s_ H vs Q E hr h => ?_), F.bindsN fun _ _ _ _ _ _ us hl => match us, hl with | [_], _ => rfl, F.kp⟩
  · obtain ⟨z, rfl, hz, q⟩ := h
    rfl
  obtain ⟨z, rfl, hz, q⟩ := h
  have hu65 := K3.Room.units65 hr
  have hu70 := K3.Room.units70 hr
  have hu4 := K3.Room.units4 hr
  have hu64 := Nat.lt_of_succ_lt hu65
  have hu0 := Nat.lt_of_le_of_lt (Nat.le_add_right _ 65) hu65
  have hu1 := Nat.lt_of_le_of_lt (Nat.add_le_add_left (show 1 ≤ 65 by decide) _) hu65
  refine ⟨_, pss_cons (ps_if (pw_or (pt_not (pt_chain op_le op_le pe_int (pe_callB call_len_str (by rfl) T.z_len PySem.boot_len (pa_cons (pv 0) pa_nil)) pe_int)) (pw_or1 (pt_cmpR op_notIn_sign (pe_ix ix_str (pv 0) pe_int (fun _ _ => rfl)) pe_str (by rfl)))).pt (pss_one (ps_ret pe_bl)) pss_nil)
      (pss_one (ps_ret (pe_callB (cr_all (by rfl)) (by rfl) T.z_all (by decide +kernel) (pa_cons (by exact pe_lc (own := [("_law_sign", 1)]) (g := gName 1) (tt := tYes) (te := _) (by rfl) sc_law_is_name.nd (pi_str (pv 0)) (blkOk_by (own := [("_law_sign", 1)]) (N := ["_law_text", "_law_sign"]) (sc := defScope s__law_is_name) (by decide +kernel)) (fun _ _ _ _ _ => (pg_name (i := 1) sc_law_is_name.nd rfl (Or.inl rfl))) (fun _ _ _ _ _ => pts_nil) (fun _ _ _ _ _ => (pe_cmpR op_in_sign (pv 1) pe_str rfl))) pa_nil)))), ?_⟩
  have key : ∀ H', Same H H' → ∀ b, isName z = b → Q (.bl b) H' := fun H' e b h => h ▸ q H' e
  walk_at "go"
  refine ⟨z, rfl, Nat.le_trans hz (by decide), ?_⟩
  walk_at "go"
  by_cases h1 : (1 : Int) ≤ (z.length : Int)
  · rw [decide_eq_true h1]
    walk_at "go"
    by_cases h2 : (z.length : Int) ≤ 8
    · rw [decide_eq_true h2]
      walk_at "go"
      obtain ⟨c, r, hc⟩ : ∃ c r, z.cps.toList = c :: r := by
        cases e : z.cps.toList with
        | nil =>
          have : z.length = 0 := by show z.cps.size = 0; rw [← Array.length_toList, e]; rfl
          omega
        | cons c r => exact ⟨c, r, rfl⟩
      refine ⟨z, 0, c, rfl, rfl, Nat.le_trans hz (by decide), by rw [hc]; exact atI_nat (j := 0) rfl, ?_⟩
      walk_at "go"
      refine ⟨c, lets, rfl, rfl, ?_⟩
      walk_at "go"
      cases h3 : decide (c ∈ lets.cps.toList) with
      | false =>
        walk_at "go"
        refine key _ (Same.refl _) _ ?_
        unfold isName
        rw [hc]
        simp only [h3, Bool.false_and, Bool.and_false]
      | true =>
        walk_at "go"
        refine lc_strF (z := z) (f := fun c => .bl (decide (c ∈ lf.cps.toList))) (fun Q h => w_var rfl h) hz (fun _ => rfl) (fun c H' Q e k => ?_) (fun p H' hp e h => ?_)
        · walk_at "go"
          exact ⟨c, lf, rfl, rfl, k⟩
        · walk_at "go"
          refine ⟨p, z.cps.toList.map fun c => decide (c ∈ lf.cps.toList), rfl, SqL.of (by rw [h, List.map_map]; rfl), ?_⟩
          refine key _ e _ ?_
          unfold isName
          rw [decide_eq_true (show 1 ≤ z.length by omega), decide_eq_true (show z.length ≤ 8 by omega), hc]
          simp only [h3, Bool.true_and, List.all_map, Function.comp_def, id, lf_in]
    · rw [decide_eq_false h2]
      walk_at "go"
      refine key _ (Same.refl _) _ ?_
      unfold isName
      rw [decide_eq_false (show ¬ z.length ≤ 8 by omega)]
      simp
  · rw [decide_eq_false h1]
    walk_at "go"
    refine key _ (Same.refl _) _ ?_
    unfold isName
    rw [decide_eq_false (show ¬ 1 ≤ z.length by omega)]
    simp
theorem sc_repeated : FnScope ["_law_texts", "_law_found", "_law_k"] ["_law_texts"] (defScope s__law_repeated) := ⟨rfl, rfl, rfl, by decide +kernel, rfl, by decide +kernel, by decide +kernel⟩
theorem ok_repeated (T : Tx K mg) : Ok P w K mg base 1 (He.ga K "_law_repeated") ["_law_texts"] (spRep K) := by
  obtain ⟨fd, F⟩ := T.f__law_repeated
  refine ⟨fd, F.ok (k := 0) sc_repeated (fun vs H Q E h => ?_) (fun cdv A outer s_ H vs Q E hr h => ?_), F.bindsN fun _ _ _ _ _ _ us hl => match us, hl with | [_], _ => rfl, F.kp⟩
  · obtain ⟨l, zs, rfl, hl, lz, q⟩ := h
    rfl
  obtain ⟨l, zs, rfl, hl, lz, q⟩ := h
  have hu65 := K3.Room.units65 hr
  have hu70 := K3.Room.units70 hr
  have hu4 := K3.Room.units4 hr
  have hu64 := Nat.lt_of_succ_lt hu65
  have hu0 := Nat.lt_of_le_of_lt (Nat.le_add_right _ 65) hu65
  have hu1 := Nat.lt_of_le_of_lt (Nat.add_le_add_left (show 1 ≤ 65 by decide) _) hu65
  refine ⟨_, pss_cons (by exact ps_setLc (i := 1) (own := [("_law_k", 2)]) (g := gName 2) (tt := (tTest (tOp (rIn K false) (tOp (rIxL K) (tVar 0) (tVar 2)) (tSl (rSlL K) (tVar 0) tNoPart (tPart (tVar 2)))))) (te := (tOp (rIxL K) (tVar 0) (tVar 2))) (by rfl) sc_repeated.nd rfl rfl (by rfl) (pi_range1 rfl T.z_range (pa_cons (pe_callB call_len_seq (by rfl) T.z_len PySem.boot_len (pa_cons (pv 0) pa_nil)) pa_nil)) (blkOk_by (own := [("_law_k", 2)]) (N := ["_law_texts", "_law_found", "_law_k"]) (sc := defScope s__law_repeated) (by decide +kernel)) (fun _ _ _ _ _ => (pg_name (i := 2) sc_repeated.nd rfl (Or.inl rfl))) (fun _ _ _ _ _ => (pts_one (pt_cmpR op_in_seq (pe_ix ix_list (pv 0) (pv 2) (fun _ _ => rfl)) (pe_slice sl_list (pv 0) po_none (po_some (pv 2))) (by rfl)))) (fun _ _ _ _ _ => (pe_ix ix_list (pv 0) (pv 2) (fun _ _ => rfl))))
      (pss_one (ps_ret (pe_ix ix_list (pe_op op_cat (pv 1) (pe_lst (pa_cons pe_non pa_nil))) pe_int (fun _ _ => rfl)))), ?_⟩
  walk_at "go"
  refine lc_open (rng_open ?_)
  walk_at "go"
  refine ⟨l, _, rfl, .inl hl, ?_⟩
  rw [List.length_map]
  walk_at "go"
  refine ⟨_, rfl, by omega, by omega, fun D hD => ?_⟩
  rw [Int.toNat_natCast]
  refine lc_range (lo := 0) (n := zs.length) (fun (i : Nat) H' => Same H H' ∧ H' D = some (.lst ((repsF [] (zs.take i)).map V.str))) ⟨Same.new hD _, upd_same⟩ ?_ ?_
  · rintro i H1 hi ⟨e1, h1⟩
    obtain ⟨x, hx⟩ : ∃ x, zs[i]? = some x := ⟨_, List.getElem?_eq_getElem hi⟩
    have at_ : atI (zs.map V.str) (i : Int) = some (.str x) := atI_nat (by rw [List.getElem?_map, hx]; rfl)
    walk_at "go"
    rw [Int.zero_add]
    refine ⟨rfl, ?_⟩
    walk_at "go"
    refine ⟨l, _, _, _, rfl, rfl, (e1.seq hl), at_, ?_⟩
    walk_at "go"
    refine ⟨l, _, rfl, (e1.seq hl), fun p hp => ?_⟩
    rw [cut_to, ← List.map_take]
    have e2 := Same.new hp (.lst ((zs.take i).map V.str))
    refine ⟨p, _, rfl, .inl (SqL.of upd_same), rfl, flat_strs _, ?_⟩
    have e12 := e1.trans e2
    have h2 := e2 _ _ h1
    generalize upd H1 p (.lst ((zs.take i).map V.str)) = H2 at e2 e12 h2 ⊢
    have stp : repsF [] (zs.take (i + 1)) = repsF [] (zs.take i) ++ (if x ∈ zs.take i then [x] else []) := by
      rw [List.take_add_one, hx]
      exact reps_snoc _ _ _
    rw [inV_strs]
    by_cases c : x ∈ zs.take i
    · rw [decide_eq_true c]
      refine ⟨true, rfl, ?_⟩
      walk_at "go"
      refine ⟨l, _, _, _, rfl, rfl, (e12.seq hl), at_, ?_⟩
      have rl := reps_len (zs.take i) []
      rw [List.length_take] at rl
      refine ⟨_, h2, ?_, e12.mut hD, ?_⟩
      · rw [List.length_map]
        exact Nat.lt_of_le_of_lt (show _ ≤ 1000 by omega) (by decide)
      · rw [upd_same, stp, if_pos c, List.map_append]
        rfl
    · rw [decide_eq_false c]
      refine ⟨false, rfl, ?_⟩
      walk_at "go"
      refine ⟨e12, ?_⟩
      rw [h2, stp, if_neg c, List.append_nil]
  · rintro H1 ⟨e1, h1⟩
    rw [List.take_length] at h1
    walk_at "go"
    refine ⟨(by show 1 ≤ sizeLine; decide), fun p hp => ?_⟩
    have e2 := Same.new hp (.lst [V.non])
    have h2 := e2 _ _ h1
    have g2 : (upd H1 p (.lst [V.non])) p = some (.lst [V.non]) := upd_same
    generalize upd H1 p (.lst [V.non]) = H2 at e2 h2 g2 ⊢
    have rl := reps_len zs []
    refine ⟨D, p, _, _, rfl, rfl, h2, g2, ?_, fun p3 hp3 => ?_⟩
    · rw [List.length_map]
      exact Nat.le_trans (show _ + 1 ≤ 1001 by omega) (by decide)
    have e3 := Same.new hp3 (.lst ((repsF [] zs).map V.str ++ [V.non]))
    walk_at "go"
    have hd := reps_head zs []
    refine ⟨p3, _, ((0 : Nat) : Int), _, rfl, rfl, SqL.of upd_same, atI_nat (v := optV (dupOf [] zs)) ?_, q _ ((e1.trans e2).trans e3)⟩
    rw [← hd]
    cases repsF [] zs with
    | nil => rfl
    | cons a r => rfl
end
end K3
end Z1_part
section Z2_part
set_option Elab.async false
set_option linter.all false
set_option maxRecDepth 100000
set_option maxHeartbeats 1000000
set_option pp.deepTerms true
open PySem PySem.Spec PyProof.Rows L2
/-- go on as far as nothing is open -/
local macro_rules | `(tactic| walk_at "go") => `(tactic| repeat (first
  | with_reducible refine w_seq ?_ | with_reducible refine w_next ?_ | with_reducible refine w_set ?_ | with_reducible refine w_drop ?_ | with_reducible refine w_ret ?_ | with_reducible refine w_retN ?_
  | with_reducible refine w_if ?_ | ((with_reducible refine' w_var ?hv ?_); (case hv => exact rfl)) | with_reducible refine w_c ?_ | with_reducible refine w_nil ?_ | with_reducible refine w_cons ?_ | with_reducible refine w_op ?_ | with_reducible refine w_un ?_
  | with_reducible refine w_test ?_ | with_reducible refine w_tB ?_ | with_reducible refine w_not ?_ | with_reducible refine w_and ?_ | with_reducible refine w_or ?_ | with_reducible refine w_bl ?_
  | with_reducible refine w_andV ?_ | with_reducible refine w_orV ?_ | with_reducible refine w_notV ?_ | with_reducible refine w_ifE ?_ | with_reducible refine w_chain ?_ | with_reducible refine w_i0 ?_
  | with_reducible refine w_call ?_ | with_reducible refine w_callS ?_ | with_reducible refine w_cB ?_ | with_reducible refine w_tup ?_ | with_reducible refine w_lst ?_ | with_reducible refine w_fldV ?_
  | with_reducible refine w_neF ?_ | with_reducible refine w_neT ?_ | with_reducible refine w_notN ?_ | with_reducible refine w_isN ?_ | with_reducible refine w_gname ?_ | with_reducible refine w_gsub ?_ | with_reducible refine w_asg ?_ | with_reducible refine w_sl ?_ | with_reducible refine w_noP ?_ | with_reducible refine w_int1 ?_ | with_reducible refine w_part ?_ | with_reducible refine w_meth ?_ | with_reducible refine w_din ?_ | with_reducible refine w_dnotin ?_ | with_reducible refine w_dgt ?_ | with_reducible refine w_dget1 ?_ | with_reducible refine w_dget2 ?_ | with_reducible refine w_dput ?_ | with_reducible refine w_yes ?_ | with_reducible refine w_nT ?_ | with_reducible refine w_nF ?_ | with_reducible refine w_iteT ?_ | with_reducible refine w_iteF ?_))
namespace K3
/-! ### pairs of names and of texts that are none -/
def PrOk (c : Str × Str) : Prop := c.1.length ≤ 1000 ∧ c.2.length ≤ 1000 ∧ (isName c.1 = true → c.1 ≠ "zzzz1")
def PrsO (H : Hp) (p : Addr) (cs : List (Str × Str)) : Prop := ∃ ts : List Addr, H p = some (.lst (ts.map V.ref)) ∧ Paired (fun t c => H t = some (.tup [.str c.1, .str c.2])) ts cs
theorem PrsO.same {H H' : Hp} (e : Same H H') {p : Addr} {cs : List (Str × Str)} (h : PrsO H p cs) : PrsO H' p cs := let ⟨ts, h1, h2⟩ := h; ⟨ts, e _ _ h1, L2.Paired.mapP h2 fun _ _ z => e _ _ z⟩
theorem PrsO.bm {H H' : Hp} {s p : Addr} {n : Nat} (hs : Well H s n) (e : BM [s] H H') (np : p ≠ s) {cs : List (Str × Str)} (h : PrsO H p cs) : PrsO H' p cs := let ⟨ts, h1, h2⟩ := h; ⟨ts, e.at h1 (by simpa using np), L2.Paired.mapP h2 fun _ _ z => BM.nl hs.src e _ _ (fun _ q => nomatch q) z⟩
def some7 : List Str := ["gone", "A", "", "2x", "abcdefghi", "a b"]
def now4 : List Str := ["gone", "B", "", "a-b"]
theorem ixN_one {n : Nat} (h : 1 < n) : ixN n 1 = some 1 := by
  unfold ixN
  rw [if_pos (by decide), if_pos (by omega)]
  rfl
theorem some7_ok : ∀ z ∈ some7, z.length ≤ 1000 ∧ z ≠ "zzzz1" := by decide +kernel
theorem now4_ok : ∀ z ∈ now4, z.length ≤ 1000 := by decide +kernel
def spPairsW (K : PySem.W.Frag) : Sp := fun vs H Q _ => ∃ (s nl l : Addr) (n : Nat) (ns : List Str) (ys : List V) (qs : List Qd), vs = [.ref s, .ref nl, .ref l] ∧ Well H s n ∧ n + 20 ≤ most ∧ nl ≠ s ∧ H nl = some (.lst (ns.map V.str)) ∧ ns.length = 10 ∧ (∀ z ∈ ns, isName z = true ∧ z ≠ "zzzz1") ∧
  l ≠ s ∧ H l = some (.lst ys) ∧ Paired (QO H) ys qs ∧ qs ≠ [] ∧ qs.length ≤ 1000 ∧ (∀ q ∈ qs, q.name ∈ ns) ∧ ∀ p H' cs, H p = none → p ≠ s → BM [s] H H' → Well H' s (n + 20) → PrsO H' p cs → cs.length ≤ 3 → (∀ c ∈ cs, PrOk c) → Q (.ref p) H'
section
variable {P : Program} {w : World} {K : PySem.W.Frag} {mg : Str → Option Value} {base : Heap}
theorem sc_pairs : FnScope ["_law_well_here", "_law_names_here", "_law_seen", "_law_some", "_law_now", "_law_found", "_law_k", "_law_question_here"] ["_law_well_here", "_law_names_here", "_law_seen"] (defScope s__law_pairs) := ⟨rfl, rfl, rfl, by decide +kernel, rfl, by decide +kernel, by decide +kernel⟩
theorem ok_pairs (T : Tx K mg) : Ok P w K mg base 3 (He.ga K "_law_pairs") ["_law_well_here", "_law_names_here", "_law_seen"] (spPairsW K) := by
  obtain ⟨fd, F⟩ := T.f__law_pairs
  have O_law_draw := ok_draw (P := P) (w := w) (base := base) T
  have O_law_pick := ok_pick (P := P) (w := w) (base := base) T
  refine ⟨fd, F.ok (k := 2) sc_pairs (fun vs H Q E h => ?_) (fun cdv A outer s_ H vs Q E hr h => ?_), F.bindsN fun _ _ _ _ _ _ us hl => match us, hl with | [_, _, _], _ => rfl, F.kp⟩
  · obtain ⟨s, nl, l, n, ns, ys, qs, rfl, hs, hn, nls, hnl, ln, hns, ls, hl, hys, qne, lq, hqn, q⟩ := h
    rfl
  obtain ⟨s, nl, l, n, ns, ys, qs, rfl, hs, hn, nls, hnl, ln, hns, ls, hl, hys, qne, lq, hqn, q⟩ := h
  have hu65 := K3.Room.units65 hr
  have hu70 := K3.Room.units70 hr
  have hu4 := K3.Room.units4 hr
  have hu64 := Nat.lt_of_succ_lt hu65
  have hu0 := Nat.lt_of_le_of_lt (Nat.le_add_right _ 65) hu65
  have hu1 := Nat.lt_of_le_of_lt (Nat.add_le_add_left (show 1 ≤ 65 by decide) _) hu65
  have r_law_draw : Room 1 _ := hr.mono (by decide)
  have r_law_pick : Room 2 _ := hr.mono (by decide)
  refine ⟨_, pss_cons (ps_set (i := 3) sc_pairs.nd rfl (Or.inl rfl) (pe_op op_cat (pe_slice sl_list (pv 1) po_none (po_some pe_int)) (pe_lst (pa_cons (pe_ix ix_tup (pe_ix ix_list (pv 2) pe_int (fun _ _ => rfl)) pe_int (fun _ _ => rfl)) (pa_cons pe_str (pa_cons pe_str (pa_cons pe_str (pa_cons pe_str (pa_cons pe_str (pa_cons pe_str pa_nil))))))))))
      (pss_cons (ps_set (i := 4) sc_pairs.nd rfl (Or.inl rfl) (pe_op op_cat (pe_op op_cat (pe_op op_rep (by exact pe_lc (own := [("_law_question_here", 7)]) (g := gName 7) (tt := tYes) (te := (tOp (rIxT K) (tVar 7) (tC (.int 0)))) (by rfl) sc_pairs.nd (pi_list (pv 2)) (blkOk_by (own := [("_law_question_here", 7)]) (N := ["_law_well_here", "_law_names_here", "_law_seen", "_law_some", "_law_now", "_law_found", "_law_k", "_law_question_here"]) (sc := defScope s__law_pairs) (by decide +kernel)) (fun _ _ _ _ _ => (pg_name (i := 7) sc_pairs.nd rfl (Or.inl rfl))) (fun _ _ _ _ _ => pts_nil) (fun _ _ _ _ _ => (pe_ix ix_tup (pv 7) pe_int (fun _ _ => rfl)))) pe_int) (pe_slice sl_list (pv 1) po_none (po_some pe_int))) (pe_lst (pa_cons pe_str (pa_cons pe_str (pa_cons pe_str (pa_cons pe_str pa_nil)))))))
      (pss_cons (ps_set (i := 5) sc_pairs.nd rfl (Or.inl rfl) (pe_lst pa_nil))
      (pss_cons (ps_for (passes_of rfl) (by rfl) (pi_range1 rfl T.z_range (pa_cons (pe_f O_law_draw r_law_draw T.g__law_draw (pa_cons (pv 0) (pa_cons pe_int pa_nil))) pa_nil)) (pg_name (i := 6) sc_pairs.nd rfl (Or.inl rfl)) (pss_one (ps_expr (pe_bm PySem.F.plainAttrs_list PySem.F.slot_list_append PySem.F.type_list_append mt_append (pv 5) (pa_cons (pe_tup (pa_cons (pe_f O_law_pick r_law_pick T.g__law_pick (pa_cons (pv 0) (pa_cons (pv 3) pa_nil))) (pa_cons (pe_f O_law_pick r_law_pick T.g__law_pick (pa_cons (pv 0) (pa_cons (pv 4) pa_nil))) pa_nil))) pa_nil)))))
      (pss_cons (ps_if (pw_and (pt_cmpR op_eq (pe_f O_law_draw r_law_draw T.g__law_draw (pa_cons (pv 0) (pa_cons pe_int pa_nil))) pe_int (nomark _)) (pw_and1 (pt_cmpR op_gt (pe_callB call_len_seq (by rfl) T.z_len PySem.boot_len (pa_cons (pv 5) pa_nil)) pe_int (nomark _)))).pt (pss_one (ps_asg (pe_ix ix_list (pe_lst (pa_cons (pe_tup (pa_cons (pe_ix ix_tup (pe_ix ix_list (pv 5) pe_int (fun _ _ => rfl)) pe_int (fun _ _ => rfl)) (pa_cons (pe_ix ix_tup (pe_ix ix_list (pv 5) pe_int (fun _ _ => rfl)) pe_int (fun _ _ => rfl)) pa_nil))) (pa_cons (pe_tup (pa_cons (pe_ix ix_tup (pe_ix ix_list (pv 5) pe_int (fun _ _ => rfl)) pe_int (fun _ _ => rfl)) (pa_cons (pe_ix ix_tup (pe_ix ix_list (pv 5) pe_int (fun _ _ => rfl)) pe_int (fun _ _ => rfl)) pa_nil))) pa_nil))) (pe_f O_law_draw r_law_draw T.g__law_draw (pa_cons (pv 0) (pa_cons pe_int pa_nil))) (fun _ _ => rfl)) (pg_sub (pv 5) pe_int set_list))) pss_nil)
      (pss_one (ps_ret (pv 5))))))), ?_⟩
  have ly := hys.length
  obtain ⟨q0, qr, eqs⟩ : ∃ a r, qs = a :: r := by
    cases qs with
    | nil => exact absurd rfl qne
    | cons a r => exact ⟨a, r, rfl⟩
  have hq0 : q0 ∈ qs := by rw [eqs]; exact List.mem_cons_self ..
  obtain ⟨y0, hy0⟩ : ∃ y, ys[0]? = some y := ⟨_, List.getElem?_eq_getElem (by rw [ly, eqs]; simp)⟩
  obtain ⟨q0', hq0', t0, f0, ey0, ht0, hf0⟩ := K3.Paired.get hys hy0
  have : q0' = q0 := by rw [eqs] at hq0'; simpa using hq0'.symm
  subst this
  subst ey0
  have nm9 : ∀ z ∈ ns, z.length ≤ 8 := fun z hz => (name_ok (hns z hz).1).2
  -- the texts that may be old
  walk_at "go"
  refine ⟨nl, _, rfl, SqL.of hnl, fun a1 ha1 => ?_⟩
  rw [show cutV (ns.map V.str) none (some 5) = (ns.take 5).map V.str by rw [List.map_take]; exact cut_to _ 5]
  have e1 := Same.new ha1 (.lst ((ns.take 5).map V.str))
  have g1 : (upd H a1 (.lst ((ns.take 5).map V.str))) a1 = some (.lst ((ns.take 5).map V.str)) := upd_same
  generalize upd H a1 (.lst ((ns.take 5).map V.str)) = H1 at e1 g1 ⊢
  walk_at "go"
  refine ⟨l, _, ((0 : Nat) : Int), _, rfl, rfl, SqL.of (e1 _ _ hl), atI_nat hy0, ?_⟩
  walk_at "go"
  refine ⟨t0, _, ((0 : Nat) : Int), _, rfl, rfl, SqT.of (e1 _ _ ht0), atI_nat rfl, ?_⟩
  walk_at "go"
  refine ⟨(by show 7 ≤ sizeLine; decide), fun a2 ha2 => ?_⟩
  rw [show ([V.str q0'.name, .str "gone", .str "A", .str "", .str "2x", .str "abcdefghi", .str "a b"] : List V) = (q0'.name :: some7).map V.str from rfl]
  have e2 := Same.new ha2 (.lst ((q0'.name :: some7).map V.str))
  have g2 : (upd H1 a2 (.lst ((q0'.name :: some7).map V.str))) a2 = some (.lst ((q0'.name :: some7).map V.str)) := upd_same
  generalize upd H1 a2 (.lst ((q0'.name :: some7).map V.str)) = H2 at e2 g2 ⊢
  have some_ok : ∀ z ∈ ns.take 5 ++ q0'.name :: some7, z.length ≤ 1000 ∧ (isName z = true → z ≠ "zzzz1") := fun z hz => by
    rcases List.mem_append.mp hz with hz | hz
    · have := nm9 z (List.mem_of_mem_take hz)
      exact ⟨by omega, fun _ => (hns z (List.mem_of_mem_take hz)).2⟩
    rcases List.mem_cons.mp hz with rfl | hz
    · have h := hqn q0' hq0
      have := nm9 _ h
      exact ⟨by omega, fun _ => (hns _ h).2⟩
    · exact ⟨(some7_ok z hz).1, fun _ => (some7_ok z hz).2⟩
  refine ⟨a1, a2, _, _, rfl, rfl, e2 _ _ g1, g2, ?_, fun a3 ha3 => ?_⟩
  · rw [List.length_map, List.length_take]
    exact Nat.le_trans (show _ + 7 ≤ 1000 by omega) (by decide)
  rw [← List.map_append]
  have ne1 : ns.take 5 ++ q0'.name :: some7 ≠ [] := by simp
  have len1 : (ns.take 5 ++ q0'.name :: some7).length ≤ 100 := by rw [List.length_append, List.length_take]; show _ + 7 ≤ 100; omega
  generalize ns.take 5 ++ q0'.name :: some7 = sm at some_ok ne1 len1 ⊢
  have e3 := Same.new ha3 (.lst (sm.map V.str))
  have g3 : (upd H2 a3 (.lst (sm.map V.str))) a3 = some (.lst (sm.map V.str)) := upd_same
  have a3s := ((hs.same e1).same e2).ne ha3
  generalize upd H2 a3 (.lst (sm.map V.str)) = H3 at e3 g3 ⊢
  have e03 := (e1.trans e2).trans e3
  -- the texts that may be new
  walk_at "go"
  refine lc_open (list_open ?_)
  walk_at "go"
  refine ⟨l, rfl, ⟨_, SqL.of (e03 _ _ hl)⟩, fun D hD => ?_⟩
  refine lc_list (K := K) (a := l) (xs := ys) (fun (i : Nat) H' => Same H3 H' ∧ H' D = some (.lst (((qs.take i).map Qd.name).map V.str))) ⟨Same.new hD _, upd_same⟩ (fun i H' _ k => SqL.of (k.1 _ _ (e03 _ _ hl))) ?_ ?_
  · rintro i x H4 hx ⟨e4, h4⟩
    obtain ⟨qi, hqi, t, f, rfl, ht, hf⟩ := K3.Paired.get hys hx
    have li := (List.getElem?_eq_some_iff.mp hqi).1
    walk_at "go"
    refine ⟨rfl, ?_⟩
    walk_at "go"
    refine ⟨t, _, ((0 : Nat) : Int), _, rfl, rfl, SqT.of (e4 _ _ (e03 _ _ ht)), atI_nat rfl, ?_⟩
    refine ⟨_, h4, ?_, e4.mut hD, ?_⟩
    · rw [List.length_map, List.length_map, List.length_take]
      exact Nat.lt_of_le_of_lt (show _ ≤ 1000 by omega) (by decide)
    · rw [upd_same, List.take_add_one, hqi, List.map_append, List.map_append]
      rfl
  rintro H4 ⟨e4, h4⟩
  rw [ly, List.take_length] at h4
  have hqlen : ∀ z ∈ qs.map Qd.name, z.length ≤ 1000 := fun z hz => by
    obtain ⟨x, hx, rfl⟩ := List.mem_map.mp hz
    have := nm9 _ (hqn x hx)
    omega
  have lqm : (qs.map Qd.name).length ≤ 1000 := by rw [List.length_map]; exact lq
  have qmne : qs.map Qd.name ≠ [] := by rw [eqs]; simp
  generalize qs.map Qd.name = qm at h4 hqlen lqm qmne
  walk_at "go"
  refine ⟨D, 3, _, rfl, rfl, h4, by decide, by decide, ?_, fun a5 ha5 => ?_⟩
  · rw [List.length_map]
    exact Nat.le_trans (Nat.mul_le_mul_right _ lqm) (by decide)
  have erep : (List.replicate (3 : Int).toNat (qm.map V.str)).flatten = (qm ++ qm ++ qm).map V.str := by
    show (qm.map V.str ++ (qm.map V.str ++ (qm.map V.str ++ []))) = _
    simp
  rw [erep]
  have e5 := Same.new ha5 (.lst ((qm ++ qm ++ qm).map V.str))
  have g5 : (upd H4 a5 (.lst ((qm ++ qm ++ qm).map V.str))) a5 = some (.lst ((qm ++ qm ++ qm).map V.str)) := upd_same
  generalize upd H4 a5 (.lst ((qm ++ qm ++ qm).map V.str)) = H5 at e5 g5 ⊢
  have e05 := (e03.trans e4).trans e5
  walk_at "go"
  refine ⟨nl, _, rfl, SqL.of (e05 _ _ hnl), fun a6 ha6 => ?_⟩
  rw [show cutV (ns.map V.str) none (some 3) = (ns.take 3).map V.str by rw [List.map_take]; exact cut_to _ 3]
  have e6 := Same.new ha6 (.lst ((ns.take 3).map V.str))
  have g6 : (upd H5 a6 (.lst ((ns.take 3).map V.str))) a6 = some (.lst ((ns.take 3).map V.str)) := upd_same
  generalize upd H5 a6 (.lst ((ns.take 3).map V.str)) = H6 at e6 g6 ⊢
  refine ⟨a5, a6, _, _, rfl, rfl, e6 _ _ g5, g6, ?_, fun a7 ha7 => ?_⟩
  · rw [List.length_map, List.length_map, List.length_append, List.length_append, List.length_take]
    exact Nat.le_trans (show _ ≤ 4000 by omega) (by decide)
  rw [← List.map_append]
  have e7 := Same.new ha7 (.lst ((qm ++ qm ++ qm ++ ns.take 3).map V.str))
  have g7 : (upd H6 a7 (.lst ((qm ++ qm ++ qm ++ ns.take 3).map V.str))) a7 = some (.lst ((qm ++ qm ++ qm ++ ns.take 3).map V.str)) := upd_same
  generalize upd H6 a7 (.lst ((qm ++ qm ++ qm ++ ns.take 3).map V.str)) = H7 at e7 g7 ⊢
  walk_at "go"
  refine ⟨(by show 4 ≤ sizeLine; decide), fun a8 ha8 => ?_⟩
  rw [show ([V.str "gone", .str "B", .str "", .str "a-b"] : List V) = now4.map V.str from rfl]
  have e8 := Same.new ha8 (.lst (now4.map V.str))
  have g8 : (upd H7 a8 (.lst (now4.map V.str))) a8 = some (.lst (now4.map V.str)) := upd_same
  generalize upd H7 a8 (.lst (now4.map V.str)) = H8 at e8 g8 ⊢
  have now_ok : ∀ z ∈ qm ++ qm ++ qm ++ ns.take 3 ++ now4, z.length ≤ 1000 := fun z hz => by
    rcases List.mem_append.mp hz with hz | hz
    · rcases List.mem_append.mp hz with hz | hz
      · rcases List.mem_append.mp hz with hz | hz
        · rcases List.mem_append.mp hz with hz | hz <;> exact hqlen z hz
        · exact hqlen z hz
      · have := nm9 z (List.mem_of_mem_take hz)
        omega
    · exact now4_ok z hz
  refine ⟨a7, a8, _, _, rfl, rfl, e8 _ _ g7, g8, ?_, fun a9 ha9 => ?_⟩
  · rw [List.length_map, List.length_append, List.length_append, List.length_append, List.length_take]
    exact Nat.le_trans (show _ + 4 ≤ 4000 by omega) (by decide)
  have len2 : (qm ++ qm ++ qm ++ ns.take 3 ++ now4).length ≤ 4000 := by
    rw [List.length_append, List.length_append, List.length_append, List.length_append, List.length_take]
    show _ + 4 ≤ 4000
    omega
  have ne2 : qm ++ qm ++ qm ++ ns.take 3 ++ now4 ≠ [] := by simp [qmne]
  rw [← List.map_append]
  generalize qm ++ qm ++ qm ++ ns.take 3 ++ now4 = nw at now_ok len2 ne2 ⊢
  have e9 := Same.new ha9 (.lst (nw.map V.str))
  have g9 : (upd H8 a9 (.lst (nw.map V.str))) a9 = some (.lst (nw.map V.str)) := upd_same
  have e58 := (e6.trans e7).trans e8
  have w8 := hs.same (e05.trans e58)
  have a9s := w8.ne ha9
  generalize upd H8 a9 (.lst (nw.map V.str)) = H9 at e9 g9 ⊢
  have e09 := (e05.trans e58).trans e9
  have g39 := (((e4.trans e5).trans e58).trans e9) _ _ g3
  walk_at "go"
  refine ⟨(by show 0 ≤ sizeLine; decide), fun F hF0 => ?_⟩
  have e10 := Same.new hF0 (.lst [])
  have g10 : (upd H9 F (.lst [])) F = some (.lst []) := upd_same
  have w9 := w8.same e9
  have Fs := w9.ne hF0
  generalize upd H9 F (.lst []) = H10 at e10 g10 ⊢
  have w10 := w9.same e10
  have e010 := e09.trans e10
  have F0 : H F = none := e09.free hF0
  have nF3 : a3 ≠ F := ne_of_none g39 hF0
  have nF9 : a9 ≠ F := ne_of_none g9 hF0
  have h310 := e10 _ _ g39
  have h910 := e10 _ _ g9
  walk_at "go"
  refine rng_open ?_
  walk_at "go"
  refine ⟨s, 4, _, rfl, w10, by omega, by decide, by decide, fun r1 H11 hr1 b11 w11 => ?_⟩
  walk_at "go"
  refine ⟨_, rfl, by omega, by omega, ?_⟩
  rw [Int.toNat_natCast]
  refine for_range (lo := 0) (n := r1) (fun (i : Nat) σ H' => ∃ (cs : List (Str × Str)) (o6 o7 : Option V), σ = [some (.ref s), some (.ref nl), some (.ref l), some (.ref a3), some (.ref a9), some (.ref F), o6, o7] ∧ BM [s, F] H10 H' ∧ Well H' s (n + 1 + 2 * i) ∧ PrsO H' F cs ∧ cs.length = i ∧ ∀ c ∈ cs, PrOk c)
    ⟨[], none, none, rfl, b11.mono (by simp), w11, ⟨[], b11.at g10 (by simpa using Fs), .nil⟩, rfl, fun _ h => nomatch h⟩ ?_ ?_
  · rintro i σ H12 hi ⟨cs, o6, o7, rfl, b12, w12, ⟨ts, hF, hts⟩, lc, okc⟩
    have k3 := b12.at h310 (by simp; exact ⟨a3s, nF3⟩)
    have k9 := b12.at h910 (by simp; exact ⟨a9s, nF9⟩)
    walk_at "go"
    refine ⟨_, rfl, .inl ⟨rfl, _, SqL.of hF⟩, ?_⟩
    walk_at "go"
    refine ⟨s, _, _, rfl, w12, by omega, .inl ⟨a3, _, rfl, a3s, ⟨false, SqL.of k3⟩, by simpa using ne1, by rw [List.length_map]; omega, fun v H13 hv b13 w13 => ?_⟩⟩
    obtain ⟨za, hza, rfl⟩ := List.mem_map.mp hv
    walk_at "go"
    refine ⟨s, _, _, rfl, w13, by omega, .inl ⟨a9, _, rfl, a9s, ⟨false, SqL.of (b13.at k9 (by simpa using a9s))⟩, by simpa using ne2, by rw [List.length_map]; omega, fun v H14 hv b14 w14 => ?_⟩⟩
    obtain ⟨zb, hzb, rfl⟩ := List.mem_map.mp hv
    have b1214 := b13.trans b14
    obtain ⟨ts2, hF2, hts2⟩ := PrsO.bm w12 b1214 Fs ⟨ts, hF, hts⟩
    walk_at "go"
    refine ⟨(by show 2 ≤ sizeLine; decide), fun tn htn => ?_⟩
    have e15 := Same.new htn (.tup [V.str za, .str zb])
    have g15 : (upd H14 tn (.tup [V.str za, .str zb])) tn = some (.tup [V.str za, .str zb]) := upd_same
    generalize upd H14 tn (.tup [V.str za, .str zb]) = H15 at e15 g15 ⊢
    have hF15 := e15 _ _ hF2
    have l2 := hts2.length
    refine ⟨F, _, _, rfl, rfl, hF15, ?_, ?_⟩
    · rw [List.length_map]
      exact Nat.lt_of_le_of_lt (show _ ≤ 1000 by omega) (by decide)
    have nlu := NLf.upd hF15 (.lst (ts2.map V.ref ++ [V.ref tn]))
    refine ⟨cs ++ [(za, zb)], _, _, rfl, (((b12.trans (b1214.mono (by simp))).same e15).trans (BM.upd (by simp) _)), ((w14.same e15).upd Fs _).mono (by omega), ⟨ts2 ++ [tn], by rw [upd_same, List.map_append]; rfl, ?_⟩, by rw [List.length_append, lc]; rfl, fun c hc => ?_⟩
    · exact K3.Paired.app (L2.Paired.mapP hts2 fun _ _ z => nlu _ _ (fun _ k => nomatch k) (e15 _ _ z)) (.cons (nlu _ _ (fun _ k => nomatch k) g15) .nil)
    · rcases List.mem_append.mp hc with hc | hc
      · exact okc c hc
      · rw [List.mem_singleton.mp hc]
        exact ⟨(some_ok za hza).1, now_ok zb hzb, (some_ok za hza).2⟩
  · rintro σ H12 ⟨cs, o6, o7, rfl, b12, w12, hP, lc, okc⟩
    have b012 : BM [s] H H12 := BM.drop (M := []) ((BM.of e010).trans b12) F0
    walk_at "go"
    refine ⟨s, 3, _, rfl, w12, by omega, by decide, by decide, fun r2 H13 hr2 b13 w13 => ?_⟩
    have hP13 := PrsO.bm w12 b13 Fs hP
    obtain ⟨ts, hF, hts⟩ := id hP13
    have lts := hts.length
    walk_at "go"
    refine ⟨rfl, ?_⟩
    rw [decV]
    have b013 := b012.trans b13
    have plain : ∀ σ' : L2.St, σ'[5]? = some (some (.ref F)) → ∃ v, σ'[5]? = some (some v) ∧ Q v H13 := fun σ' h => ⟨_, h, q F H13 cs F0 Fs b013 (w13.mono (by omega)) hP13 (by omega) okc⟩
    by_cases c2 : (r2 : Int) = 0
    · rw [decide_eq_true c2]
      walk_at "go"
      refine ⟨F, _, rfl, .inl (SqL.of hF), ?_⟩
      rw [List.length_map, lts]
      walk_at "go"
      by_cases c3 : (1 : Int) < (cs.length : Int)
      · rw [show decide ((cs.length : Int) > 1) = true from decide_eq_true c3]
        walk_at "go"
        obtain ⟨c0, c1, cr, rfl⟩ : ∃ a b r, cs = a :: b :: r := by
          match cs, c3 with
          | a :: b :: r, _ => exact ⟨a, b, r, rfl⟩
        obtain ⟨t0, t1, tr, rfl⟩ : ∃ a b r, ts = a :: b :: r := by
          match ts, lts with
          | a :: b :: r, _ => exact ⟨a, b, r, rfl⟩
        cases hts with
        | cons k0 hts2 =>
        cases hts2 with
        | cons k1 hts3 =>
        have x0 : ∀ {H' : Hp}, Same H13 H' → SqL K H' F (V.ref t0 :: V.ref t1 :: tr.map V.ref) := fun e => SqL.of (e _ _ hF)
        refine ⟨F, _, ((0 : Nat) : Int), _, rfl, rfl, x0 (Same.refl _), atI_nat rfl, ?_⟩
        walk_at "go"
        refine ⟨t0, _, ((0 : Nat) : Int), _, rfl, rfl, SqT.of k0, atI_nat rfl, ?_⟩
        walk_at "go"
        refine ⟨F, _, ((1 : Nat) : Int), _, rfl, rfl, x0 (Same.refl _), atI_nat rfl, ?_⟩
        walk_at "go"
        refine ⟨t1, _, ((1 : Nat) : Int), _, rfl, rfl, SqT.of k1, atI_nat rfl, ?_⟩
        walk_at "go"
        refine ⟨(by show 2 ≤ sizeLine; decide), fun tA htA => ?_⟩
        have e14 := Same.new htA (.tup [V.str c0.1, .str c1.2])
        have gA : (upd H13 tA (.tup [V.str c0.1, .str c1.2])) tA = some (.tup [V.str c0.1, .str c1.2]) := upd_same
        generalize upd H13 tA (.tup [V.str c0.1, .str c1.2]) = H14 at e14 gA ⊢
        walk_at "go"
        refine ⟨F, _, ((1 : Nat) : Int), _, rfl, rfl, x0 e14, atI_nat rfl, ?_⟩
        walk_at "go"
        refine ⟨t1, _, ((0 : Nat) : Int), _, rfl, rfl, SqT.of (e14 _ _ k1), atI_nat rfl, ?_⟩
        walk_at "go"
        refine ⟨F, _, ((0 : Nat) : Int), _, rfl, rfl, x0 e14, atI_nat rfl, ?_⟩
        walk_at "go"
        refine ⟨t0, _, ((1 : Nat) : Int), _, rfl, rfl, SqT.of (e14 _ _ k0), atI_nat rfl, ?_⟩
        walk_at "go"
        refine ⟨(by show 2 ≤ sizeLine; decide), fun tB htB => ?_⟩
        have e15 := Same.new htB (.tup [V.str c1.1, .str c0.2])
        have gB : (upd H14 tB (.tup [V.str c1.1, .str c0.2])) tB = some (.tup [V.str c1.1, .str c0.2]) := upd_same
        generalize upd H14 tB (.tup [V.str c1.1, .str c0.2]) = H15 at e15 gB ⊢
        walk_at "go"
        refine ⟨(by show 2 ≤ sizeLine; decide), fun m hm => ?_⟩
        have e16 := Same.new hm (.lst [V.ref tA, V.ref tB])
        have g16 : (upd H15 m (.lst [V.ref tA, V.ref tB])) m = some (.lst [V.ref tA, V.ref tB]) := upd_same
        have w15 := (w13.same e14).same e15
        have ms := w15.ne hm
        generalize upd H15 m (.lst [V.ref tA, V.ref tB]) = H16 at e16 g16 ⊢
        have e36 := (e14.trans e15).trans e16
        walk_at "go"
        refine ⟨s, 2, _, rfl, w15.same e16, by omega, by decide, by decide, fun r3 H17 hr3 b17 w17 => ?_⟩
        have nl17 := BM.nl (w15.same e16).src b17
        have hF17 := b17.at (e36 _ _ hF) (by simpa using Fs)
        have g17 := b17.at g16 (by simpa using ms)
        have okA : PrOk (c0.1, c1.2) := ⟨(okc c0 (by simp)).1, (okc c1 (by simp)).2.1, (okc c0 (by simp)).2.2⟩
        have okB : PrOk (c1.1, c0.2) := ⟨(okc c1 (by simp)).1, (okc c0 (by simp)).2.1, (okc c1 (by simp)).2.2⟩
        have b17' := (b013.same e36).trans b17
        have fin : ∀ (tn : Addr) (c : Str × Str), H17 tn = some (.tup [.str c.1, .str c.2]) → PrOk c → Q (.ref F) (upd H17 F (.lst ([V.ref t0, V.ref tn] ++ tr.map V.ref))) := fun tn c ht okn => by
          have nlu := NLf.upd hF17 (.lst ([V.ref t0, V.ref tn] ++ tr.map V.ref))
          have up : ∀ {t : Addr} {d : Str × Str}, H13 t = some (.tup [.str d.1, .str d.2]) → (upd H17 F (.lst ([V.ref t0, V.ref tn] ++ tr.map V.ref))) t = some (.tup [.str d.1, .str d.2]) := fun h => nlu _ _ (fun _ k => nomatch k) (nl17 _ _ (fun _ k => nomatch k) (e36 _ _ h))
          refine q F _ (c0 :: c :: cr) F0 Fs (b17'.mut F0) ((w17.upd Fs _).mono (by omega)) ⟨t0 :: tn :: tr, upd_same, .cons (up k0) (.cons (nlu _ _ (fun _ k => nomatch k) ht) (L2.Paired.mapP hts3 fun _ _ z => up z))⟩ (by simp at lc ⊢; omega) fun d hd => ?_
          rcases List.mem_cons.mp hd with rfl | hd
          · exact okc d (by simp)
          rcases List.mem_cons.mp hd with rfl | hd
          · exact okn
          · exact okc d (by simp [hd])
        rcases (show r3 = 0 ∨ r3 = 1 by omega) with rfl | rfl
        · refine ⟨m, _, ((0 : Nat) : Int), _, rfl, rfl, SqL.of g17, atI_nat rfl, ?_⟩
          walk_at "go"
          refine w_setL hF17 (ixN_one (by simp)) ?_
          walk_at "go"
          exact fin tA (c0.1, c1.2) (nl17 _ _ (fun _ k => nomatch k) (e16 _ _ (e15 _ _ gA))) okA
        · refine ⟨m, _, ((1 : Nat) : Int), _, rfl, rfl, SqL.of g17, atI_nat rfl, ?_⟩
          walk_at "go"
          refine w_setL hF17 (ixN_one (by simp)) ?_
          walk_at "go"
          exact fin tB (c1.1, c0.2) (nl17 _ _ (fun _ k => nomatch k) (e16 _ _ gB)) okB
      · rw [show decide ((cs.length : Int) > 1) = false from decide_eq_false c3]
        walk_at "go"
        exact q F H13 cs F0 Fs b013 (w13.mono (by omega)) hP13 (by omega) okc
    · rw [decide_eq_false c2]
      walk_at "go"
      exact q F H13 cs F0 Fs b013 (w13.mono (by omega)) hP13 (by omega) okc
end
end K3
end Z2_part
section Z3_part
set_option Elab.async false
set_option linter.all false
set_option maxRecDepth 100000
set_option maxHeartbeats 1000000
set_option pp.deepTerms true
open PySem PySem.Spec PyProof.Rows L2
/-- go on as far as nothing is open -/
local macro_rules | `(tactic| walk_at "go") => `(tactic| repeat (first
  | with_reducible refine w_seq ?_ | with_reducible refine w_next ?_ | with_reducible refine w_set ?_ | with_reducible refine w_drop ?_ | with_reducible refine w_ret ?_ | with_reducible refine w_retN ?_
  | with_reducible refine w_if ?_ | ((with_reducible refine' w_var ?hv ?_); (case hv => exact rfl)) | with_reducible refine w_c ?_ | with_reducible refine w_nil ?_ | with_reducible refine w_cons ?_ | with_reducible refine w_op ?_ | with_reducible refine w_un ?_
  | with_reducible refine w_test ?_ | with_reducible refine w_tB ?_ | with_reducible refine w_not ?_ | with_reducible refine w_and ?_ | with_reducible refine w_or ?_ | with_reducible refine w_bl ?_
  | with_reducible refine w_andV ?_ | with_reducible refine w_orV ?_ | with_reducible refine w_notV ?_ | with_reducible refine w_ifE ?_ | with_reducible refine w_chain ?_ | with_reducible refine w_i0 ?_
  | with_reducible refine w_call ?_ | with_reducible refine w_callS ?_ | with_reducible refine w_cB ?_ | with_reducible refine w_tup ?_ | with_reducible refine w_lst ?_ | with_reducible refine w_fldV ?_
  | with_reducible refine w_neF ?_ | with_reducible refine w_neT ?_ | with_reducible refine w_notN ?_ | with_reducible refine w_isN ?_ | with_reducible refine w_gname ?_ | with_reducible refine w_gsub ?_ | with_reducible refine w_asg ?_ | with_reducible refine w_sl ?_ | with_reducible refine w_noP ?_ | with_reducible refine w_int1 ?_ | with_reducible refine w_part ?_ | with_reducible refine w_meth ?_ | with_reducible refine w_din ?_ | with_reducible refine w_dnotin ?_ | with_reducible refine w_dgt ?_ | with_reducible refine w_dget1 ?_ | with_reducible refine w_dget2 ?_ | with_reducible refine w_dput ?_ | with_reducible refine w_yes ?_ | with_reducible refine w_nT ?_ | with_reducible refine w_nF ?_ | with_reducible refine w_iteT ?_ | with_reducible refine w_iteF ?_))
namespace K3
/-! ### what is due, what is made -/
def dueT : Option Flt → List V
  | none => [.str "ok", .non, .non]
  | some (.count w n) => [.str "badcount", .str w, .int n]
  | some (.name z) => [.str "noname", .str z, .non]
  | some (.twice z) => [.str "twice", .str z, .non]
  | some (.quest z) => [.str "noquestion", .str z, .non]
  | some (.fit z) => [.str "other", .str z, .non]
theorem mkEdX {K : PySem.W.Frag} {H1 : Hp} {x dx f c : Addr} {e : Ed} {PP : Hp → Prop} {E : XK} (hp : PairsO K H1 c e.cs) (hf : FormO K H1 f e.rs) (few : e.cs.length ≤ 1000) (len : ∀ p ∈ e.cs, p.1.length ≤ 1000 ∧ p.2.length ≤ 1000) (hx : H1 x = none) (hdx : H1 dx = none)
    (bad : ∀ g, edF e = some g → ∀ cls d H', Same H1 H' → IsF K g cls d H' → E cls d H') (good : edF e = none → ∀ H', Same H1 H' → EdO K H' x e → PP H') :
    spEd K [.ref x, .int e.num, .ref f, .ref c] (L2.upd (L2.upd H1 dx (.own x)) x (.ins (He.ga K "Edition") dx [])) (fun v H3 => v = .non ∧ PP H3) E := by
  refine ⟨x, dx, f, c, e, H1, rfl, fun b o h => by rw [upd_ne (ne_of_none h hx), upd_ne (ne_of_none h hdx)]; exact h, hx, hp, hf, few, len, upd_same, ?_⟩
  unfold EdEnd
  cases h : edF e with
  | some g => exact bad g h
  | none => exact fun H' t e' hx' hc' => ⟨rfl, good h H' e' ⟨⟨dx, f, t, hx', hf.same e', hc'⟩, few⟩⟩
theorem PrsO.pairs {K : PySem.W.Frag} {H : Hp} {p : Addr} {cs : List (Str × Str)} (h : PrsO H p cs) : PairsO K H p cs := let ⟨ts, h1, h2⟩ := h; ⟨ts, ⟨false, SqL.of h1⟩, L2.Paired.mapP h2 fun _ _ z => SqT.of z⟩
theorem dup_some {os : List Str} {z : Str} (h : dupOf [] os = some z) : dupF os = some (.twice z) := by unfold dupF; rw [h]; rfl
theorem dup_none {os : List Str} (h : dupOf [] os = none) : dupF os = none := by unfold dupF; rw [h]; rfl
def spDue (K : PySem.W.Frag) : Sp := fun vs H Q _ => ∃ (n : Int) (l pl : Addr) (ys : List V) (qs : List Qd) (cs : List (Str × Str)) (rs : List Rw), vs = [.int n, .ref l, .ref pl] ∧ H l = some (.lst ys) ∧ Paired (QO H) ys qs ∧ qs.length ≤ 1000 ∧ PrsO H pl cs ∧ cs.length ≤ 1000 ∧ (∀ c ∈ cs, c.1.length ≤ 1000 ∧ c.2.length ≤ 1000) ∧ FQ rs qs ∧
  ∀ t H', Same H H' → H t = none → H' t = some (.tup (dueT (edF ⟨n, rs, cs⟩))) → Q (.ref t) H'
def spMade (K : PySem.W.Frag) : Sp := fun vs H Q _ => ∃ (n : Int) (f pl : Addr) (cs : List (Str × Str)) (rs : List Rw), vs = [.int n, .ref f, .ref pl] ∧ FormO K H f rs ∧ PrsO H pl cs ∧ cs.length ≤ 1000 ∧ (∀ c ∈ cs, c.1.length ≤ 1000 ∧ c.2.length ≤ 1000) ∧
  ∀ t H', Same H H' → H t = none → H' t = some (.tup (dueT (edF ⟨n, rs, cs⟩))) → Q (.ref t) H'
theorem fq_is {rs : List Rw} {qs : List Qd} (h : FQ rs qs) (z : Str) : (formQ rs z).isSome = decide (z ∈ qs.map Qd.name) := by
  by_cases k : z ∈ qs.map Qd.name
  · obtain ⟨q, hq, e⟩ := List.mem_map.mp k
    obtain ⟨w, h1, _⟩ := h.some_ q hq
    rw [decide_eq_true k, ← e, h1]
    rfl
  · rw [decide_eq_false k, h.none_ z k]
    rfl
section
variable {P : Program} {w : World} {K : PySem.W.Frag} {mg : Str → Option Value} {base : Heap}
theorem sc_due : FnScope ["_law_number", "_law_seen", "_law_pairs_here", "_law_pair", "_law_text", "_law_k", "_law_found", "_law_old", "_law_new", "_law_question_here"] ["_law_number", "_law_seen", "_law_pairs_here"] (defScope s__law_due) := ⟨rfl, rfl, rfl, by decide +kernel, rfl, by decide +kernel, by decide +kernel⟩
theorem ok_due (T : Tx K mg) : Ok P w K mg base 3 (He.ga K "_law_due") ["_law_number", "_law_seen", "_law_pairs_here"] (spDue K) := by
  obtain ⟨fd, F⟩ := T.f__law_due
  have O_law_repeated := ok_repeated (P := P) (w := w) (base := base) T
  have O_law_is_name := ok_law_is_name (P := P) (w := w) (base := base) T
  refine ⟨fd, F.ok (k := 2) sc_due (fun vs H Q E h => ?_) (fun cdv A outer s_ H vs Q E hr h => ?_), F.bindsN fun _ _ _ _ _ _ us hl => match us, hl with | [_, _, _], _ => rfl, F.kp⟩
  · obtain ⟨n, l, pl, ys, qs, cs, rs, rfl, hl, hys, lq, hP, lcs, lens, fq, q⟩ := h
    rfl
  obtain ⟨n, l, pl, ys, qs, cs, rs, rfl, hl, hys, lq, hP, lcs, lens, fq, q⟩ := h
  have hu65 := K3.Room.units65 hr
  have hu70 := K3.Room.units70 hr
  have hu4 := K3.Room.units4 hr
  have hu64 := Nat.lt_of_succ_lt hu65
  have hu0 := Nat.lt_of_le_of_lt (Nat.le_add_right _ 65) hu65
  have hu1 := Nat.lt_of_le_of_lt (Nat.add_le_add_left (show 1 ≤ 65 by decide) _) hu65
  have r_law_repeated : Room 1 _ := hr.mono (by decide)
  have r_law_is_name : Room 1 _ := hr.mono (by decide)
  refine ⟨_, pss_cons (ps_if (pt_cmpR op_lt (pv 0) pe_int (nomark _)) (pss_one (ps_ret (pe_tup (pa_cons pe_str (pa_cons pe_str (pa_cons (pv 0) pa_nil)))))) pss_nil)
      (Evl.pss_cut (ps_if (pw_and (pt_cmpR op_eq (pv 0) pe_int (nomark _)) (pw_and1 (pt_cmpR (op_neE hu0) (pv 2) (pe_lst pa_nil) (nomark _)))).pt (pss_one (ps_ret (pe_tup (pa_cons pe_str (pa_cons pe_str (pa_cons (pe_callB call_len_seq (by rfl) T.z_len PySem.boot_len (pa_cons (pv 2) pa_nil)) pa_nil)))))) pss_nil)
      (pss_cons (ps_for (passes_of rfl) (by rfl) (pi_list (pv 2)) (pg_name (i := 3) sc_due.nd rfl (Or.inl rfl)) (pss_one (ps_for (passes_of rfl) (by rfl) (pi_tup (pv 3)) (pg_name (i := 4) sc_due.nd rfl (Or.inl rfl)) (pss_one (ps_if (pt_not (pt_val (pe_f O_law_is_name r_law_is_name T.g__law_is_name (pa_cons (pv 4) pa_nil)))) (pss_one (ps_ret (pe_tup (pa_cons pe_str (pa_cons (pv 4) (pa_cons pe_non pa_nil)))))) pss_nil)))))
      (pss_cons (ps_for (passes_of rfl) (by rfl) (pi_range1 rfl T.z_range (pa_cons pe_int pa_nil)) (pg_name (i := 5) sc_due.nd rfl (Or.inr rfl)) (pss_cons (ps_set (i := 6) sc_due.nd rfl (Or.inl rfl) (pe_f O_law_repeated r_law_repeated T.g__law_repeated (pa_cons (by exact pe_lc (own := [("_law_pair", 3)]) (g := gName 3) (tt := tYes) (te := (tOp (rIxT K) (tVar 3) (tVar 5))) (by rfl) sc_due.nd (pi_list (pv 2)) (blkOk_by (own := [("_law_pair", 3)]) (N := ["_law_number", "_law_seen", "_law_pairs_here", "_law_pair", "_law_text", "_law_k", "_law_found", "_law_old", "_law_new", "_law_question_here"]) (sc := defScope s__law_due) (by decide +kernel)) (fun _ _ _ _ _ => (pg_name (i := 3) sc_due.nd rfl (Or.inl rfl))) (fun _ _ _ _ _ => pts_nil) (fun _ _ _ _ _ => (pe_ix ix_tup (pv 3) (pv 5) (fun _ _ => rfl)))) pa_nil)))
      (pss_one (ps_if (pt_cmp (pc_notN (pv 6))) (pss_one (ps_ret (pe_tup (pa_cons pe_str (pa_cons (pv 6) (pa_cons pe_non pa_nil)))))) pss_nil))))
      (pss_cons (ps_for (passes_of rfl) (by rfl) (pi_list (pv 2)) (pg_tup (by rfl) (pgs_cons (pg_name (i := 7) sc_due.nd rfl (Or.inl rfl)) (pgs_cons (pg_name (i := 8) sc_due.nd rfl (Or.inl rfl)) pgs_nil))) (pss_one (ps_if (pt_cmpR op_notIn_seq (pv 8) (by exact pe_lc (own := [("_law_question_here", 9)]) (g := gName 9) (tt := tYes) (te := (tOp (rIxT K) (tVar 9) (tC (.int 0)))) (by rfl) sc_due.nd (pi_list (pv 1)) (blkOk_by (own := [("_law_question_here", 9)]) (N := ["_law_number", "_law_seen", "_law_pairs_here", "_law_pair", "_law_text", "_law_k", "_law_found", "_law_old", "_law_new", "_law_question_here"]) (sc := defScope s__law_due) (by decide +kernel)) (fun _ _ _ _ _ => (pg_name (i := 9) sc_due.nd rfl (Or.inl rfl))) (fun _ _ _ _ _ => pts_nil) (fun _ _ _ _ _ => (pe_ix ix_tup (pv 9) pe_int (fun _ _ => rfl)))) (by rfl)) (pss_one (ps_ret (pe_tup (pa_cons pe_str (pa_cons (pv 8) (pa_cons pe_non pa_nil)))))) pss_nil)))
      (pss_one (ps_ret (pe_tup (pa_cons pe_str (pa_cons pe_non (pa_cons pe_non pa_nil)))))))))), ?_⟩
  have ly := hys.length
  obtain ⟨ts, hpl, hts⟩ := id hP
  have lts := hts.length
  have done : ∀ (o : Option Flt) (H1 : Hp) (xs : List V), edF ⟨n, rs, cs⟩ = o → dueT o = xs → Same H H1 → ∀ t, H1 t = none → Q (.ref t) (upd H1 t (.tup xs)) := fun o H1 xs ho hx e t ht => q t _ (e.trans (Same.new ht _)) (e.free ht) (by rw [upd_same, ho, hx])
  walk_at "go"
  by_cases c1 : n < 1
  · rw [decide_eq_true c1]
    walk_at "go"
    exact ⟨(by show 3 ≤ sizeLine; decide), done _ H _ (by unfold edF cntF; rw [if_pos c1]) rfl (Same.refl _)⟩
  rw [decide_eq_false c1]
  walk_at "go"
  -- what is said once the number is right
  have cnt : ∀ o, callsF rs cs = o → ¬ (n = 1 ∧ 0 < cs.length) → edF ⟨n, rs, cs⟩ = o := fun o h k => by
    unfold edF cntF
    rw [if_neg c1, if_neg k]
    exact h
  refine Evl.q_cut (M := fun σ' H' => σ' = [some (.int n), some (.ref l), some (.ref pl), none, none, none, none, none, none, none] ∧ Same H H' ∧ ¬ (n = 1 ∧ 0 < cs.length)) ?_ ?_
  · walk_at "go"
    refine ⟨rfl, ?_⟩
    rw [decV]
    by_cases c2 : n = 1
    · rw [decide_eq_true c2]
      walk_at "go"
      refine ⟨(by show 0 ≤ sizeLine; decide), fun p0 hp0 => ?_⟩
      have e1 := Same.new hp0 (.lst [])
      have g1 : (upd H p0 (.lst [])) p0 = some (.lst []) := upd_same
      generalize upd H p0 (.lst []) = H1 at e1 g1 ⊢
      refine ⟨pl, p0, _, _, rfl, rfl, SqL.of (e1 _ _ hpl), SqL.of g1, .inr (.inl rfl), ?_⟩
      by_cases c3 : ts.map V.ref = []
      · rw [decide_eq_true ⟨c3, rfl⟩]
        have z : cs.length = 0 := by rw [← lts, ← List.length_map (f := V.ref), c3]; rfl
        walk_at "go"
        exact ⟨rfl, e1, fun k => by omega⟩
      · rw [decide_eq_false fun z => c3 z.1]
        have z : 0 < cs.length := by rw [← lts]; exact List.length_pos_iff.mpr fun k => c3 (by rw [k]; rfl)
        walk_at "go"
        refine ⟨pl, _, rfl, .inl (SqL.of (e1 _ _ hpl)), ?_⟩
        rw [List.length_map, lts]
        walk_at "go"
        refine ⟨(by show 3 ≤ sizeLine; decide), done (some (.count "calls" cs.length)) H1 _ ?_ rfl e1⟩
        unfold edF cntF
        rw [if_neg c1, if_pos ⟨c2, z⟩]
        rfl
    · rw [decide_eq_false c2]
      walk_at "go"
      exact ⟨rfl, Same.refl _, fun k => c2 k.1⟩
  · rintro σ' H1 ⟨rfl, e1, nk⟩
    have hys1 : Paired (QO H1) ys qs := L2.Paired.mapP hys fun _ _ z => z.nl (Same.nl e1)
    have hts1 : Paired (fun t (c : Str × Str) => H1 t = some (.tup [.str c.1, .str c.2])) ts cs := L2.Paired.mapP hts fun _ _ z => e1 _ _ z
    walk_at "go"
    refine list_open ?_
    walk_at "go"
    refine ⟨pl, rfl, ⟨_, SqL.of (e1 _ _ hpl)⟩, ?_⟩
    refine for_list (K := K) (a := pl) (xs := ts.map V.ref) (fun (i : Nat) σ H' => ∃ o3 o4 : Option V, σ = [some (.int n), some (.ref l), some (.ref pl), o3, o4, none, none, none, none, none] ∧ Same H1 H' ∧ pairF (cs.take i) = none) ⟨none, none, rfl, Same.refl _, rfl⟩ (fun i σ H' _ ⟨_, _, _, e, _⟩ => SqL.of (e _ _ (e1 _ _ hpl))) ?_ ?_
    · rintro i x σ H2 hx ⟨o3, o4, rfl, e2, hn⟩
      obtain ⟨t, ht, rfl⟩ := map_ref hx
      obtain ⟨c, hc, htc⟩ := K3.Paired.get hts1 ht
      obtain ⟨g1, g2⟩ := pairF_take hc hn
      obtain ⟨l1, l2⟩ := lens c (List.mem_of_getElem? hc)
      walk_at "go"
      refine ⟨_, rfl, t, rfl, ⟨_, SqT.of (e2 _ _ htc)⟩, ?_⟩
      refine for_it (walk_tup (K := K) (a := t) (xs := [V.str c.1, V.str c.2])) (fun (j : Nat) σ H' => ∃ o4 : Option V, σ = [some (.int n), some (.ref l), some (.ref pl), some (.ref t), o4, none, none, none, none, none] ∧ Same H2 H' ∧ (1 ≤ j → nameF c.1 = none) ∧ (2 ≤ j → nameF c.2 = none)) ⟨o4, rfl, Same.refl _, fun z => by omega, fun z => by omega⟩ (fun j σ H' _ ⟨_, _, e, _⟩ => SqT.of (e _ _ (e2 _ _ htc))) ?_ ?_
      · rintro j x σ H3 H3' hj ⟨o4, rfl, e3, n1, n2⟩ ⟨e3', hx2⟩
        have e3s := e3'.symm
        subst e3s
        obtain ⟨z, rfl, lz, hz⟩ : ∃ z, x = V.str z ∧ z.length ≤ 1000 ∧ ((j = 0 ∧ z = c.1) ∨ (j = 1 ∧ z = c.2)) := by
          match j, hx2 with
          | 0, h => exact ⟨c.1, by simpa using h.symm, l1, .inl ⟨rfl, rfl⟩⟩
          | 1, h => exact ⟨c.2, by simpa using h.symm, l2, .inr ⟨rfl, rfl⟩⟩
          | _ + 2, h => simp at h
        walk_at "go"
        refine ⟨z, rfl, lz, fun H4 e4 => ?_⟩
        refine ⟨_, rfl, ?_⟩
        have nz : ∀ b, isName z = b → nameF z = if b = true then none else some (.name z) := fun b h => by unfold nameF; rw [h]
        cases hb : isName z with
        | false =>
          have hnf := nz _ hb
          rw [if_neg Bool.false_ne_true] at hnf
          walk_at "go"
          refine ⟨(by show 3 ≤ sizeLine; decide), ?_⟩
          refine done (some (.name z)) H4 _ (cnt _ ?_ nk) rfl (((e1.trans e2).trans e3).trans e4)
          have : thenF (nameF c.1) (nameF c.2) = some (.name z) := by
            rcases hz with ⟨rfl, rfl⟩ | ⟨rfl, rfl⟩
            · rw [hnf]; rfl
            · rw [n1 (Nat.le_refl _), hnf]; rfl
          unfold callsF
          rw [g2 _ this]
          rfl
        | true =>
          have hnf := nz _ hb
          rw [if_pos rfl] at hnf
          walk_at "go"
          refine ⟨_, rfl, e3.trans e4, fun _ => ?_, fun _ => ?_⟩
          · rcases hz with ⟨rfl, rfl⟩ | ⟨rfl, rfl⟩
            · exact hnf
            · exact n1 (Nat.le_refl _)
          · rcases hz with ⟨rfl, rfl⟩ | ⟨rfl, rfl⟩
            · omega
            · exact hnf
      · rintro σ H3 ⟨o4, rfl, e3, n1, n2⟩
        exact ⟨_, _, rfl, e2.trans e3, g1 (by rw [n1 (by show 1 ≤ 2; decide), n2 (by show 2 ≤ 2; decide)]; rfl)⟩
    · rintro σ H2 ⟨o3, o4, rfl, e2, hn⟩
      rw [List.length_map, lts, List.take_length] at hn
      have e02 := e1.trans e2
      walk_at "go"
      refine rng_open ?_
      walk_at "go"
      refine ⟨_, rfl, by decide, by decide, ?_⟩
      refine for_range (lo := 0) (n := 2) (fun (i : Nat) σ H' => ∃ o5 o6 : Option V, σ = [some (.int n), some (.ref l), some (.ref pl), o3, o4, o5, o6, none, none, none] ∧ Same H2 H' ∧ (1 ≤ i → dupOf [] (cs.map (·.1)) = none) ∧ (2 ≤ i → dupOf [] (cs.map (·.2)) = none)) ⟨none, none, rfl, Same.refl _, fun z => by omega, fun z => by omega⟩ ?_ ?_
      · rintro i σ H3 hi ⟨o5, o6, rfl, e3, n1, n2⟩
        have e03 := e02.trans e3
        walk_at "go"
        refine lc_open (list_open ?_)
        walk_at "go"
        refine ⟨pl, rfl, ⟨_, SqL.of (e03 _ _ hpl)⟩, fun D2 hD2 => ?_⟩
        obtain ⟨fs, hfs⟩ : ∃ fs : Str × Str → Str, (i = 0 ∧ fs = Prod.fst) ∨ (i = 1 ∧ fs = Prod.snd) := by
          rcases (show i = 0 ∨ i = 1 by omega) with e | e
          · exact ⟨_, .inl ⟨e, rfl⟩⟩
          · exact ⟨_, .inr ⟨e, rfl⟩⟩
        refine lc_list (K := K) (a := pl) (xs := ts.map V.ref) (fun (j : Nat) H' => Same H3 H' ∧ H' D2 = some (.lst (((cs.take j).map fs).map V.str))) ⟨Same.new hD2 _, upd_same⟩ (fun j H' _ k => SqL.of (k.1 _ _ (e03 _ _ hpl))) ?_ ?_
        · rintro j x H4 hx ⟨e4, h4⟩
          obtain ⟨t, ht, rfl⟩ := map_ref hx
          obtain ⟨c, hc, htc⟩ := K3.Paired.get hts ht
          have lj := (List.getElem?_eq_some_iff.mp hc).1
          walk_at "go"
          refine ⟨rfl, ?_⟩
          walk_at "go"
          refine ⟨t, _, _, V.str (fs c), rfl, rfl, SqT.of (e4 _ _ (e03 _ _ htc)), ?_, ?_⟩
          · rw [Int.zero_add]
            rcases hfs with ⟨rfl, rfl⟩ | ⟨rfl, rfl⟩ <;> exact atI_nat rfl
          refine ⟨_, h4, ?_, e4.mut hD2, ?_⟩
          · rw [List.length_map, List.length_map, List.length_take]
            exact Nat.lt_of_le_of_lt (show _ ≤ 1000 by omega) (by decide)
          · rw [upd_same, List.take_add_one, hc, List.map_append, List.map_append]
            rfl
        · rintro H4 ⟨e4, h4⟩
          rw [List.length_map, lts, List.take_length] at h4
          walk_at "go"
          refine ⟨D2, cs.map fs, rfl, SqL.of h4, by rw [List.length_map]; exact lcs, fun H5 e5 => ?_⟩
          have e05 := (e03.trans e4).trans e5
          walk_at "go"
          cases hd : dupOf [] (cs.map fs) with
          | some z =>
            show if (!decide (V.str z = V.non)) = true then _ else _
            rw [show decide (V.str z = V.non) = false from decide_eq_false fun z => nomatch z]
            walk_at "go"
            refine ⟨(by show 3 ≤ sizeLine; decide), ?_⟩
            refine done (some (.twice z)) H5 _ (cnt _ ?_ nk) rfl e05
            unfold callsF
            rw [hn]
            rcases hfs with ⟨rfl, rfl⟩ | ⟨rfl, rfl⟩
            · rw [dup_some hd]; rfl
            · rw [dup_none (n1 (Nat.le_refl _)), dup_some hd]; rfl
          | none =>
            show if (!decide (V.non = V.non)) = true then _ else _
            rw [decide_eq_true rfl]
            walk_at "go"
            refine ⟨_, _, rfl, (e3.trans e4).trans e5, fun _ => ?_, fun _ => ?_⟩
            · rcases hfs with ⟨rfl, rfl⟩ | ⟨rfl, rfl⟩
              · exact hd
              · exact n1 (Nat.le_refl _)
            · rcases hfs with ⟨rfl, rfl⟩ | ⟨rfl, rfl⟩
              · omega
              · exact hd
      · rintro σ H3 ⟨o5, o6, rfl, e3, n1, n2⟩
        have e03 := e02.trans e3
        have hcl : ∀ o, questsF rs cs = o → edF ⟨n, rs, cs⟩ = o := fun o h => cnt o (by
          unfold callsF
          rw [hn, dup_none (n1 (by decide)), dup_none (n2 (by decide))]
          exact h) nk
        walk_at "go"
        refine list_open ?_
        walk_at "go"
        refine ⟨pl, rfl, ⟨_, SqL.of (e03 _ _ hpl)⟩, ?_⟩
        refine for_list (K := K) (a := pl) (xs := ts.map V.ref) (fun (i : Nat) σ H' => ∃ o7 o8 : Option V, σ = [some (.int n), some (.ref l), some (.ref pl), o3, o4, o5, o6, o7, o8, none] ∧ Same H3 H' ∧ questsF rs (cs.take i) = none) ⟨none, none, rfl, Same.refl _, rfl⟩ (fun i σ H' _ ⟨_, _, _, e, _⟩ => SqL.of (e _ _ (e03 _ _ hpl))) ?_ ?_
        · rintro i x σ H4 hx ⟨o7, o8, rfl, e4, hn4⟩
          obtain ⟨t, ht, rfl⟩ := map_ref hx
          obtain ⟨c, hc, htc⟩ := K3.Paired.get hts ht
          obtain ⟨g1, g2⟩ := questsF_take (rs := rs) hc hn4
          have e04 := e03.trans e4
          refine w_gtup (SqT.of (e04 _ _ htc)) rfl (w_gnn ?_)
          walk_at "go"
          refine lc_open (list_open ?_)
          walk_at "go"
          refine ⟨l, rfl, ⟨_, SqL.of (e04 _ _ hl)⟩, fun D2 hD2 => ?_⟩
          refine lc_list (K := K) (a := l) (xs := ys) (fun (j : Nat) H' => Same H4 H' ∧ H' D2 = some (.lst (((qs.take j).map Qd.name).map V.str))) ⟨Same.new hD2 _, upd_same⟩ (fun j H' _ k => SqL.of (k.1 _ _ (e04 _ _ hl))) ?_ ?_
          · rintro j x H5 hx ⟨e5, h5⟩
            obtain ⟨qi, hqi, t2, f2, rfl, ht2, hf2⟩ := K3.Paired.get hys hx
            have lj := (List.getElem?_eq_some_iff.mp hqi).1
            walk_at "go"
            refine ⟨rfl, ?_⟩
            walk_at "go"
            refine ⟨t2, _, ((0 : Nat) : Int), _, rfl, rfl, SqT.of (e5 _ _ (e04 _ _ ht2)), atI_nat rfl, ?_⟩
            refine ⟨_, h5, ?_, e5.mut hD2, ?_⟩
            · rw [List.length_map, List.length_map, List.length_take]
              exact Nat.lt_of_le_of_lt (show _ ≤ 1000 by omega) (by decide)
            · rw [upd_same, List.take_add_one, hqi, List.map_append, List.map_append]
              rfl
          · rintro H5 ⟨e5, h5⟩
            rw [ly, List.take_length] at h5
            walk_at "go"
            refine ⟨D2, _, rfl, .inl (SqL.of h5), rfl, flat_strs _, ?_⟩
            refine ⟨_, rfl, ?_⟩
            show if (!inV (.str c.2) _) = true then _ else _
            rw [inV_strs, ← fq_is fq]
            cases hs : (formQ rs c.2).isSome with
            | true =>
              walk_at "go"
              exact ⟨_, _, rfl, e4.trans e5, g1 hs⟩
            | false =>
              walk_at "go"
              refine ⟨(by show 3 ≤ sizeLine; decide), ?_⟩
              exact done (some (.quest c.2)) H5 _ (hcl _ (g2 hs)) rfl (e04.trans e5)
        · rintro σ H4 ⟨o7, o8, rfl, e4, hn4⟩
          rw [List.length_map, lts, List.take_length] at hn4
          walk_at "go"
          refine ⟨(by show 3 ≤ sizeLine; decide), ?_⟩
          exact done none H4 _ (hcl _ hn4) rfl (e03.trans e4)
end
end K3
end Z3_part
section Z4_part
set_option Elab.async false
set_option linter.all false
set_option maxRecDepth 100000
set_option maxHeartbeats 1000000
set_option pp.deepTerms true
open PySem PySem.Spec PyProof.Rows L2
/-- go on as far as nothing is open -/
local macro_rules | `(tactic| walk_at "go") => `(tactic| repeat (first
  | with_reducible refine w_seq ?_ | with_reducible refine w_next ?_ | with_reducible refine w_set ?_ | with_reducible refine w_drop ?_ | with_reducible refine w_ret ?_ | with_reducible refine w_retN ?_
  | with_reducible refine w_if ?_ | ((with_reducible refine' w_var ?hv ?_); (case hv => exact rfl)) | with_reducible refine w_c ?_ | with_reducible refine w_nil ?_ | with_reducible refine w_cons ?_ | with_reducible refine w_op ?_ | with_reducible refine w_un ?_
  | with_reducible refine w_test ?_ | with_reducible refine w_tB ?_ | with_reducible refine w_not ?_ | with_reducible refine w_and ?_ | with_reducible refine w_or ?_ | with_reducible refine w_bl ?_
  | with_reducible refine w_andV ?_ | with_reducible refine w_orV ?_ | with_reducible refine w_notV ?_ | with_reducible refine w_ifE ?_ | with_reducible refine w_chain ?_ | with_reducible refine w_i0 ?_
  | with_reducible refine w_call ?_ | with_reducible refine w_callS ?_ | with_reducible refine w_cB ?_ | with_reducible refine w_tup ?_ | with_reducible refine w_lst ?_ | with_reducible refine w_fldV ?_
  | with_reducible refine w_neF ?_ | with_reducible refine w_neT ?_ | with_reducible refine w_notN ?_ | with_reducible refine w_isN ?_ | with_reducible refine w_gname ?_ | with_reducible refine w_gsub ?_ | with_reducible refine w_asg ?_ | with_reducible refine w_sl ?_ | with_reducible refine w_noP ?_ | with_reducible refine w_int1 ?_ | with_reducible refine w_part ?_ | with_reducible refine w_meth ?_ | with_reducible refine w_din ?_ | with_reducible refine w_dnotin ?_ | with_reducible refine w_dgt ?_ | with_reducible refine w_dget1 ?_ | with_reducible refine w_dget2 ?_ | with_reducible refine w_dput ?_ | with_reducible refine w_yes ?_ | with_reducible refine w_nT ?_ | with_reducible refine w_nF ?_ | with_reducible refine w_iteT ?_ | with_reducible refine w_iteF ?_))
namespace K3
/-! ### what is made -/
theorem thenF_fit {a b : Option Flt} {z : Str} (h1 : a ≠ some (.fit z)) (h2 : b ≠ some (.fit z)) : thenF a b ≠ some (.fit z) := by
  cases a with
  | some f => exact h1
  | none => exact h2
theorem nameF_fit (s z : Str) : nameF s ≠ some (.fit z) := by
  unfold nameF
  split <;> exact fun h => nomatch h
theorem dupF_fit (l : List Str) (z : Str) : dupF l ≠ some (.fit z) := by
  unfold dupF
  cases dupOf [] l <;> exact fun h => nomatch h
theorem pairF_fit (z : Str) : ∀ cs : List (Str × Str), pairF cs ≠ some (.fit z)
  | [] => fun h => nomatch h
  | c :: r => thenF_fit (nameF_fit _ _) (thenF_fit (nameF_fit _ _) (pairF_fit z r))
theorem questsF_fit (rs : List Rw) (z : Str) : ∀ cs : List (Str × Str), questsF rs cs ≠ some (.fit z)
  | [] => fun h => nomatch h
  | c :: r => by
    show (if (formQ rs c.2).isSome = true then questsF rs r else some (.quest c.2)) ≠ _
    split
    · exact questsF_fit rs z r
    · exact fun h => nomatch h
theorem edF_fit (e : Ed) (z : Str) : edF e ≠ some (.fit z) := by
  unfold edF callsF
  refine thenF_fit ?_ (thenF_fit (pairF_fit z _) (thenF_fit (dupF_fit _ z) (thenF_fit (dupF_fit _ z) (questsF_fit _ z _))))
  unfold cntF
  split
  · exact fun h => nomatch h
  · split <;> exact fun h => nomatch h
theorem Tx.hit {K : PySem.W.Frag} {mg : Str → Option Value} (T : Tx K mg) {x : Str} (hx : x ∈ errN) : PySem.W.exmOne K (.ref (He.ga K x)) (.ref (He.ga K x)) = some true := by
  rw [T.exm hx hx]
  exact congrArg some (beq_self_eq_true x)
theorem Tx.miss {K : PySem.W.Frag} {mg : Str → Option Value} (T : Tx K mg) {x y : Str} (hx : x ∈ errN) (hy : y ∈ errN) (h : (x == y) = false) : PySem.W.exmOne K (.ref (He.ga K x)) (.ref (He.ga K y)) = some false := by
  rw [T.exm hx hy, h]
section
variable {P : Program} {w : World} {K : PySem.W.Frag} {mg : Str → Option Value} {base : Heap}
theorem sc_made : FnScope ["_law_number", "_law_form_here", "_law_pairs_here", "e"] ["_law_number", "_law_form_here", "_law_pairs_here"] (defScope s__law_made) := ⟨rfl, rfl, rfl, by decide +kernel, rfl, by decide +kernel, by decide +kernel⟩
theorem ok_made (T : Tx K mg) : Ok P w K mg base 7 (He.ga K "_law_made") ["_law_number", "_law_form_here", "_law_pairs_here"] (spMade K) := by
  obtain ⟨fd, F⟩ := T.f__law_made
  obtain ⟨fEd, FEd⟩ := T.f_Edition_init
  have kbEd := kb_of (n := 3) (ks := ["calls"]) (ps := ["self", "number", "form", "calls"]) FEd (fun _ _ _ _ _ _ us ws h1 h2 => match us, ws, h1, h2 with | [_, _, _], [_], _, _ => rfl)
  refine ⟨fd, F.ok (k := 6) sc_made (fun vs H Q E h => ?_) (fun cdv A outer s_ H vs Q E hr h => ?_), F.bindsN fun _ _ _ _ _ _ us hl => match us, hl with | [_, _, _], _ => rfl, F.kp⟩
  · obtain ⟨n, f, pl, cs, rs, rfl, hf, hP, lcs, lens, q⟩ := h
    rfl
  obtain ⟨n, f, pl, cs, rs, rfl, hf, hP, lcs, lens, q⟩ := h
  have hu65 := K3.Room.units65 hr
  have hu70 := K3.Room.units70 hr
  have hu4 := K3.Room.units4 hr
  have hu64 := Nat.lt_of_succ_lt hu65
  have hu0 := Nat.lt_of_le_of_lt (Nat.le_add_right _ 65) hu65
  have hu1 := Nat.lt_of_le_of_lt (Nat.add_le_add_left (show 1 ≤ 65 by decide) _) hu65
  refine ⟨_, pss_cons (ps_try_mix (tb := fun W => tDrop (tMakeKS (He.ga K "Edition") 2 1 (spEd K) (WE W) (tCons (tVar 0) (tCons (tVar 1) tNil)) (tCons (tVar 2) tNil))) rfl rfl sc_made.nd (takes_of rfl rfl rfl rfl) (fun W pn xe tk _ => pss_one (ps_expr (pe_makeKS T.mk_Edition (ok_Edition T FEd) (hr.mono (by decide : 6 ≤ 6)) (by rfl) T.g_Edition kbEd (fun σ => passAt tk σ) (pa_cons (pv 0) (pa_cons (pv 1) pa_nil)) (pk_cons (pv 2) pk_nil)))) (HdsMix.named (i := 3) (ts := fun a cls d => tRet (tTup (tCons (tC (.str "badcount")) (tCons (tXfA K a cls d "what" (tVar 3)) (tCons (tXfA K a cls d "count" (tVar 3)) tNil))))) ⟨rfl, by decide, Or.inl T.g_BadCount⟩ rfl rfl (fun a oe cls d pn hz hf => pss_one (ps_ret (pe_tup (pa_cons pe_str (pa_cons (pe_xfA hz hf (pv 3)) (pa_cons (pe_xfA hz hf (pv 3)) pa_nil)))))) (HdsMix.named (i := 3) (ts := fun a cls d => tRet (tTup (tCons (tC (.str "noname")) (tCons (tXfA K a cls d "name" (tVar 3)) (tCons (tC .non) tNil))))) ⟨rfl, by decide, Or.inl T.g_NoName⟩ rfl rfl (fun a oe cls d pn hz hf => pss_one (ps_ret (pe_tup (pa_cons pe_str (pa_cons (pe_xfA hz hf (pv 3)) (pa_cons pe_non pa_nil)))))) (HdsMix.named (i := 3) (ts := fun a cls d => tRet (tTup (tCons (tC (.str "twice")) (tCons (tXfA K a cls d "name" (tVar 3)) (tCons (tC .non) tNil))))) ⟨rfl, by decide, Or.inl T.g_Twice⟩ rfl rfl (fun a oe cls d pn hz hf => pss_one (ps_ret (pe_tup (pa_cons pe_str (pa_cons (pe_xfA hz hf (pv 3)) (pa_cons pe_non pa_nil)))))) (HdsMix.named (i := 3) (ts := fun a cls d => tRet (tTup (tCons (tC (.str "noquestion")) (tCons (tXfA K a cls d "name" (tVar 3)) (tCons (tC .non) tNil))))) ⟨rfl, by decide, Or.inl T.g_NoQuestion⟩ rfl rfl (fun a oe cls d pn hz hf => pss_one (ps_ret (pe_tup (pa_cons pe_str (pa_cons (pe_xfA hz hf (pv 3)) (pa_cons pe_non pa_nil)))))) (HdsMix.plain (ts := fun a cls d => tRet (tTup (tCons (tC (.str "other")) (tCons (tC .non) (tCons (tC .non) tNil))))) ⟨rfl, by decide, Or.inl T.g_HallError⟩ (fun a oe cls d pn hz hf => pss_one (ps_ret (pe_tup (pa_cons pe_str (pa_cons pe_non (pa_cons pe_non pa_nil)))))) .nil))))))
      (pss_one (ps_ret (pe_tup (pa_cons pe_str (pa_cons pe_non (pa_cons pe_non pa_nil)))))), ?_⟩
  have done : ∀ (o : Option Flt) (H1 : Hp) (xs : List V), edF ⟨n, rs, cs⟩ = o → dueT o = xs → Same H H1 → ∀ t, H1 t = none → Q (.ref t) (upd H1 t (.tup xs)) := fun o H1 xs ho hx e t ht => q t _ (e.trans (Same.new ht _)) (e.free ht) (by rw [upd_same, ho, hx])
  walk_at "go"
  refine w_makeKS ?_
  walk_at "go"
  refine ⟨rfl, rfl, fun x dx hx hdx hne => mkEdX (e := ⟨n, rs, cs⟩) hP.pairs hf lcs lens hx hdx ?_ ?_⟩
  · intro g hg cls d H1 e1 hF
    cases g with
    | count w m =>
      obtain ⟨rfl, dd, rfl, hd⟩ := hF
      refine ⟨true, T.hit (by decide), fun _ a ha => ?_, fun z => nomatch z⟩
      walk_at "go"
      refine w_xfA rfl ⟨rfl, dd, rfl, hd⟩ (T.err (by decide)) T.n_BadCount_what rfl ?_
      walk_at "go"
      refine w_xfA rfl ⟨rfl, dd, rfl, hd⟩ (T.err (by decide)) T.n_BadCount_count rfl ?_
      exact ⟨(by show 3 ≤ sizeLine; decide), done _ H1 _ hg rfl e1⟩
    | name z =>
      obtain ⟨rfl, dd, rfl, hd⟩ := hF
      refine ⟨false, T.miss (by decide) (by decide) (by decide), fun z => (nomatch z), fun _ => ?_⟩
      refine ⟨true, T.hit (by decide), fun _ a ha => ?_, fun z => nomatch z⟩
      walk_at "go"
      refine w_xfA rfl ⟨rfl, dd, rfl, hd⟩ (T.err (by decide)) T.n_NoName_name rfl ?_
      walk_at "go"
      exact ⟨(by show 3 ≤ sizeLine; decide), done _ H1 _ hg rfl e1⟩
    | twice z =>
      obtain ⟨rfl, dd, rfl, hd⟩ := hF
      refine ⟨false, T.miss (by decide) (by decide) (by decide), fun z => (nomatch z), fun _ => ?_⟩
      refine ⟨false, T.miss (by decide) (by decide) (by decide), fun z => (nomatch z), fun _ => ?_⟩
      refine ⟨true, T.hit (by decide), fun _ a ha => ?_, fun z => nomatch z⟩
      walk_at "go"
      refine w_xfA rfl ⟨rfl, dd, rfl, hd⟩ (T.err (by decide)) T.n_Twice_name rfl ?_
      walk_at "go"
      exact ⟨(by show 3 ≤ sizeLine; decide), done _ H1 _ hg rfl e1⟩
    | quest z =>
      obtain ⟨rfl, dd, rfl, hd⟩ := hF
      refine ⟨false, T.miss (by decide) (by decide) (by decide), fun z => (nomatch z), fun _ => ?_⟩
      refine ⟨false, T.miss (by decide) (by decide) (by decide), fun z => (nomatch z), fun _ => ?_⟩
      refine ⟨false, T.miss (by decide) (by decide) (by decide), fun z => (nomatch z), fun _ => ?_⟩
      refine ⟨true, T.hit (by decide), fun _ a ha => ?_, fun z => nomatch z⟩
      walk_at "go"
      refine w_xfA rfl ⟨rfl, dd, rfl, hd⟩ (T.err (by decide)) T.n_NoQuestion_name rfl ?_
      walk_at "go"
      exact ⟨(by show 3 ≤ sizeLine; decide), done _ H1 _ hg rfl e1⟩
    | fit z => exact absurd hg (edF_fit _ z)
  · intro hn H1 e1 hEd
    walk_at "go"
    exact ⟨(by show 3 ≤ sizeLine; decide), done _ H1 _ hn rfl e1⟩
end
end K3
end Z4_part
section Z5_part
set_option Elab.async false
set_option linter.all false
set_option maxRecDepth 100000
set_option maxHeartbeats 1000000
set_option pp.deepTerms true
open PySem PySem.Spec PyProof.Rows L2
/-- go on as far as nothing is open -/
local macro_rules | `(tactic| walk_at "go") => `(tactic| repeat (first
  | with_reducible refine w_seq ?_ | with_reducible refine w_next ?_ | with_reducible refine w_set ?_ | with_reducible refine w_drop ?_ | with_reducible refine w_ret ?_ | with_reducible refine w_retN ?_
  | with_reducible refine w_if ?_ | ((with_reducible refine' w_var ?hv ?_); (case hv => exact rfl)) | with_reducible refine w_c ?_ | with_reducible refine w_nil ?_ | with_reducible refine w_cons ?_ | with_reducible refine w_op ?_ | with_reducible refine w_un ?_
  | with_reducible refine w_test ?_ | with_reducible refine w_tB ?_ | with_reducible refine w_not ?_ | with_reducible refine w_and ?_ | with_reducible refine w_or ?_ | with_reducible refine w_bl ?_
  | with_reducible refine w_andV ?_ | with_reducible refine w_orV ?_ | with_reducible refine w_notV ?_ | with_reducible refine w_ifE ?_ | with_reducible refine w_chain ?_ | with_reducible refine w_i0 ?_
  | with_reducible refine w_call ?_ | with_reducible refine w_callS ?_ | with_reducible refine w_cB ?_ | with_reducible refine w_tup ?_ | with_reducible refine w_lst ?_ | with_reducible refine w_fldV ?_
  | with_reducible refine w_neF ?_ | with_reducible refine w_neT ?_ | with_reducible refine w_notN ?_ | with_reducible refine w_isN ?_ | with_reducible refine w_gname ?_ | with_reducible refine w_gsub ?_ | with_reducible refine w_asg ?_ | with_reducible refine w_sl ?_ | with_reducible refine w_noP ?_ | with_reducible refine w_int1 ?_ | with_reducible refine w_part ?_ | with_reducible refine w_meth ?_ | with_reducible refine w_din ?_ | with_reducible refine w_dnotin ?_ | with_reducible refine w_dgt ?_ | with_reducible refine w_dget1 ?_ | with_reducible refine w_dget2 ?_ | with_reducible refine w_dput ?_ | with_reducible refine w_yes ?_ | with_reducible refine w_nT ?_ | with_reducible refine w_nF ?_ | with_reducible refine w_iteT ?_ | with_reducible refine w_iteF ?_))
namespace K3
/-! ### tuples that are equal item by item, some deep -/
def TEq (K : PySem.W.Frag) (H : Hp) : Nat → V → V → Prop
  | 0, x, y => x = y ∧ flatB x = true
  | n + 1, x, y => (x = y ∧ flatB x = true) ∨ ∃ a b xs ys, x = .ref a ∧ y = .ref b ∧ SqT K H a xs ∧ SqT K H b ys ∧ Paired (TEq K H n) xs ys
theorem every_true (n : Nat) : ((List.range n).all fun _ => true) = true := by simp
section
variable {X : Cx} {pins : List (Addr × Obj)} {σ : L2.St} {H : Hp} {s : Shared}
theorem teq_at (I : Inv X pins σ H s) : ∀ (n : Nat) {A : Around}, A.units + n < cLine → ∀ {x y : V} {u v : Value}, TEq X.K H n x y → RelV x u → RelV y v → SeqAt.EqAt A s u v true
  | 0, A, hu, x, y, u, v, h, rx, ry => by
    obtain ⟨rfl, f⟩ := h
    exact eqAt_same rx ry f
  | n + 1, A, hu, x, y, u, v, h, rx, ry => by
    rcases h with ⟨rfl, f⟩ | ⟨a, b, xs, ys, rfl, rfl, ha, hb, hp⟩
    · exact eqAt_same rx ry f
    · cases rx
      cases ry
      by_cases c : a = b
      · subst c
        exact SeqAt.EqAt.same _
      · obtain ⟨is, r1, p1, _⟩ := I.tuple ha
        obtain ⟨js, r2, p2, _⟩ := I.tuple hb
        have hs : is.toArray.size = js.toArray.size := by rw [List.size_toArray, List.size_toArray, ← r1.length, ← r2.length, hp.length]
        have k := SeqAt.RcAt.tuples (A := A) (e := fun _ => true) p1 p2 (by omega) fun j h1 h2 => by
          have h1' : j < is.length := by simpa using h1
          have h2' : j < js.length := by simpa using h2
          obtain ⟨z, hz, rz⟩ : ∃ z, xs[j]? = some z ∧ RelV z is[j] := ⟨xs[j]'(by rw [r1.length]; exact h1'), List.getElem?_eq_getElem _, vals_at r1 (List.getElem?_eq_getElem (by rw [r1.length]; exact h1')) h1⟩
          obtain ⟨z2, hz2, e⟩ := K3.Paired.get hp hz
          have rz2 := vals_at r2 hz2 h2
          exact teq_at I n (A := A.in1) (by show A.units + 1 + n < cLine; omega) e (by simpa using rz) (by simpa using rz2)
        rw [hs, every_true, beq_self_eq_true] at k
        exact SeqAt.EqAt.of_refs c k
end
def rNeTE (K : PySem.W.Frag) (n : Nat) : R2 := fun x y H Q => ∃ a b xs ys, x = .ref a ∧ y = .ref b ∧ SqT K H a xs ∧ SqT K H b ys ∧ Paired (TEq K H n) xs ys ∧ Q (.bl false) H
theorem op_neTE {X : Cx} {n : Nat} (hu : X.A.units + 4 < cLine) (hn : n ≤ 2 := by decide) : OpR X (compareOp .NotEq) (rNeTE X.K n) := by
  intro pins s σ H x y v u Q I rx ry ⟨a, b, xs, ys, ex, ey, ha, hb, hp, q⟩
  subst ex ey
  cases rx
  cases ry
  obtain ⟨is, r1, p1, _⟩ := I.tuple ha
  obtain ⟨js, r2, p2, _⟩ := I.tuple hb
  have hs : is.toArray.size = js.toArray.size := by rw [List.size_toArray, List.size_toArray, ← r1.length, ← r2.length, hp.length]
  refine SeqAt.RcNeAt.tuples (e := fun _ => true) p1 p2 (by omega) (fun j h1 h2 => ?_) X.prog X.w X.xe _ ?_
  · have h1' : j < is.length := by simpa using h1
    obtain ⟨z, hz, rz⟩ : ∃ z, xs[j]? = some z ∧ RelV z is.toArray[j] := ⟨xs[j]'(by rw [r1.length]; exact h1'), List.getElem?_eq_getElem _, vals_at r1 (List.getElem?_eq_getElem (by rw [r1.length]; exact h1')) h1⟩
    obtain ⟨z2, hz2, e⟩ := K3.Paired.get hp hz
    exact teq_at I n (by show X.A.units + 1 + n < cLine; omega) e rz (vals_at r2 hz2 h2)
  · rw [every_true, hs, beq_self_eq_true]
    exact ⟨.bl false, H, I, rfl, q⟩
theorem teq_flat {K : PySem.W.Frag} {H : Hp} {n : Nat} : ∀ xs : List V, (∀ x ∈ xs, flatB x = true) → Paired (TEq K H n) xs xs
  | [], _ => .nil
  | x :: xs, h => .cons (by cases n with | zero => exact ⟨rfl, h x (List.mem_cons_self ..)⟩ | succ n => exact .inl ⟨rfl, h x (List.mem_cons_self ..)⟩) (teq_flat xs fun y hy => h y (List.mem_cons_of_mem _ hy))
/-- two tuples of the same pairs of texts -/
theorem teq_calls {K : PySem.W.Frag} {H : Hp} : ∀ {ps qs : List Addr} {cs : List (Str × Str)}, Paired (fun p c => SqT K H p [.str c.1, .str c.2]) ps cs → Paired (fun p c => SqT K H p [.str c.1, .str c.2]) qs cs → Paired (TEq K H 1) (ps.map V.ref) (qs.map V.ref)
  | _, _, _, .nil, .nil => .nil
  | _, _, _, .cons h1 t1, .cons h2 t2 => .cons (.inr ⟨_, _, _, _, rfl, rfl, h1, h2, .cons ⟨rfl, rfl⟩ (.cons ⟨rfl, rfl⟩ .nil)⟩) (teq_calls t1 t2)
/-! ### what the neighbours of an edition that stands are -/
theorem dupOf_nd : ∀ {os seen : List Str}, dupOf seen os = none → os.Nodup ∧ ∀ o ∈ os, o ∉ seen
  | [], _, _ => ⟨List.nodup_nil, fun _ h => by cases h⟩
  | o :: os, seen, h => by
    unfold dupOf at h
    by_cases c : o ∈ seen
    · rw [if_pos c] at h; cases h
    · rw [if_neg c] at h
      obtain ⟨h1, h2⟩ := dupOf_nd h
      refine ⟨List.nodup_cons.mpr ⟨fun z => h2 o z (by simp), h1⟩, fun x hx => ?_⟩
      rcases List.mem_cons.mp hx with rfl | hx
      · exact c
      · exact fun z => h2 x hx (by simp [z])
theorem dupF_nd {os : List Str} : dupF os = none ↔ os.Nodup := by
  constructor
  · intro h
    unfold dupF at h
    cases hd : dupOf [] os with
    | some z => rw [hd] at h; cases h
    | none => exact (dupOf_nd hd).1
  · exact fun h => dup_none (dupOf_nd2 h fun _ _ z => by cases z)
theorem ed_parts {n : Int} {rs : List Rw} {cs : List (Str × Str)} : edF ⟨n, rs, cs⟩ = none ↔ cntF n cs = none ∧ pairF cs = none ∧ (cs.map (·.1)).Nodup ∧ (cs.map (·.2)).Nodup ∧ questsF rs cs = none := by
  unfold edF callsF
  constructor
  · intro h
    obtain ⟨h1, h⟩ := thenF_inv h
    obtain ⟨h2, h⟩ := thenF_inv h
    obtain ⟨h3, h⟩ := thenF_inv h
    obtain ⟨h4, h⟩ := thenF_inv h
    exact ⟨h1, h2, dupF_nd.mp h3, dupF_nd.mp h4, h⟩
  · rintro ⟨h1, h2, h3, h4, h5⟩
    show thenF (cntF n cs) (thenF (pairF cs) (thenF (dupF (cs.map (·.1))) (thenF (dupF (cs.map (·.2))) (questsF rs cs)))) = none
    rw [h1, h2, dupF_nd.mpr h3, dupF_nd.mpr h4, h5]
    rfl
theorem cntF_ok {n : Int} {cs : List (Str × Str)} : cntF n cs = none ↔ 1 ≤ n ∧ (n = 1 → cs = []) := by
  unfold cntF
  constructor
  · intro h
    by_cases c : n < 1
    · rw [if_pos c] at h; cases h
    · rw [if_neg c] at h
      refine ⟨by omega, fun e => ?_⟩
      by_cases c2 : n = 1 ∧ 0 < cs.length
      · rw [if_pos c2] at h; cases h
      · exact List.eq_nil_of_length_eq_zero (by omega)
  · rintro ⟨h1, h2⟩
    rw [if_neg (by omega), if_neg]
    rintro ⟨e, k⟩
    rw [h2 e] at k
    cases k
theorem ed_succ {n : Int} {rs : List Rw} {cs : List (Str × Str)} (h : edF ⟨n, rs, cs⟩ = none) : edF ⟨n + 1, rs, cs⟩ = none := by
  obtain ⟨h1, h⟩ := ed_parts.mp h
  have := (cntF_ok.mp h1).1
  exact ed_parts.mpr ⟨cntF_ok.mpr ⟨by omega, fun e => by omega⟩, h⟩
theorem ed_bare {n : Int} {rs rs' : List Rw} {cs : List (Str × Str)} (h : edF ⟨n, rs, cs⟩ = none) : edF ⟨n, rs', []⟩ = none :=
  ed_parts.mpr ⟨cntF_ok.mpr ⟨(cntF_ok.mp (ed_parts.mp h).1).1, fun _ => rfl⟩, rfl, List.nodup_nil, List.nodup_nil, rfl⟩
theorem ed_tail {n : Int} {rs : List Rw} {c : Str × Str} {cs : List (Str × Str)} (h : edF ⟨n, rs, c :: cs⟩ = none) : edF ⟨n, rs, cs⟩ = none := by
  obtain ⟨h1, h2, h3, h4, h5⟩ := ed_parts.mp h
  obtain ⟨k1, k2⟩ := cntF_ok.mp h1
  refine ed_parts.mpr ⟨cntF_ok.mpr ⟨k1, fun e => nomatch k2 e⟩, (thenF_inv (thenF_inv h2).2).2, (List.nodup_cons.mp h3).2, (List.nodup_cons.mp h4).2, ?_⟩
  have h5 : (if (formQ rs c.2).isSome = true then questsF rs cs else some (.quest c.2)) = none := h5
  cases hq : (formQ rs c.2).isSome with
  | true => rw [hq] at h5; exact h5
  | false => rw [hq] at h5; cases h5
theorem nameF_ok {z : Str} : nameF z = none ↔ isName z = true := by
  unfold nameF
  cases isName z <;> simp
theorem pairF_names {cs : List (Str × Str)} (h : pairF cs = none) : ∀ c ∈ cs, isName c.1 = true := by
  induction cs with
  | nil => intro c hc; cases hc
  | cons a r ih =>
    intro c hc
    obtain ⟨h1, h2⟩ := thenF_inv (show thenF (nameF a.1) (thenF (nameF a.2) (pairF r)) = none from h)
    rcases List.mem_cons.mp hc with rfl | hc
    · exact nameF_ok.mp h1
    · exact ih (thenF_inv h2).2 c hc
theorem ed_swap {n : Int} {rs : List Rw} {c : Str × Str} {cs : List (Str × Str)} (h : edF ⟨n, rs, c :: cs⟩ = none) (hz : ∀ d ∈ c :: cs, PrOk d) : c.1 ≠ "zzzz1" ∧ edF ⟨n, rs, ("zzzz1", c.2) :: cs⟩ = none := by
  obtain ⟨h1, h2, h3, h4, h5⟩ := ed_parts.mp h
  have nms := pairF_names h2
  have ne : ∀ d ∈ c :: cs, d.1 ≠ "zzzz1" := fun d hd => (hz d hd).2.2 (nms d hd)
  refine ⟨ne c (List.mem_cons_self ..), ed_parts.mpr ⟨cntF_ok.mpr ⟨(cntF_ok.mp h1).1, fun e => nomatch (cntF_ok.mp h1).2 e⟩, ?_, ?_, h4, h5⟩⟩
  · obtain ⟨_, k⟩ := thenF_inv (show thenF (nameF c.1) (thenF (nameF c.2) (pairF cs)) = none from h2)
    show thenF (nameF "zzzz1") (thenF (nameF c.2) (pairF cs)) = none
    rw [nameF_ok.mpr (by decide), k]
    rfl
  · refine List.nodup_cons.mpr ⟨fun z => ?_, (List.nodup_cons.mp h3).2⟩
    obtain ⟨d, hd, e⟩ := List.mem_map.mp z
    exact ne d (List.mem_cons_of_mem _ hd) e
theorem due_flat (o : Option Flt) : ∀ x ∈ dueT o, flatB x = true := by
  intro x hx
  match o with
  | none => simp [dueT] at hx; rcases hx with rfl | rfl <;> rfl
  | some (.count w n) => simp [dueT] at hx; rcases hx with rfl | rfl | rfl <;> rfl
  | some (.name z) => simp [dueT] at hx; rcases hx with rfl | rfl | rfl <;> rfl
  | some (.twice z) => simp [dueT] at hx; rcases hx with rfl | rfl | rfl <;> rfl
  | some (.quest z) => simp [dueT] at hx; rcases hx with rfl | rfl | rfl <;> rfl
  | some (.fit z) => simp [dueT] at hx; rcases hx with rfl | rfl | rfl <;> rfl
theorem due_tag (o : Option Flt) : ∃ t : Str, (dueT o)[0]? = some (V.str t) ∧ (t = "ok" ↔ o = none) := by
  match o with
  | none => exact ⟨_, rfl, by simp⟩
  | some (.count w n) => exact ⟨_, rfl, by simp; decide⟩
  | some (.name z) => exact ⟨_, rfl, by simp; decide⟩
  | some (.twice z) => exact ⟨_, rfl, by simp; decide⟩
  | some (.quest z) => exact ⟨_, rfl, by simp; decide⟩
  | some (.fit z) => exact ⟨_, rfl, by simp; decide⟩
theorem emp_sqt {K : PySem.W.Frag} {a : Addr} {H : Hp} (h : empB K a = true) : SqT K H a [] := by
  unfold empB at h
  split at h
  · rename_i its n sl e
    refine .inr ⟨_, its, n, e, rfl, rfl, ?_, ?_⟩
    · have : its = #[] := by simpa using h
      rw [this]; exact Nat.zero_le _
    · have : its = #[] := by simpa using h
      rw [this]; exact .nil
  · cases h
theorem first_one {d : PoolD} (ok : PoolOk d) : ∀ z e, d.ns[0]? = some z → (z, e) ∈ d.ns.zip d.ks → ∃ fs, e = (("one" : Str), Fd.txt fs) := by
  intro z e hz hm
  obtain ⟨fs, hf⟩ := ok.first
  refine ⟨fs, ?_⟩
  obtain ⟨i, hi⟩ := List.mem_iff_getElem?.mp hm
  rw [List.getElem?_zip_eq_some] at hi
  obtain ⟨h1, h2⟩ := hi
  have l0 : 0 < d.ns.length := (List.getElem?_eq_some_iff.mp hz).1
  have li : i < d.ns.length := (List.getElem?_eq_some_iff.mp h1).1
  have : i = 0 := by
    rcases Nat.eq_zero_or_pos i with z | z
    · exact z
    · have k := List.pairwise_iff_getElem.mp ok.nd 0 i l0 li z
      have e1 := (List.getElem?_eq_some_iff.mp h1).2
      have e2 := (List.getElem?_eq_some_iff.mp hz).2
      exact absurd (by rw [e1, e2]) k
  rw [this, hf 0 (by decide)] at h2
  exact (Option.some.inj h2).symm
theorem FormO.nl {K : PySem.W.Frag} {H H' : Hp} (e : NLf H H') {a : Addr} {rs : List Rw} (h : FormO K H a rs) : FormO K H' a rs := by
  obtain ⟨o, dx, t, d, d2, xs, kvs, kv2, h1, h2, h3, h4, h5, h6, h7⟩ := h
  exact ⟨o, dx, t, d, d2, xs, kvs, kv2, e _ _ (fun _ z => nomatch z) h1, e.si.sqt h2, ROs.si e.si h3, e _ _ (fun _ z => nomatch z) h4, L2.Paired.mapP h5 fun _ _ z => ⟨z.1, RO.si e.si z.2⟩, e _ _ (fun _ z => nomatch z) h6, h7⟩
theorem EdO.nl {K : PySem.W.Frag} {H H' : Hp} (k : NLf H H') {a : Addr} {e : Ed} (h : EdO K H a e) : EdO K H' a e := by
  obtain ⟨⟨dx, f, t, h1, h2, ⟨ps, h3, h4⟩⟩, h5⟩ := h
  exact ⟨⟨dx, f, t, k _ _ (fun _ z => nomatch z) h1, h2.nl k, ⟨ps, k.si.sqt h3, L2.Paired.mapP h4 fun _ _ z => k.si.sqt z⟩⟩, h5⟩
end K3
end Z5_part
section Z6_part
set_option Elab.async false
set_option linter.all false
set_option maxRecDepth 100000
set_option maxHeartbeats 1000000
set_option pp.deepTerms true
open PySem PySem.Spec PyProof.Rows L2
/-- go on as far as nothing is open -/
local macro_rules | `(tactic| walk_at "go") => `(tactic| repeat (first
  | with_reducible refine w_seq ?_ | with_reducible refine w_next ?_ | with_reducible refine w_set ?_ | with_reducible refine w_drop ?_ | with_reducible refine w_ret ?_ | with_reducible refine w_retN ?_
  | with_reducible refine w_if ?_ | ((with_reducible refine' w_var ?hv ?_); (case hv => exact rfl)) | with_reducible refine w_c ?_ | with_reducible refine w_nil ?_ | with_reducible refine w_cons ?_ | with_reducible refine w_op ?_ | with_reducible refine w_un ?_
  | with_reducible refine w_test ?_ | with_reducible refine w_tB ?_ | with_reducible refine w_not ?_ | with_reducible refine w_and ?_ | with_reducible refine w_or ?_ | with_reducible refine w_bl ?_
  | with_reducible refine w_andV ?_ | with_reducible refine w_orV ?_ | with_reducible refine w_notV ?_ | with_reducible refine w_ifE ?_ | with_reducible refine w_chain ?_ | with_reducible refine w_i0 ?_
  | with_reducible refine w_call ?_ | with_reducible refine w_callS ?_ | with_reducible refine w_cB ?_ | with_reducible refine w_tup ?_ | with_reducible refine w_lst ?_ | with_reducible refine w_fldV ?_
  | with_reducible refine w_neF ?_ | with_reducible refine w_neT ?_ | with_reducible refine w_notN ?_ | with_reducible refine w_isN ?_ | with_reducible refine w_gname ?_ | with_reducible refine w_gsub ?_ | with_reducible refine w_asg ?_ | with_reducible refine w_sl ?_ | with_reducible refine w_noP ?_ | with_reducible refine w_int1 ?_ | with_reducible refine w_part ?_ | with_reducible refine w_meth ?_ | with_reducible refine w_din ?_ | with_reducible refine w_dnotin ?_ | with_reducible refine w_dgt ?_ | with_reducible refine w_dget1 ?_ | with_reducible refine w_dget2 ?_ | with_reducible refine w_dput ?_ | with_reducible refine w_yes ?_ | with_reducible refine w_nT ?_ | with_reducible refine w_nF ?_ | with_reducible refine w_iteT ?_ | with_reducible refine w_iteF ?_))
namespace K3
/-! ### the law: editions made and refused -/
def spLaw (K : PySem.W.Frag) : Sp := fun vs H Q _ => ∃ (a : Addr) (ns : List Int), vs = [.ref a] ∧ SqL K H a (ns.map V.int) ∧ ns.length ≤ 63 ∧ ∀ H', Q (.bl true) H'
theorem well_strs {H : Hp} {s nl : Addr} {n : Nat} {ns : List Str} (h : Well H s n) (hl : H nl = some (.lst (ns.map V.str))) : nl ≠ s := fun z => by
  obtain ⟨a, b, c, e, _⟩ := h
  rw [z, e] at hl
  cases ns with
  | nil => exact nomatch hl
  | cons x r => exact nomatch hl
theorem same_new {s : Addr} {H H1 H2 : Hp} (h0 : H s = none) (e : Same H H1) (b : BM [s] H1 H2) : Same H H2 := fun c o h => b.at (e _ _ h) (by simpa using fun z => by rw [z, h0] at h; cases h)
theorem cut_mem {xs : List V} {lo hi : Option Int} {x : V} (h : x ∈ cutV xs lo hi) : x ∈ xs := by
  unfold cutV at h
  exact List.mem_of_mem_drop (List.mem_of_mem_take h)
theorem paired_head {α β : Type} {F : α → β → Prop} {ts : List α} {cs : List β} (h : Paired F ts cs) {i : Nat} {t : α} (ht : (ts.take 1)[i]? = some t) : ∃ ts' c cs', i = 0 ∧ ts = t :: ts' ∧ cs = c :: cs' ∧ F t c ∧ Paired F ts' cs' := by
  cases h with
  | nil => simp at ht
  | cons h1 t1 =>
    cases i with
    | succ i => simp at ht
    | zero =>
      have := Option.some.inj ht
      subst this
      exact ⟨_, _, _, rfl, rfl, rfl, h1, t1⟩
theorem ne_tail {α : Type} {x : α} {xs : List α} : x :: xs ≠ xs := fun h => by
  have := congrArg List.length h
  simp at this
section
variable {P : Program} {w : World} {K : PySem.W.Frag} {mg : Str → Option Value} {base : Heap}
theorem sc_law : FnScope ["_law_script", "_law_cell", "_law_well_here", "_law_p", "_law_names_here", "_law_form_here", "_law_seen", "_law_other", "_law_later", "_law_turn", "_law_number", "_law_pairs_here", "_law_due_here", "_law_handed", "_law_edition", "_law_same", "_law_old", "_law_new"] ["_law_script"] (defScope s_law) := ⟨rfl, rfl, rfl, by decide +kernel, rfl, by decide +kernel, by decide +kernel⟩
theorem ok_law (T : Tx K mg) {fd : FuncData} (F : FunD K "law" "law" (defArgs s_law) (defBody s_law) (defScope s_law) [] [] (He.ga K "law") fd) : FnOk P w K mg base L2.CX0 41 (He.ga K "law") fd ["_law_script"] (spLaw K) := by
  have O_law_cell_at := ok_cell_at (P := P) (w := w) (base := base) T
  have O_law_made := ok_made (P := P) (w := w) (base := base) T
  have O_law_due := ok_due (P := P) (w := w) (base := base) T
  have O_law_pairs := ok_pairs (P := P) (w := w) (base := base) T
  have O_law_pick := ok_pick (P := P) (w := w) (base := base) T
  have O_law_form := ok_form (P := P) (w := w) (base := base) T
  have O_law_pool := ok_pool (P := P) (w := w) (base := base) T
  have O_law_well := ok_well (P := P) (w := w) (base := base) T
  obtain ⟨fEd, FEd⟩ := T.f_Edition_init
  have kbEd := kb_of (n := 3) (ks := ["calls"]) (ps := ["self", "number", "form", "calls"]) FEd (fun _ _ _ _ _ _ us ws h1 h2 => match us, ws, h1, h2 with | [_, _, _], [_], _, _ => rfl)
  obtain ⟨_, dEd, bEd⟩ := FEd.binds0 (ps := ["self", "number", "form", "calls"]) 3 (fun z => nomatch z) rfl (fun _ _ _ _ _ _ us ks h1 h2 => match us, ks, h1, h2 with | [_, _, _], [_], _, _ => ⟨_, _, _, _, _, _, rfl, rfl, rfl⟩)
  have emp : ∀ H : Hp, PairsO K H (kwdAt ("Edition", some "__init__") "calls" K) [] := fun H => ⟨[], ⟨true, emp_sqt (and2 (and2 (and2 (and2 T.e).2).2).2).2⟩, .nil⟩
  refine F.ok (k := 40) sc_law (fun vs H Q E h => ?_) (fun cdv A outer s_ H vs Q E hr h => ?_)
  · obtain ⟨a, ns, rfl, _⟩ := h
    rfl
  obtain ⟨a, ns, rfl, hns, h63, q⟩ := h
  have hu65 := K3.Room.units65 hr
  have hu70 := K3.Room.units70 hr
  have hu4 := K3.Room.units4 hr
  have hu64 := Nat.lt_of_succ_lt hu65
  have hu0 := Nat.lt_of_le_of_lt (Nat.le_add_right _ 65) hu65
  have hu1 := Nat.lt_of_le_of_lt (Nat.add_le_add_left (show 1 ≤ 65 by decide) _) hu65
  have r_law_cell_at : Room 1 _ := hr.mono (by decide)
  have r_law_made : Room 7 _ := hr.mono (by decide)
  have r_law_due : Room 3 _ := hr.mono (by decide)
  have r_law_pairs : Room 3 _ := hr.mono (by decide)
  have r_law_pick : Room 2 _ := hr.mono (by decide)
  have r_law_form : Room 40 _ := hr.mono (by decide)
  have r_law_pool : Room 5 _ := hr.mono (by decide)
  have r_law_well : Room 1 _ := hr.mono (by decide)
  refine ⟨_, pss_cons (ps_for (passes_of rfl) (by rfl) (pi_list (pe_op op_cat (pe_lst (pa_cons (pe_f O_law_cell_at r_law_cell_at T.g__law_cell_at (pa_cons (pv 0) (pa_cons pe_int pa_nil))) pa_nil)) (pe_slice sl_list (pv 0) (po_some pe_int) (po_some pe_int)))) (pg_name (i := 1) sc_law.nd rfl (Or.inl rfl)) (pss_cons (ps_set (i := 2) sc_law.nd rfl (Or.inl rfl) (pe_f O_law_well r_law_well T.g__law_well (pa_cons (pv 1) pa_nil)))
      (pss_cons (ps_set (i := 3) sc_law.nd rfl (Or.inl rfl) (pe_f O_law_pool r_law_pool T.g__law_pool (pa_cons (pv 2) pa_nil)))
      (pss_cons (ps_set (i := 4) sc_law.nd rfl (Or.inl rfl) (pe_dget hu1 (pv 3) pe_str (fun _ _ => rfl)))
      (pss_cons (ps_asg (pe_f O_law_form r_law_form T.g__law_form (pa_cons (pv 2) (pa_cons (pv 3) (pa_cons (pv 4) pa_nil)))) (pg_tup (by rfl) (pgs_cons (pg_name (i := 5) sc_law.nd rfl (Or.inl rfl)) (pgs_cons (pg_name (i := 6) sc_law.nd rfl (Or.inl rfl)) pgs_nil))))
      (pss_cons (ps_asg (pe_f O_law_form r_law_form T.g__law_form (pa_cons (pv 2) (pa_cons (pv 3) (pa_cons (pv 4) pa_nil)))) (pg_tup (by rfl) (pgs_cons (pg_name (i := 7) sc_law.nd rfl (Or.inl rfl)) (pgs_cons (pg_name (i := 8) sc_law.nd rfl (Or.inl rfl)) pgs_nil))))
      (pss_one (ps_for (passes_of rfl) (by rfl) (pi_range1 rfl T.z_range (pa_cons pe_int pa_nil)) (pg_name (i := 9) sc_law.nd rfl (Or.inl rfl)) (pss_cons (ps_set (i := 10) sc_law.nd rfl (Or.inl rfl) (pe_f O_law_pick r_law_pick T.g__law_pick (pa_cons (pv 2) (pa_cons (pe_lst (pa_cons pe_int (pa_cons (pe_un un_neg pe_int) (pa_cons pe_int (pa_cons pe_int (pa_cons pe_int (pa_cons pe_int (pa_cons pe_int (pa_cons pe_int pa_nil))))))))) pa_nil))))
      (pss_cons (ps_set (i := 11) sc_law.nd rfl (Or.inl rfl) (pe_f O_law_pairs r_law_pairs T.g__law_pairs (pa_cons (pv 2) (pa_cons (pv 4) (pa_cons (pv 6) pa_nil)))))
      (pss_cons (ps_set (i := 12) sc_law.nd rfl (Or.inl rfl) (pe_f O_law_due r_law_due T.g__law_due (pa_cons (pv 10) (pa_cons (pv 6) (pa_cons (pv 11) pa_nil)))))
      (pss_cons (ps_if (pt_cmpR (op_neTE (n := 1) hu4) (pe_f O_law_made r_law_made T.g__law_made (pa_cons (pv 10) (pa_cons (pv 5) (pa_cons (pv 11) pa_nil)))) (pv 12) (nomark _)) (pss_one (ps_ret pe_bl)) pss_nil)
      (pss_one (ps_if (pt_cmpR op_eq (pe_ix ix_tup (pv 12) pe_int (fun _ _ => rfl)) pe_str (nomark _)) (pss_cons (ps_set (i := 13) sc_law.nd rfl (Or.inl rfl) (pe_callTy call_list_of (by rfl) T.z_list (by decide +kernel) (pa_cons (pv 11) pa_nil)))
      (pss_cons (ps_set (i := 14) sc_law.nd rfl (Or.inl rfl) (pe_makeK (n := 2) (ks := ["calls"]) T.mk_Edition (ok_Edition T FEd) (hr.mono (by decide : 6 ≤ 40)) (by rfl) T.g_Edition kbEd passL (pa_cons (pv 10) (pa_cons (pv 5) pa_nil)) (pk_cons (pv 13) pk_nil)))
      (pss_cons (ps_set (i := 15) sc_law.nd rfl (Or.inl rfl) (pe_makeK (n := 2) (ks := ["calls"]) T.mk_Edition (ok_Edition T FEd) (hr.mono (by decide : 6 ≤ 40)) (by rfl) T.g_Edition kbEd passL (pa_cons (pv 10) (pa_cons (pv 5) pa_nil)) (pk_cons (pe_callTy call_tuple_of (by rfl) T.z_tuple (by decide +kernel) (pa_cons (pv 11) pa_nil)) pk_nil)))
      (pss_cons (ps_expr (pe_bm0 PySem.F.plainAttrs_list PySem.F.slot_list_clear PySem.F.type_list_clear mt_clear (pv 13)))
      (pss_cons (ps_if (pw_or (pt_cmpR (op_neTE (n := 2) hu4) (pe_tup (pa_cons (pe_fld (pv 14) rfl) (pa_cons (pe_fld (pv 14) rfl) pa_nil))) (pe_tup (pa_cons (pv 10) (pa_cons (pe_callTy call_tuple_of (by rfl) T.z_tuple (by decide +kernel) (pa_cons (pv 11) pa_nil)) pa_nil))) (nomark _)) (pw_or (pt_cmpR (op_ownN (rnF T) (hr.mono (by decide : 35 ≤ 40))) (pe_fld (pv 14) rfl) (pv 5) (nomark _)) (pw_or1 (pt_cmpR (op_ownN (rnE T) (hr.mono (by decide : 37 ≤ 40))) (pv 14) (pv 15) (nomark _))))).pt (pss_one (ps_ret pe_bl)) pss_nil)
      (pss_cons (ps_if (pw_or (pt_cmpR (op_own (rcE T) (hr.mono (by decide : 36 ≤ 40))) (pv 14) (pe_makeK (n := 2) (ks := ["calls"]) T.mk_Edition (ok_Edition T FEd) (hr.mono (by decide : 6 ≤ 40)) (by rfl) T.g_Edition kbEd passL (pa_cons (pe_op op_add (pv 10) pe_int) (pa_cons (pv 5) pa_nil)) (pk_cons (pv 11) pk_nil)) (nomark _)) (pw_or1 (pt_cmpR (op_own (rcE T) (hr.mono (by decide : 36 ≤ 40))) (pv 14) (pv 10) (nomark _)))).pt (pss_one (ps_ret pe_bl)) pss_nil)
      (pss_cons (ps_if (pt_cmpR op_ne (pe_cmpR (op_eqE hu0) (pv 11) (pe_lst pa_nil) rfl) (pe_cmpR (op_own (rcE T) (hr.mono (by decide : 36 ≤ 40))) (pv 14) (pe_make T.mk_Edition (ok_Edition T FEd) (hr.mono (by decide : 6 ≤ 40)) (by rfl) T.g_Edition bEd dEd passL (pa_cons (pv 10) (pa_cons (pv 5) pa_nil))) rfl) (nomark _)) (pss_one (ps_ret pe_bl)) pss_nil)
      (Evl.pss_cut (ps_if (pt_cmpR op_ne (pe_cmpR (op_own (rcE T) (hr.mono (by decide : 36 ≤ 40))) (pv 14) (pe_make T.mk_Edition (ok_Edition T FEd) (hr.mono (by decide : 6 ≤ 40)) (by rfl) T.g_Edition bEd dEd passL (pa_cons (pv 10) (pa_cons (pv 7) pa_nil))) rfl) (pe_and (pe_cmpR (op_own (rcF T) (hr.mono (by decide : 34 ≤ 40))) (pv 5) (pv 7) rfl) (pe_one (pe_cmpR (op_eqE hu0) (pv 11) (pe_lst pa_nil) rfl))) (nomark _)) (pss_one (ps_ret pe_bl)) pss_nil)
      (pss_one (ps_for (passes_of rfl) (by rfl) (pi_list (pe_slice sl_list (pv 11) po_none (po_some pe_int))) (pg_tup (by rfl) (pgs_cons (pg_name (i := 16) sc_law.nd rfl (Or.inl rfl)) (pgs_cons (pg_name (i := 17) sc_law.nd rfl (Or.inl rfl)) pgs_nil))) (pss_cons (ps_if (pt_cmpR (op_own (rcE T) (hr.mono (by decide : 36 ≤ 40))) (pv 14) (pe_makeK (n := 2) (ks := ["calls"]) T.mk_Edition (ok_Edition T FEd) (hr.mono (by decide : 6 ≤ 40)) (by rfl) T.g_Edition kbEd passL (pa_cons (pv 10) (pa_cons (pv 5) pa_nil)) (pk_cons (pe_op op_cat (pe_lst (pa_cons (pe_tup (pa_cons pe_str (pa_cons (pv 17) pa_nil))) pa_nil)) (pe_slice sl_list (pv 11) (po_some pe_int) po_none)) pk_nil)) (nomark _)) (pss_one (ps_ret pe_bl)) pss_nil)
      (pss_one (ps_if (pw_or (pt_cmpR (op_own (rcE T) (hr.mono (by decide : 36 ≤ 40))) (pv 14) (pe_makeK (n := 2) (ks := ["calls"]) T.mk_Edition (ok_Edition T FEd) (hr.mono (by decide : 6 ≤ 40)) (by rfl) T.g_Edition kbEd passL (pa_cons (pv 10) (pa_cons (pv 5) pa_nil)) (pk_cons (pe_slice sl_list (pv 11) (po_some pe_int) po_none) pk_nil)) (nomark _)) (pw_or1 (pt_cmpR (op_own (rcE T) (hr.mono (by decide : 36 ≤ 40))) (pv 14) (pe_make T.mk_Edition (ok_Edition T FEd) (hr.mono (by decide : 6 ≤ 40)) (by rfl) T.g_Edition bEd dEd passL (pa_cons (pv 10) (pa_cons (pv 5) pa_nil))) (nomark _)))).pt (pss_one (ps_ret pe_bl)) pss_nil))))))))))))) pss_nil))))))))))))))
      (pss_one (ps_ret pe_bl)), ?_⟩
  walk_at "go"
  refine list_open ?_
  walk_at "go"
  refine ⟨a, ns, 0, rfl, hns, ?_⟩
  walk_at "go"
  refine ⟨(by show 1 ≤ sizeLine; decide), fun p1 hp1 => ?_⟩
  generalize ns.getD 0 0 = c0 at hp1 ⊢
  have e1 := Same.new hp1 (.lst [V.int c0])
  walk_at "go"
  refine ⟨a, _, rfl, e1.seq hns, fun p2 hp2 => ?_⟩
  have hx2 : ∀ x ∈ cutV (ns.map V.int) (some 1) (some 6), ∃ c, x = V.int c := fun x hx => by
    obtain ⟨c, _, rfl⟩ := List.mem_map.mp (cut_mem hx)
    exact ⟨c, rfl⟩
  have lx2 : (cutV (ns.map V.int) (some 1) (some 6)).length ≤ 63 := by
    unfold cutV
    rw [List.length_take, List.length_drop, List.length_map]
    omega
  generalize cutV (ns.map V.int) (some 1) (some 6) = xs2 at hp2 hx2 lx2 ⊢
  have e2 := Same.new hp2 (.lst xs2)
  refine ⟨p1, p2, _, _, rfl, rfl, e2 _ _ upd_same, upd_same, Nat.le_trans (show _ ≤ 64 by simp; omega) (by decide), fun p3 hp3 => ?_⟩
  have h3 : (upd (upd (upd H p1 (.lst [V.int c0])) p2 (.lst xs2)) p3 (.lst ([V.int c0] ++ xs2))) p3 = some (.lst ([V.int c0] ++ xs2)) := upd_same
  have cellI : ∀ x ∈ [V.int c0] ++ xs2, ∃ c, x = V.int c := fun x hx => by
    rcases List.mem_append.mp hx with hx | hx
    · exact ⟨c0, List.mem_singleton.mp hx⟩
    · exact hx2 x hx
  generalize upd (upd (upd H p1 (.lst [V.int c0])) p2 (.lst xs2)) p3 (.lst ([V.int c0] ++ xs2)) = H0 at h3 ⊢
  generalize [V.int c0] ++ xs2 = cells at h3 cellI ⊢
  clear e1 e2 hns
  refine ⟨p3, rfl, ⟨_, SqL.of h3⟩, ?_⟩
  refine for_list (xs := cells) (fun (i : Nat) σ H' => ∃ o1 o2 o3 o4 o5 o6 o7 o8 o9 o10 o11 o12 o13 o14 o15 o16 o17 : Option V, σ = [some (.ref a), o1, o2, o3, o4, o5, o6, o7, o8, o9, o10, o11, o12, o13, o14, o15, o16, o17] ∧ Same H0 H')
    ⟨none, none, none, none, none, none, none, none, none, none, none, none, none, none, none, none, none, rfl, Same.refl _⟩ (fun i σ H' _ ⟨_, _, _, _, _, _, _, _, _, _, _, _, _, _, _, _, _, _, e⟩ => SqL.of (e _ _ h3)) ?_ ?_
  · rintro i x σ H1 hxi ⟨o1, o2, o3, o4, o5, o6, o7, o8, o9, o10, o11, o12, o13, o14, o15, o16, o17, rfl, e1⟩
    obtain ⟨c, rfl⟩ := cellI x (List.mem_of_getElem? hxi)
    walk_at "go"
    refine ⟨c, rfl, fun s H2 hs1 e2 w2 => ?_⟩
    walk_at "go"
    refine ⟨s, 0, rfl, w2, by decide, fun p H3 d hp0 b3 w3 hp => ?_⟩
    obtain ⟨⟨nl, ol, kd, kvs, hpd, hnl, hol, hkd, hkv⟩, pok⟩ := id hp
    have nls := well_strs w3 hnl
    walk_at "go"
    refine ⟨p, .ref nl, rfl, DGet.k (k := Sum.inr "names") hpd, ?_⟩
    walk_at "go"
    refine ⟨s, p, nl, _, d, d.ns, rfl, w3, by decide, hp, nls, hnl, pok.n10, pok.nd, fun _ h => h, first_one pok, fun t1 f l H4 rs ys qs ht1 b4 w4 g1 hf0 hf ls hl hys qok fq fb qne lq hqn => ?_⟩
    refine w_gtup (SqT.of g1) rfl (w_gnn ?_)
    have hp4 := PoolO.bm w3 b4 hp
    have hnl4 := b4.at hnl (by simpa using nls)
    walk_at "go"
    refine ⟨s, p, nl, _, d, d.ns, rfl, w4, by decide, hp4, nls, hnl4, pok.n10, pok.nd, fun _ h => h, first_one pok, fun t2 f2 l2 H5 rs2 ys2 qs2 ht2 b5 w5 g2 hf20 hf2 l2s hl2 hys2 qok2 fq2 fb2 qne2 lq2 hqn2 => ?_⟩
    refine w_gtup (SqT.of g2) rfl (w_gnn ?_)
    have nl45 := BM.nl w4.src b5
    have hf5 := hf.nl nl45
    have hl5 := b5.at hl (by simpa using ls)
    have hys5 : Paired (QO H5) ys qs := L2.Paired.mapP hys fun _ _ z => z.nl nl45
    have hnl5 := b5.at hnl4 (by simpa using nls)
    have bm25 : BM [s] H2 H5 := b3.trans (b4.trans b5)
    dsimp only
    walk_at "go"
    refine rng_open ?_
    walk_at "go"
    refine ⟨_, rfl, by decide, by decide, ?_⟩
    refine for_range (lo := 0) (n := 4) (fun (j : Nat) σ H' => ∃ o9 o10 o11 o12 o13 o14 o15 o16 o17 : Option V, σ = [some (.ref a), some (.int c), some (.ref s), some (.ref p), some (.ref nl), some (.ref f), some (.ref l), some (.ref f2), some (.ref l2), o9, o10, o11, o12, o13, o14, o15, o16, o17] ∧ BM [s] H5 H' ∧ Well H' s (11000 + 100 * j))
      ⟨_, _, _, _, _, _, _, _, _, rfl, BM.refl _ _, w5.mono (by decide)⟩ ?_ ?_
    · rintro j σ H6 hj ⟨o9, o10, o11, o12, o13, o14, o15, o16, o17, rfl, b6, w6⟩
      have nl56 := BM.nl w5.src b6
      have hf6 := hf5.nl nl56
      have hf26 := hf2.nl nl56
      have hl6 := b6.at hl5 (by simpa using ls)
      have hys6 : Paired (QO H6) ys qs := L2.Paired.mapP hys5 fun _ _ z => z.nl nl56
      have hnl6 := b6.at hnl5 (by simpa using nls)
      walk_at "go"
      refine ⟨1, rfl, ?_⟩
      walk_at "go"
      refine ⟨(by show 8 ≤ sizeLine; decide), fun q1 hq1 => ?_⟩
      have nums : ∀ v ∈ [V.int 0, V.int (-1), V.int 1, V.int 2, V.int 2, V.int 3, V.int 3, V.int 4], ∃ k, v = V.int k := fun v hv => by
        simp only [List.mem_cons, List.not_mem_nil, or_false] at hv
        rcases hv with rfl | rfl | rfl | rfl | rfl | rfl | rfl | rfl <;> exact ⟨_, rfl⟩
      have e7 := Same.new hq1 (.lst [V.int 0, V.int (-1), V.int 1, V.int 2, V.int 2, V.int 3, V.int 3, V.int 4])
      have g7 : (upd H6 q1 (.lst [V.int 0, V.int (-1), V.int 1, V.int 2, V.int 2, V.int 3, V.int 3, V.int 4])) q1 = some (.lst [V.int 0, V.int (-1), V.int 1, V.int 2, V.int 2, V.int 3, V.int 3, V.int 4]) := upd_same
      have w7 := w6.same e7
      have q1s := w6.ne hq1
      generalize upd H6 q1 (.lst [V.int 0, V.int (-1), V.int 1, V.int 2, V.int 2, V.int 3, V.int 3, V.int 4]) = H7 at e7 g7 w7 ⊢
      refine ⟨s, _, _, rfl, w7, by unfold most; omega, .inl ⟨q1, _, rfl, q1s, ⟨false, SqL.of g7⟩, fun z => (nomatch z), by decide, fun v H8 hv b8 w8 => ?_⟩⟩
      obtain ⟨n, rfl⟩ := nums v hv
      have b68 : BM [s] H6 H8 := (BM.of e7).trans b8
      have nl68 := BM.nl w6.src b68
      have hnl8 := b68.at hnl6 (by simpa using nls)
      have hl8 := b68.at hl6 (by simpa using ls)
      have hys8 : Paired (QO H8) ys qs := L2.Paired.mapP hys6 fun _ _ z => z.nl nl68
      walk_at "go"
      refine ⟨s, nl, l, _, d.ns, ys, qs, rfl, w8, by unfold most; omega, nls, hnl8, pok.n10, fun z hz => ⟨pok.nm z hz, pok.nz z hz⟩, ls, hl8, hys8, qne, by omega, hqn, fun pl H9 cs hpl0 pls b9 w9 hP lcs hcs => ?_⟩
      have b69 := b68.trans b9
      have nl69 := BM.nl w6.src b69
      have hl9 := b69.at hl6 (by simpa using ls)
      have hys9 : Paired (QO H9) ys qs := L2.Paired.mapP hys6 fun _ _ z => z.nl nl69
      have hf9 := hf6.nl nl69
      have hf29 := hf26.nl nl69
      have lens : ∀ c ∈ cs, c.1.length ≤ 1000 ∧ c.2.length ≤ 1000 := fun c hc => ⟨(hcs c hc).1, (hcs c hc).2.1⟩
      walk_at "go"
      refine ⟨n, l, pl, ys, qs, cs, rs, rfl, hl9, hys9, by omega, hP, by omega, lens, fq, fun t H10 e10 ht0 ht => ?_⟩
      walk_at "go"
      refine ⟨n, f, pl, cs, rs, rfl, hf9.same e10, hP.same e10, by omega, lens, fun t3 H11 e11 ht30 ht3 => ?_⟩
      have e911 := e10.trans e11
      have hf11 := hf9.same e911
      have hf211 := hf29.same e911
      have hP11 := hP.same e911
      have w11 := w9.same e911
      walk_at "go"
      refine ⟨t3, t, _, _, rfl, rfl, SqT.of ht3, SqT.of (e11 _ _ ht), teq_flat _ (due_flat _), ?_⟩
      refine ⟨_, rfl, ?_⟩
      walk_at "go"
      obtain ⟨tag, htag, hok⟩ := due_tag (edF ⟨n, rs, cs⟩)
      refine ⟨t, _, 0, _, rfl, rfl, SqT.of (e11 _ _ ht), atI_nat htag, ?_⟩
      refine ⟨rfl, _, rfl, ?_⟩
      have b611 := b69.same e911
      by_cases c1 : tag = "ok"
      · have hn := hok.mp c1
        have bad : ∀ {XX : Prop} g, edF ⟨n, rs, cs⟩ = some g → XX := fun g h => by rw [hn] at h; cases h
        rw [decide_eq_true (congrArg V.str c1), if_pos rfl]
        obtain ⟨ts, hpl, hts⟩ := id hP11
        have lts := hts.length
        walk_at "go"
        refine ⟨pl, _, rfl, .inl (SqL.of hpl), fun hd hd0 => ?_⟩
        have e12 := Same.new hd0 (.lst (ts.map V.ref))
        have hhd : (upd H11 hd (.lst (ts.map V.ref))) hd = some (.lst (ts.map V.ref)) := upd_same
        generalize upd H11 hd (.lst (ts.map V.ref)) = H12 at e12 hhd ⊢
        have hts12 : Paired (fun t (c : Str × Str) => SqT K H12 t [.str c.1, .str c.2]) ts cs := L2.Paired.mapP hts fun _ _ z => SqT.of (e12 _ _ z)
        walk_at "go"
        refine w_makeK ?_
        walk_at "go"
        refine ⟨rfl, rfl, fun x1 dx1 hx1 hdx1 _ => mkEdX (e := ⟨n, rs, cs⟩) ⟨ts, ⟨false, SqL.of hhd⟩, hts12⟩ (hf11.same e12) (by show cs.length ≤ 1000; omega) lens hx1 hdx1 (fun g h => bad g h) (fun _ H13 e13 hE1 => ?_)⟩
        walk_at "go"
        refine w_makeK ?_
        walk_at "go"
        refine ⟨pl, _, rfl, .inl ⟨SqL.of ((e12.trans e13) _ _ hpl), fun tp htp => ?_⟩⟩
        have e14 := Same.new htp (.tup (ts.map V.ref))
        have g14 : (upd H13 tp (.tup (ts.map V.ref))) tp = some (.tup (ts.map V.ref)) := upd_same
        generalize upd H13 tp (.tup (ts.map V.ref)) = H14 at e14 g14 ⊢
        have e1114 := e12.trans (e13.trans e14)
        walk_at "go"
        refine ⟨rfl, rfl, fun x2 dx2 hx2 hdx2 _ => mkEdX (e := ⟨n, rs, cs⟩) ⟨ts, ⟨true, SqT.of g14⟩, L2.Paired.mapP hts12 fun _ _ z => (e13.trans e14).sqt z⟩ (hf11.same e1114) (by show cs.length ≤ 1000; omega) lens hx2 hdx2 (fun g h => bad g h) (fun _ H15 e15 hE2 => ?_)⟩
        have e1315 := e14.trans e15
        have hhd15 := (e13.trans e1315) _ _ hhd
        walk_at "go"
        refine ⟨_, rfl, .inl ⟨rfl, _, SqL.of hhd15⟩, hd, _, rfl, rfl, hhd15, ?_⟩
        have nl16 := NLf.upd hhd15 (.lst [])
        have e16 : Same H11 (upd H15 hd (.lst [])) := (e12.trans (e13.trans e1315)).mut hd0
        have E1 := (hE1.same e1315).nl nl16
        have E2 := hE2.nl nl16
        generalize upd H15 hd (.lst []) = H16 at e16 E1 E2 ⊢
        have hf16 := hf11.same e16
        have hf216 := hf211.same e16
        have hP16 := hP11.same e16
        clear nl16 hhd15 hE1 hE2 e1315 e15 e14 g14 e1114 hts12 hhd
        have hpl16 := e16 _ _ hpl
        have hts16 : Paired (fun t (c : Str × Str) => SqT K H16 t [.str c.1, .str c.2]) ts cs := L2.Paired.mapP hts fun _ _ z => SqT.of (e16 _ _ z)
        obtain ⟨⟨dy, fa, ct, hx, hfa, ps, hct, hps⟩, few⟩ := id E1
        dsimp only at hx hfa hps
        walk_at "go"
        refine ⟨x1, _, dy, _, _, rfl, hx, T.cl_Edition, T.n_Edition_number, rfl, ?_⟩
        walk_at "go"
        refine ⟨x1, _, dy, _, _, rfl, hx, T.cl_Edition, T.n_Edition_calls, rfl, ?_⟩
        walk_at "go"
        refine ⟨(by show 2 ≤ sizeLine; decide), fun ta hta => ?_⟩
        have e17 := Same.new hta (.tup [V.int n, V.ref ct])
        have g17 : (upd H16 ta (.tup [V.int n, V.ref ct])) ta = some (.tup [V.int n, V.ref ct]) := upd_same
        generalize upd H16 ta (.tup [V.int n, V.ref ct]) = H17 at e17 g17 ⊢
        walk_at "go"
        refine ⟨pl, _, rfl, .inl ⟨SqL.of (e17 _ _ hpl16), fun tb htb => ?_⟩⟩
        have e18 := Same.new htb (.tup (ts.map V.ref))
        have g18 : (upd H17 tb (.tup (ts.map V.ref))) tb = some (.tup (ts.map V.ref)) := upd_same
        generalize upd H17 tb (.tup (ts.map V.ref)) = H18 at e18 g18 ⊢
        walk_at "go"
        refine ⟨(by show 2 ≤ sizeLine; decide), fun tc htc => ?_⟩
        have e19 := Same.new htc (.tup [V.int n, V.ref tb])
        have g19 : (upd H18 tc (.tup [V.int n, V.ref tb])) tc = some (.tup [V.int n, V.ref tb]) := upd_same
        generalize upd H18 tc (.tup [V.int n, V.ref tb]) = H19 at e19 g19 ⊢
        have e1619 := e17.trans (e18.trans e19)
        refine ⟨ta, tc, _, _, rfl, rfl, SqT.of ((e18.trans e19) _ _ g17), SqT.of g19, .cons (.inl ⟨rfl, rfl⟩) (.cons (.inr ⟨ct, tb, _, _, rfl, rfl, e1619.sqt hct, SqT.of (e19 _ _ g18), teq_calls (L2.Paired.mapP hps fun _ _ z => e1619.sqt z) (L2.Paired.mapP hts16 fun _ _ z => e1619.sqt z)⟩) .nil), ?_⟩
        refine ⟨_, rfl, ?_⟩
        walk_at "go"
        refine ⟨x1, _, dy, _, _, rfl, e1619 _ _ hx, T.cl_Edition, T.n_Edition_form, rfl, ?_⟩
        walk_at "go"
        refine ⟨false, ⟨fa, rfl, rs, rs, f, hfa.same e1619, rfl, hf16.same e1619, fb, fb, by simp⟩, fun H20 (e20 : Same _ H20) => ?_⟩
        refine ⟨_, rfl, ?_⟩
        walk_at "go"
        have e1620 := e1619.trans e20
        refine ⟨false, ⟨x1, rfl, ⟨n, rs, cs⟩, E1.same e1620, fb, .inr ⟨x2, ⟨n, rs, cs⟩, rfl, E2.same e1620, fb, by simp⟩⟩, fun H21 (e21 : Same _ H21) => ?_⟩
        refine ⟨_, rfl, ?_⟩
        have e1621 := e1620.trans e21
        have A1 := E1.same e1621
        have hf21 := hf16.same e1621
        have hf221 := hf216.same e1621
        have hP21 := hP16.same e1621
        have e1121 := e16.trans e1621
        clear e1620 e1621 e21 e20 g19 e19 g18 e18 g17 e17 e1619 E1 E2 hf16 hf216 hx hfa hct hps hts16 hpl16
        walk_at "go"
        refine w_makeK ?_
        walk_at "go"
        refine ⟨rfl, rfl, fun x3 dx3 hx3 hdx3 _ => mkEdX (e := ⟨n + 1, rs, cs⟩) hP21.pairs hf21 (by show cs.length ≤ 1000; omega) lens hx3 hdx3 (fun g h => by rw [ed_succ hn] at h; cases h) (fun _ H22 e22 hE3 => ?_)⟩
        have A2 := A1.same e22
        refine ⟨false, ⟨x1, rfl, ⟨n, rs, cs⟩, A2, fb, .inr ⟨x3, ⟨n + 1, rs, cs⟩, rfl, hE3, fb, by simp; omega⟩⟩, fun H23 (e23 : Same _ H23) => ?_⟩
        refine ⟨_, rfl, ?_⟩
        walk_at "go"
        refine ⟨false, ⟨x1, rfl, ⟨n, rs, cs⟩, A2.same e23, fb, .inl ⟨n, rfl, rfl⟩⟩, fun H24 (e24 : Same _ H24) => ?_⟩
        refine ⟨_, rfl, ?_⟩
        have e2124 := e22.trans (e23.trans e24)
        have A4 := A1.same e2124
        have hf24 := hf21.same e2124
        have hf224 := hf221.same e2124
        have hP24 := hP21.same e2124
        have e1124 := e1121.trans e2124
        clear e22 e23 e24 e2124 A2 hE3 A1 hf21 hf221 hP21 e1121
        have hbe : decide (ts.map V.ref = [] ∧ ([] : List V) = []) = decide (cs = []) := by
          rw [Bool.eq_iff_iff]
          simp only [decide_eq_true_eq, and_true, List.map_eq_nil_iff]
          rw [← List.length_eq_zero_iff, lts, List.length_eq_zero_iff]
        have hpl24 := e1124 _ _ hpl
        walk_at "go"
        refine ⟨(by show 0 ≤ sizeLine; decide), fun p5 hp5 => ?_⟩
        have e25 := Same.new hp5 (.lst [])
        have g25 : (upd H24 p5 (.lst [])) p5 = some (.lst []) := upd_same
        generalize upd H24 p5 (.lst []) = H25 at e25 g25 ⊢
        refine ⟨pl, p5, _, _, rfl, rfl, SqL.of (e25 _ _ hpl24), SqL.of g25, .inr (.inl rfl), ?_⟩
        rw [hbe]
        walk_at "go"
        refine w_make ?_
        walk_at "go"
        refine fun x4 dx4 hx4 hdx4 _ => mkEdX (e := ⟨n, rs, []⟩) (emp _) (hf24.same e25) (Nat.zero_le _) (fun _ z => by cases z) hx4 hdx4 (fun g h => by rw [ed_bare hn] at h; cases h) (fun _ H26 e26 hE4 => ?_)
        have e2426 := e25.trans e26
        refine ⟨decide (cs = []), ⟨x1, rfl, ⟨n, rs, cs⟩, A4.same e2426, fb, .inr ⟨x4, ⟨n, rs, []⟩, rfl, hE4, fb, by simp⟩⟩, fun H27 (e27 : Same _ H27) => ?_⟩
        refine ⟨rfl, _, rfl, ?_⟩
        rw [decide_eq_true rfl]
        walk_at "go"
        have e2427 := e2426.trans e27
        have A7 := A4.same e2427
        have hf27 := hf24.same e2427
        have hf227 := hf224.same e2427
        have hP27 := hP24.same e2427
        have e1127 := e1124.trans e2427
        have hpl27 := e1127 _ _ hpl
        clear e25 g25 e26 e27 e2426 e2427 hE4 A4 hf24 hf224 hP24 e1124 hpl24
        refine Evl.q_cut (M := fun σ' H' => σ' = [some (.ref a), some (.int c), some (.ref s), some (.ref p), some (.ref nl), some (.ref f), some (.ref l), some (.ref f2), some (.ref l2), some (.int (0 + (j : Int))), some (.int n), some (.ref pl), some (.ref t), some (.ref hd), some (.ref x1), some (.ref x2), o16, o17] ∧ Same H27 H') ?_ ?_
        · walk_at "go"
          refine w_make ?_
          walk_at "go"
          refine fun x5 dx5 hx5 hdx5 _ => mkEdX (e := ⟨n, rs2, []⟩) (emp _) hf227 (Nat.zero_le _) (fun _ z => by cases z) hx5 hdx5 (fun g h => by rw [ed_bare hn] at h; cases h) (fun _ H28 e28 hE5 => ?_)
          have A8 := A7.same e28
          obtain ⟨bf, hbf⟩ : ∃ bf : Bool, bf = true ↔ rs = rs2 := by
            by_cases k : rs = rs2
            · exact ⟨true, by simp [k]⟩
            · exact ⟨false, by simp [k]⟩
          refine ⟨bf && decide (cs = []), ⟨x1, rfl, ⟨n, rs, cs⟩, A8, fb, .inr ⟨x5, ⟨n, rs2, []⟩, rfl, hE5, fb2, by simp [hbf]⟩⟩, fun H29 (e29 : Same _ H29) => ?_⟩
          have e2729 := e28.trans e29
          walk_at "go"
          refine ⟨bf, ⟨f, rfl, rs, rs2, f2, hf27.same e2729, rfl, hf227.same e2729, fb, fb2, hbf⟩, fun H30 (e30 : Same _ H30) => ?_⟩
          refine ⟨_, rfl, ?_⟩
          have e2730 := e2729.trans e30
          cases bf with
          | true =>
            rw [if_pos rfl]
            walk_at "go"
            refine ⟨(by show 0 ≤ sizeLine; decide), fun p6 hp6 => ?_⟩
            have e31 := Same.new hp6 (.lst [])
            have g31 : (upd H30 p6 (.lst [])) p6 = some (.lst []) := upd_same
            generalize upd H30 p6 (.lst []) = H31 at e31 g31 ⊢
            refine ⟨pl, p6, _, _, rfl, rfl, SqL.of ((e2730.trans e31) _ _ hpl27), SqL.of g31, .inr (.inl rfl), ?_⟩
            rw [hbe]
            refine ⟨rfl, _, rfl, ?_⟩
            rw [Bool.true_and, decide_eq_true rfl]
            walk_at "go"
            exact ⟨rfl, e2730.trans e31⟩
          | false =>
            rw [if_neg Bool.false_ne_true]
            refine ⟨rfl, _, rfl, ?_⟩
            rw [Bool.false_and, decide_eq_true rfl]
            walk_at "go"
            exact ⟨rfl, e2730⟩
        rintro σ' H32 ⟨rfl, e32⟩
        have A32 := A7.same e32
        have hf32 := hf27.same e32
        have hP32 := hP27.same e32
        have e1132 := e1127.trans e32
        have hpl32 := e1132 _ _ hpl
        clear e32 A7 hf27 hf227 hP27 e1127 hpl27
        walk_at "go"
        refine list_open ?_
        walk_at "go"
        refine ⟨pl, _, rfl, SqL.of hpl32, fun p7 hp7 => ?_⟩
        rw [show cutV (ts.map V.ref) none (some 1) = (ts.take 1).map V.ref from (cut_to _ 1).trans List.map_take.symm]
        have e33 := Same.new hp7 (.lst ((ts.take 1).map V.ref))
        have g33 : (upd H32 p7 (.lst ((ts.take 1).map V.ref))) p7 = some (.lst ((ts.take 1).map V.ref)) := upd_same
        generalize upd H32 p7 (.lst ((ts.take 1).map V.ref)) = H33 at e33 g33 ⊢
        refine ⟨p7, rfl, ⟨_, SqL.of g33⟩, ?_⟩
        refine for_list (K := K) (a := p7) (xs := (ts.take 1).map V.ref) (fun (i : Nat) σ H' => ∃ o16 o17 : Option V, σ = [some (.ref a), some (.int c), some (.ref s), some (.ref p), some (.ref nl), some (.ref f), some (.ref l), some (.ref f2), some (.ref l2), some (.int (0 + (j : Int))), some (.int n), some (.ref pl), some (.ref t), some (.ref hd), some (.ref x1), some (.ref x2), o16, o17] ∧ Same H33 H') ⟨_, _, rfl, Same.refl _⟩ (fun i σ H' _ ⟨_, _, _, e⟩ => SqL.of (e _ _ g33)) ?_ ?_
        · rintro i x σ H34 hx ⟨o16, o17, rfl, e34⟩
          obtain ⟨tt, htt, rfl⟩ := map_ref hx
          obtain ⟨ts', c', cs', rfl, rfl, rfl, hc', hts'⟩ := paired_head hts htt
          have e3234 := e33.trans e34
          have e1134 := e1132.trans e3234
          have A34 := A32.same e3234
          have hf34 := hf32.same e3234
          obtain ⟨nz, hnz⟩ := ed_swap hn hcs
          have tail : ∀ {H' : Hp}, Same H34 H' → Paired (fun t (c : Str × Str) => SqT K H' t [.str c.1, .str c.2]) ts' cs' := fun e => L2.Paired.mapP hts' fun _ _ z => SqT.of (e _ _ (e1134 _ _ z))
          have lcs' : cs'.length + 1 ≤ 3 := lcs
          refine w_gtup (SqT.of (e1134 _ _ hc')) rfl (w_gnn ?_)
          dsimp only
          walk_at "go"
          refine w_makeK ?_
          walk_at "go"
          refine ⟨(by show 2 ≤ sizeLine; decide), fun tz htz => ?_⟩
          have e35 := Same.new htz (.tup [V.str "zzzz1", V.str c'.2])
          have g35 : (upd H34 tz (.tup [V.str "zzzz1", V.str c'.2])) tz = some (.tup [V.str "zzzz1", V.str c'.2]) := upd_same
          generalize upd H34 tz (.tup [V.str "zzzz1", V.str c'.2]) = H35 at e35 g35 ⊢
          walk_at "go"
          refine ⟨(by show 1 ≤ sizeLine; decide), fun lz hlz => ?_⟩
          have e36 := Same.new hlz (.lst [V.ref tz])
          have g36 : (upd H35 lz (.lst [V.ref tz])) lz = some (.lst [V.ref tz]) := upd_same
          generalize upd H35 lz (.lst [V.ref tz]) = H36 at e36 g36 ⊢
          walk_at "go"
          have e3236 := e35.trans e36
          refine ⟨pl, _, rfl, SqL.of (e3236 _ _ (e1134 _ _ hpl)), fun ld hld => ?_⟩
          rw [show cutV ((tt :: ts').map V.ref) (some 1) none = ts'.map V.ref from cut_from _ 1]
          have e37 := Same.new hld (.lst (ts'.map V.ref))
          have g37 : (upd H36 ld (.lst (ts'.map V.ref))) ld = some (.lst (ts'.map V.ref)) := upd_same
          generalize upd H36 ld (.lst (ts'.map V.ref)) = H37 at e37 g37 ⊢
          refine ⟨lz, ld, _, _, rfl, rfl, e37 _ _ g36, g37, ?_, fun lc hlc => ?_⟩
          · have := hts'.length
            rw [List.length_map, this]
            exact Nat.le_trans (show _ ≤ 100 by simp; omega) (by decide)
          rw [show [V.ref tz] ++ ts'.map V.ref = (tz :: ts').map V.ref from rfl]
          have e38 := Same.new hlc (.lst ((tz :: ts').map V.ref))
          have g38 : (upd H37 lc (.lst ((tz :: ts').map V.ref))) lc = some (.lst ((tz :: ts').map V.ref)) := upd_same
          generalize upd H37 lc (.lst ((tz :: ts').map V.ref)) = H38 at e38 g38 ⊢
          have e3538 := e36.trans (e37.trans e38)
          have e3438 := e35.trans e3538
          walk_at "go"
          refine ⟨rfl, rfl, fun x6 dx6 hx6 hdx6 _ => mkEdX (e := ⟨n, rs, ("zzzz1", c'.2) :: cs'⟩) ⟨tz :: ts', ⟨false, SqL.of g38⟩, .cons (SqT.of (e3538 _ _ g35)) (tail e3438)⟩ (hf34.same e3438) (by show cs'.length + 1 ≤ 1000; omega) (fun d hd => ?_) hx6 hdx6 (fun g h => by rw [hnz] at h; cases h) (fun _ H39 e39 hE6 => ?_)⟩
          · rcases List.mem_cons.mp hd with rfl | hd
            · exact ⟨by show (5 : Nat) ≤ 1000; decide, (lens c' (List.mem_cons_self ..)).2⟩
            · exact lens d (List.mem_cons_of_mem _ hd)
          have e3439 := e3438.trans e39
          refine ⟨false, ⟨x1, rfl, ⟨n, rs, c' :: cs'⟩, A34.same e3439, fb, .inr ⟨x6, _, rfl, hE6, fb, ⟨fun z => (nomatch z), fun z => absurd (congrArg Prod.fst (List.cons.inj z.2.2).1) nz⟩⟩⟩, fun H40 (e40 : Same _ H40) => ?_⟩
          refine ⟨_, rfl, ?_⟩
          walk_at "go"
          refine w_makeK ?_
          have e3440 := e3439.trans e40
          walk_at "go"
          refine ⟨pl, _, rfl, SqL.of (e3440 _ _ (e1134 _ _ hpl)), fun le hle => ?_⟩
          rw [show cutV ((tt :: ts').map V.ref) (some 1) none = ts'.map V.ref from cut_from _ 1]
          have e41 := Same.new hle (.lst (ts'.map V.ref))
          have g41 : (upd H40 le (.lst (ts'.map V.ref))) le = some (.lst (ts'.map V.ref)) := upd_same
          generalize upd H40 le (.lst (ts'.map V.ref)) = H41 at e41 g41 ⊢
          have e3441 := e3440.trans e41
          walk_at "go"
          refine ⟨rfl, rfl, fun x7 dx7 hx7 hdx7 _ => mkEdX (e := ⟨n, rs, cs'⟩) ⟨ts', ⟨false, SqL.of g41⟩, tail e3441⟩ (hf34.same e3441) (by show cs'.length ≤ 1000; omega) (fun d hd => lens d (List.mem_cons_of_mem _ hd)) hx7 hdx7 (fun g h => by rw [ed_tail hn] at h; cases h) (fun _ H42 e42 hE7 => ?_)⟩
          have e3442 := e3441.trans e42
          refine ⟨false, ⟨x1, rfl, ⟨n, rs, c' :: cs'⟩, A34.same e3442, fb, .inr ⟨x7, _, rfl, hE7, fb, ⟨fun z => (nomatch z), fun z => absurd z.2.2 ne_tail⟩⟩⟩, fun H43 (e43 : Same _ H43) => ?_⟩
          refine ⟨_, rfl, ?_⟩
          have e3443 := e3442.trans e43
          walk_at "go"
          refine w_make ?_
          walk_at "go"
          refine fun x8 dx8 hx8 hdx8 _ => mkEdX (e := ⟨n, rs, []⟩) (emp _) (hf34.same e3443) (Nat.zero_le _) (fun _ z => by cases z) hx8 hdx8 (fun g h => by rw [ed_bare hn] at h; cases h) (fun _ H44 e44 hE8 => ?_)
          have e3444 := e3443.trans e44
          refine ⟨false, ⟨x1, rfl, ⟨n, rs, c' :: cs'⟩, A34.same e3444, fb, .inr ⟨x8, _, rfl, hE8, fb, ⟨fun z => (nomatch z), fun z => nomatch z.2.2⟩⟩⟩, fun H45 (e45 : Same _ H45) => ?_⟩
          refine ⟨_, rfl, ?_⟩
          walk_at "go"
          exact ⟨_, _, rfl, e34.trans (e3444.trans e45)⟩
        · rintro σ H34 ⟨o16, o17, rfl, e34⟩
          walk_at "go"
          have b5 : BM [s] H5 H34 := b6.trans (b611.same (e1132.trans (e33.trans e34)))
          have w34 := w11.same (e1132.trans (e33.trans e34))
          exact ⟨_, _, _, _, _, _, _, _, _, rfl, b5, w34.mono (by omega)⟩
      · rw [decide_eq_false fun z => c1 (V.str.inj z), if_neg Bool.false_ne_true]
        walk_at "go"
        exact ⟨_, _, _, _, _, _, _, _, _, rfl, b6.trans b611, w11.mono (by omega)⟩
    · rintro σ H6 ⟨o9, o10, o11, o12, o13, o14, o15, o16, o17, rfl, b6, w6⟩
      exact ⟨_, _, _, _, _, _, _, _, _, _, _, _, _, _, _, _, _, rfl, e1.trans (same_new hs1 e2 (bm25.trans b6))⟩
  · rintro σ H1 ⟨o1, o2, o3, o4, o5, o6, o7, o8, o9, o10, o11, o12, o13, o14, o15, o16, o17, rfl, e1⟩
    walk_at "go"
    exact q H1
end
end K3
end Z6_part
section M1_part
set_option Elab.async false
set_option linter.all false
set_option maxRecDepth 100000
set_option maxHeartbeats 0
namespace K3
open PySem PySem.Spec PyProof.Rows L2
theorem facts {P : Program} {w : World} {K : PySem.W.Frag} {h : Heap} {mg : Str → Option Value} {f : Addr} (X : K.In h) (G : h.Ns mainGlobals mg) (hfa : mg ("law" : Str) = some (.ref f)) (c : He.SaysD D.fa D.fn K) (e : ex K = true) :
    ∃ fd : FuncData, (∀ (s : Shared) (v : Value), BindsTo s fd ⟨[v], []⟩ [("_law_script", v)]) ∧ ∀ base : Heap, K.In base → base.Ns mainGlobals mg → FnOk P w K mg base L2.CX0 41 f fd ["_law_script"] (spLaw K) := by
  have T : Tx K mg := ⟨c, e, h, X, G⟩
  obtain ⟨fd, F⟩ := T.f_law
  have e2 := hfa.symm.trans T.g_law
  cases e2
  have b := FunD.bindsA (ps := ["_law_script"]) F fun _ _ _ _ _ _ us hl => match us, hl with | [_], _ => rfl
  exact ⟨fd, fun s v => b s [v] rfl, fun base _ _ => ok_law T F⟩
end K3
open PySem PySem.W PySem.Calls PyProof.Rows
theorem PySem.Challenge.cw_skiphall_k43_editions_made_and_refused_holds : PySem.Challenge.rw_skiphall_k43_editions_made_and_refused.Holds := by
  w_on; o_law
  refine HandSHeadRun.head_any (r := OpenLaw.row PySem.Challenge.rw_skiphall_k43_editions_made_and_refused) (q := K3.qv) (H := K3.hookF 4) (ob := K3.obF 4) (M := 12000) (loose := K3.loose) (d := HandSHeadRun.topDef (OpenLaw.row PySem.Challenge.rw_skiphall_k43_editions_made_and_refused).prog 76) (kwd := []) (K3.obF_eq 4)
    (by kernel_rfl) (fun s => by kernel_rfl) K3.run (by kernel_rfl) (by kernel_rfl) (by kernel_rfl) (by rfl) (by first | assumption | decide +kernel) (by decide +kernel) ⟨rfl, rfl, rfl, rfl, rfl, by decide +kernel⟩ ?hw ?hc
  case hw => w_witness2
  case hc =>
    refine L2.walk_ofE (l := PySem.Challenge.rw_skiphall_k43_editions_made_and_refused) (n := 63) (k := 41) (x := "_law_script") (CX := L2.CX0) rfl (by decide) (by kernel_rfl) ⟨rfl, by decide, by decide⟩ ?F (fun _ _ _ _ z => z)
    intro w mg fa h Y G hmg0
    obtain ⟨K, KX, c, e⟩ := Y
    have hmg : mg ("law" : PySem.Str) = some (.ref fa) := by
      have e : (HandSHeadRun.topDef (OpenLaw.row PySem.Challenge.rw_skiphall_k43_editions_made_and_refused).prog 76).name = ("law" : PySem.Str) := by kernel_rfl
      rw [← e]
      exact hmg0
    obtain ⟨fd, hb, hF⟩ := K3.facts (P := (PySem.Challenge.rw_skiphall_k43_editions_made_and_refused).prog) (w := w) KX G hmg c e
    exact ⟨K, fd, K3.spLaw K, KX, hb, fun H a ns hl _ hS => ⟨a, ns, rfl, hS, hl, fun _ => rfl⟩, hF⟩
end M1_part
