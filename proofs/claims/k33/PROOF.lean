import PyProof.Rows.All
import Wide.All
import OpenK.AllK
import Wide.FinOn
import KE.KStateDown
import HandS.Base
import HandS.Call
import HandS.Ends
import HandS.More
import HandS.Words
import HandS.WordsExc
import HandS.Defaults
import HandS.Head0
import HandS.Head1
import HandS.Head2
import HandS.HeadEnd
import HandS.HeadHook1
import HandS.HeadHook2
import HandS.ExcInit
import HandS.ExcField
import HandS.ExcIs
import PySem.Challenge.RW_skiphall_k33_what_fences_refuse
import HandS.HeadHook4
import HandS.ForMost
import HandS.ForExc
import HandS.Walk
import HandS.IsInst
import HandS.TupAny
import HandS.MakeKwOnly
import HandS.DictComp
import HandS.SetKeys
import HandS.Flow
import PyProof.StrBlock2
import HandS.Wide
import PyProof.NeKinds
import KE.SortKeyHeap
import HandS.Lambda
import HandS.SortKw
import HandS.Keys
import PyProof.Rows.InDataRows
import HandS.TupSets
import HandS.Evl
import HandS.Style
import KE.KTupSum
import PyProof.DictMoreH
import KE.KDictDisplayH
import PyProof.DictTable
import PyProof.ListIndex
import HandS.Deep
import HandS.Conv
import KE.DataFind
import KE.SortData
import HandS.ExcOwn
import HandS.TryOnly
import KE.KExcIs
import PyProof.Rows.CountFlat
import PyProof.Rows.SeqMore
import HandS.DeepEq
import HandS.EndTab
section H0_part
set_option Elab.async false
set_option linter.all false
set_option maxRecDepth 100000
set_option maxHeartbeats 0
namespace K3
open PySem PySem.Spec PyProof.Rows L2
def top (i : Nat) : Stmt := PySem.Challenge.pw_skiphall_k33_what_fences_refuse.main.body.getD i (.Pass ⟨0, 0, 0, 0⟩)
abbrev s_HallError_told : Stmt := inClass (top 1) 0
abbrev s_BadCount_init : Stmt := inClass (top 2) 0
abbrev s_BadCount_told : Stmt := inClass (top 2) 1
abbrev s_NoFit_init : Stmt := inClass (top 3) 0
abbrev s_NoFit_told : Stmt := inClass (top 3) 1
abbrev s_NoCell_init : Stmt := inClass (top 4) 0
abbrev s_NoCell_told : Stmt := inClass (top 4) 1
abbrev s_Unsafe_init : Stmt := inClass (top 5) 0
abbrev s_Unsafe_told : Stmt := inClass (top 5) 1
abbrev s_cells_of : Stmt := top 7
abbrev s_all_but_last : Stmt := top 8
abbrev s_last_cell : Stmt := top 9
abbrev s_number_at : Stmt := top 10
abbrev s_read_hidden : Stmt := top 11
abbrev s_refuse_no_cell : Stmt := top 12
abbrev s_refuse_shown : Stmt := top 13
abbrev s_arc_of : Stmt := top 14
abbrev s_Flow_init : Stmt := inClass (top 16) 0
abbrev s_Flow_number_now : Stmt := inClass (top 16) 1
abbrev s_Flow_change : Stmt := inClass (top 16) 2
abbrev s_least_flow : Stmt := top 17
abbrev s_most_flow : Stmt := top 18
abbrev s_steps_of : Stmt := top 19
abbrev s_pushed : Stmt := top 20
abbrev s_ways_from : Stmt := top 21
abbrev s_way_to : Stmt := top 22
abbrev s_fits : Stmt := top 25
abbrev s_is_as_wide : Stmt := top 26
abbrev s_has_right_sums : Stmt := top 27
abbrev s_reach : Stmt := top 28
abbrev s_bound : Stmt := top 29
abbrev s_coming_in : Stmt := top 30
abbrev s_going_out : Stmt := top 31
abbrev s_is_in : Stmt := top 32
abbrev s_sum_shown : Stmt := top 33
abbrev s_fences : Stmt := top 34
abbrev s_places_of : Stmt := top 35
abbrev s_fence_of : Stmt := top 36
abbrev s_is_safe : Stmt := top 40
abbrev s_hidden_cells : Stmt := top 41
abbrev s_refuse_few_and_width : Stmt := top 42
abbrev s_secret_cells : Stmt := top 43
abbrev s_greatest_first : Stmt := top 44
abbrev s_first_unsafe : Stmt := top 45
abbrev s_reach_width : Stmt := top 46
abbrev s__law_cell_at : Stmt := top 48
abbrev s__law_state : Stmt := top 49
abbrev s__law_digit : Stmt := top 50
abbrev s__law_summed : Stmt := top 51
abbrev s__law_cells : Stmt := top 52
abbrev s__law_hidden : Stmt := top 53
abbrev s__law_drawn_grid : Stmt := top 54
abbrev s__law_said : Stmt := top 55
abbrev s__law_hidden_due : Stmt := top 56
abbrev s__law_cell_due : Stmt := top 57
abbrev s__law_fits_right : Stmt := top 58
abbrev s_law : Stmt := top 59
namespace D
def d_HallError_told : He.DefD := ⟨("HallError", some "told"), "told", "HallError.told", defArgs s_HallError_told, defBody s_HallError_told, defScope s_HallError_told, [], []⟩
def d_BadCount_init : He.DefD := ⟨("BadCount", some "__init__"), "__init__", "BadCount.__init__", defArgs s_BadCount_init, defBody s_BadCount_init, defScope s_BadCount_init, [], []⟩
def d_BadCount_told : He.DefD := ⟨("BadCount", some "told"), "told", "BadCount.told", defArgs s_BadCount_told, defBody s_BadCount_told, defScope s_BadCount_told, [], []⟩
def d_NoFit_init : He.DefD := ⟨("NoFit", some "__init__"), "__init__", "NoFit.__init__", defArgs s_NoFit_init, defBody s_NoFit_init, defScope s_NoFit_init, [], []⟩
def d_NoFit_told : He.DefD := ⟨("NoFit", some "told"), "told", "NoFit.told", defArgs s_NoFit_told, defBody s_NoFit_told, defScope s_NoFit_told, [], []⟩
def d_NoCell_init : He.DefD := ⟨("NoCell", some "__init__"), "__init__", "NoCell.__init__", defArgs s_NoCell_init, defBody s_NoCell_init, defScope s_NoCell_init, [], []⟩
def d_NoCell_told : He.DefD := ⟨("NoCell", some "told"), "told", "NoCell.told", defArgs s_NoCell_told, defBody s_NoCell_told, defScope s_NoCell_told, [], []⟩
def d_Unsafe_init : He.DefD := ⟨("Unsafe", some "__init__"), "__init__", "Unsafe.__init__", defArgs s_Unsafe_init, defBody s_Unsafe_init, defScope s_Unsafe_init, [], []⟩
def d_Unsafe_told : He.DefD := ⟨("Unsafe", some "told"), "told", "Unsafe.told", defArgs s_Unsafe_told, defBody s_Unsafe_told, defScope s_Unsafe_told, [], []⟩
def d_cells_of : He.DefD := ⟨("cells_of", none), "cells_of", "cells_of", defArgs s_cells_of, defBody s_cells_of, defScope s_cells_of, [], []⟩
def d_all_but_last : He.DefD := ⟨("all_but_last", none), "all_but_last", "all_but_last", defArgs s_all_but_last, defBody s_all_but_last, defScope s_all_but_last, [], []⟩
def d_last_cell : He.DefD := ⟨("last_cell", none), "last_cell", "last_cell", defArgs s_last_cell, defBody s_last_cell, defScope s_last_cell, [], []⟩
def d_number_at : He.DefD := ⟨("number_at", none), "number_at", "number_at", defArgs s_number_at, defBody s_number_at, defScope s_number_at, [], []⟩
def d_read_hidden : He.DefD := ⟨("read_hidden", none), "read_hidden", "read_hidden", defArgs s_read_hidden, defBody s_read_hidden, defScope s_read_hidden, [], []⟩
def d_refuse_no_cell : He.DefD := ⟨("refuse_no_cell", none), "refuse_no_cell", "refuse_no_cell", defArgs s_refuse_no_cell, defBody s_refuse_no_cell, defScope s_refuse_no_cell, [], []⟩
def d_refuse_shown : He.DefD := ⟨("refuse_shown", none), "refuse_shown", "refuse_shown", defArgs s_refuse_shown, defBody s_refuse_shown, defScope s_refuse_shown, [], []⟩
def d_arc_of : He.DefD := ⟨("arc_of", none), "arc_of", "arc_of", defArgs s_arc_of, defBody s_arc_of, defScope s_arc_of, [], []⟩
def d_Flow_init : He.DefD := ⟨("Flow", some "__init__"), "__init__", "Flow.__init__", defArgs s_Flow_init, defBody s_Flow_init, defScope s_Flow_init, [], []⟩
def d_Flow_number_now : He.DefD := ⟨("Flow", some "number_now"), "number_now", "Flow.number_now", defArgs s_Flow_number_now, defBody s_Flow_number_now, defScope s_Flow_number_now, [], []⟩
def d_Flow_change : He.DefD := ⟨("Flow", some "change"), "change", "Flow.change", defArgs s_Flow_change, defBody s_Flow_change, defScope s_Flow_change, [], []⟩
def d_least_flow : He.DefD := ⟨("least_flow", none), "least_flow", "least_flow", defArgs s_least_flow, defBody s_least_flow, defScope s_least_flow, [], []⟩
def d_most_flow : He.DefD := ⟨("most_flow", none), "most_flow", "most_flow", defArgs s_most_flow, defBody s_most_flow, defScope s_most_flow, [], []⟩
def d_steps_of : He.DefD := ⟨("steps_of", none), "steps_of", "steps_of", defArgs s_steps_of, defBody s_steps_of, defScope s_steps_of, [], []⟩
def d_pushed : He.DefD := ⟨("pushed", none), "pushed", "pushed", defArgs s_pushed, defBody s_pushed, defScope s_pushed, [], []⟩
def d_ways_from : He.DefD := ⟨("ways_from", none), "ways_from", "ways_from", defArgs s_ways_from, defBody s_ways_from, defScope s_ways_from, [], []⟩
def d_way_to : He.DefD := ⟨("way_to", none), "way_to", "way_to", defArgs s_way_to, defBody s_way_to, defScope s_way_to, [], []⟩
def d_fits : He.DefD := ⟨("fits", none), "fits", "fits", defArgs s_fits, defBody s_fits, defScope s_fits, [], []⟩
def d_is_as_wide : He.DefD := ⟨("is_as_wide", none), "is_as_wide", "is_as_wide", defArgs s_is_as_wide, defBody s_is_as_wide, defScope s_is_as_wide, [], []⟩
def d_has_right_sums : He.DefD := ⟨("has_right_sums", none), "has_right_sums", "has_right_sums", defArgs s_has_right_sums, defBody s_has_right_sums, defScope s_has_right_sums, [], []⟩
def d_reach : He.DefD := ⟨("reach", none), "reach", "reach", defArgs s_reach, defBody s_reach, defScope s_reach, [], []⟩
def d_bound : He.DefD := ⟨("bound", none), "bound", "bound", defArgs s_bound, defBody s_bound, defScope s_bound, [], []⟩
def d_coming_in : He.DefD := ⟨("coming_in", none), "coming_in", "coming_in", defArgs s_coming_in, defBody s_coming_in, defScope s_coming_in, [], []⟩
def d_going_out : He.DefD := ⟨("going_out", none), "going_out", "going_out", defArgs s_going_out, defBody s_going_out, defScope s_going_out, [], []⟩
def d_is_in : He.DefD := ⟨("is_in", none), "is_in", "is_in", defArgs s_is_in, defBody s_is_in, defScope s_is_in, [], []⟩
def d_sum_shown : He.DefD := ⟨("sum_shown", none), "sum_shown", "sum_shown", defArgs s_sum_shown, defBody s_sum_shown, defScope s_sum_shown, [], []⟩
def d_fences : He.DefD := ⟨("fences", none), "fences", "fences", defArgs s_fences, defBody s_fences, defScope s_fences, [], []⟩
def d_places_of : He.DefD := ⟨("places_of", none), "places_of", "places_of", defArgs s_places_of, defBody s_places_of, defScope s_places_of, [], []⟩
def d_fence_of : He.DefD := ⟨("fence_of", none), "fence_of", "fence_of", defArgs s_fence_of, defBody s_fence_of, defScope s_fence_of, [], []⟩
def d_is_safe : He.DefD := ⟨("is_safe", none), "is_safe", "is_safe", defArgs s_is_safe, defBody s_is_safe, defScope s_is_safe, [], []⟩
def d_hidden_cells : He.DefD := ⟨("hidden_cells", none), "hidden_cells", "hidden_cells", defArgs s_hidden_cells, defBody s_hidden_cells, defScope s_hidden_cells, [], []⟩
def d_refuse_few_and_width : He.DefD := ⟨("refuse_few_and_width", none), "refuse_few_and_width", "refuse_few_and_width", defArgs s_refuse_few_and_width, defBody s_refuse_few_and_width, defScope s_refuse_few_and_width, [], []⟩
def d_secret_cells : He.DefD := ⟨("secret_cells", none), "secret_cells", "secret_cells", defArgs s_secret_cells, defBody s_secret_cells, defScope s_secret_cells, [], []⟩
def d_greatest_first : He.DefD := ⟨("greatest_first", none), "greatest_first", "greatest_first", defArgs s_greatest_first, defBody s_greatest_first, defScope s_greatest_first, [], []⟩
def d_first_unsafe : He.DefD := ⟨("first_unsafe", none), "first_unsafe", "first_unsafe", defArgs s_first_unsafe, defBody s_first_unsafe, defScope s_first_unsafe, [], []⟩
def d_reach_width : He.DefD := ⟨("reach_width", none), "reach_width", "reach_width", defArgs s_reach_width, defBody s_reach_width, defScope s_reach_width, [], []⟩
def d__law_cell_at : He.DefD := ⟨("_law_cell_at", none), "_law_cell_at", "_law_cell_at", defArgs s__law_cell_at, defBody s__law_cell_at, defScope s__law_cell_at, [], []⟩
def d__law_state : He.DefD := ⟨("_law_state", none), "_law_state", "_law_state", defArgs s__law_state, defBody s__law_state, defScope s__law_state, [], []⟩
def d__law_digit : He.DefD := ⟨("_law_digit", none), "_law_digit", "_law_digit", defArgs s__law_digit, defBody s__law_digit, defScope s__law_digit, [], []⟩
def d__law_summed : He.DefD := ⟨("_law_summed", none), "_law_summed", "_law_summed", defArgs s__law_summed, defBody s__law_summed, defScope s__law_summed, [], []⟩
def d__law_cells : He.DefD := ⟨("_law_cells", none), "_law_cells", "_law_cells", defArgs s__law_cells, defBody s__law_cells, defScope s__law_cells, [], []⟩
def d__law_hidden : He.DefD := ⟨("_law_hidden", none), "_law_hidden", "_law_hidden", defArgs s__law_hidden, defBody s__law_hidden, defScope s__law_hidden, [], []⟩
def d__law_drawn_grid : He.DefD := ⟨("_law_drawn_grid", none), "_law_drawn_grid", "_law_drawn_grid", defArgs s__law_drawn_grid, defBody s__law_drawn_grid, defScope s__law_drawn_grid, [], []⟩
def d__law_said : He.DefD := ⟨("_law_said", none), "_law_said", "_law_said", defArgs s__law_said, defBody s__law_said, defScope s__law_said, [], []⟩
def d__law_hidden_due : He.DefD := ⟨("_law_hidden_due", none), "_law_hidden_due", "_law_hidden_due", defArgs s__law_hidden_due, defBody s__law_hidden_due, defScope s__law_hidden_due, [], []⟩
def d__law_cell_due : He.DefD := ⟨("_law_cell_due", none), "_law_cell_due", "_law_cell_due", defArgs s__law_cell_due, defBody s__law_cell_due, defScope s__law_cell_due, [], []⟩
def d__law_fits_right : He.DefD := ⟨("_law_fits_right", none), "_law_fits_right", "_law_fits_right", defArgs s__law_fits_right, defBody s__law_fits_right, defScope s__law_fits_right, [], []⟩
def d_law : He.DefD := ⟨("law", none), "law", "law", defArgs s_law, defBody s_law, defScope s_law, [], []⟩
def fn : List He.DefD := [d_HallError_told, d_BadCount_init, d_BadCount_told, d_NoFit_init, d_NoFit_told, d_NoCell_init, d_NoCell_told, d_Unsafe_init, d_Unsafe_told, d_cells_of, d_all_but_last, d_last_cell, d_number_at, d_read_hidden, d_refuse_no_cell, d_refuse_shown, d_arc_of, d_Flow_init, d_Flow_number_now, d_Flow_change, d_least_flow, d_most_flow, d_steps_of, d_pushed, d_ways_from, d_way_to, d_fits, d_is_as_wide, d_has_right_sums, d_reach, d_bound, d_coming_in, d_going_out, d_is_in, d_sum_shown, d_fences, d_places_of, d_fence_of, d_is_safe, d_hidden_cells, d_refuse_few_and_width, d_secret_cells, d_greatest_first, d_first_unsafe, d_reach_width, d__law_cell_at, d__law_state, d__law_digit, d__law_summed, d__law_cells, d__law_hidden, d__law_drawn_grid, d__law_said, d__law_hidden_due, d__law_cell_due, d__law_fits_right, d_law]
def fa : List He.Fa := [.glo "HallError",
  .keep "HallError",
  .glo "BadCount",
  .keep "BadCount",
  .glo "NoFit",
  .keep "NoFit",
  .glo "NoCell",
  .keep "NoCell",
  .glo "Unsafe",
  .keep "Unsafe",
  .glo "cells_of",
  .glo "all_but_last",
  .glo "last_cell",
  .glo "number_at",
  .glo "read_hidden",
  .glo "refuse_no_cell",
  .glo "refuse_shown",
  .glo "arc_of",
  .glo "Flow",
  .keep "Flow",
  .glo "least_flow",
  .glo "most_flow",
  .glo "steps_of",
  .glo "pushed",
  .glo "ways_from",
  .glo "way_to",
  .glo "NO_FENCE",
  .glo "fits",
  .glo "is_as_wide",
  .glo "has_right_sums",
  .glo "reach",
  .glo "bound",
  .glo "coming_in",
  .glo "going_out",
  .glo "is_in",
  .glo "sum_shown",
  .glo "fences",
  .glo "places_of",
  .glo "fence_of",
  .int "LEAST_FEW" 2,
  .int "LEAST_WIDTH" 1,
  .glo "is_safe",
  .glo "hidden_cells",
  .glo "refuse_few_and_width",
  .glo "secret_cells",
  .glo "greatest_first",
  .glo "first_unsafe",
  .glo "reach_width",
  .glo "_law_cell_at",
  .glo "_law_state",
  .glo "_law_digit",
  .glo "_law_summed",
  .glo "_law_cells",
  .glo "_law_hidden",
  .glo "_law_drawn_grid",
  .glo "_law_said",
  .glo "_law_hidden_due",
  .glo "_law_cell_due",
  .glo "_law_fits_right",
  .glo "law",
  .free "ValueError",
  .free "abs",
  .free "all",
  .free "any",
  .free "int",
  .free "isinstance",
  .free "len",
  .free "list",
  .free "min",
  .free "range",
  .free "set",
  .free "sorted",
  .free "sum",
  .free "tuple",
  .noat "BadCount" "what",
  .noat "BadCount" "count",
  .meth "BadCount" "__init__",
  .noat "NoFit" "name",
  .meth "NoFit" "__init__",
  .noat "NoCell" "row",
  .noat "NoCell" "column",
  .meth "NoCell" "__init__",
  .noat "Unsafe" "cell",
  .meth "Unsafe" "__init__",
  .cls "Flow",
  .mkr "Flow",
  .noat "Flow" "cell",
  .noat "Flow" "numbers",
  .noat "Flow" "steps",
  .meth "Flow" "__init__",
  .meth "Flow" "number_now",
  .meth "Flow" "change"]
end D
/-! ### what an own exception class with its __init__ says -/
def oexB (K : PySem.W.Frag) (C : Addr) : Bool := (match K.lookup C with
  | some ⟨.type "type", _, .cls cd, sl⟩ => (match cd.mro, sl.toList with
    | .ref C' :: bm, [_, _, _, _, some (.builtin n), _] => C' == C && (n == "ValueError.__new__" && (!cd.hasDel && (cd.hasDict && PySem.HandSPX.refsVE bm)))
    | _, _ => false)
  | _ => false) && (eqB (PySem.W.findIn K (.ref C) "__setattr__") (some (some (.builtin "object.__setattr__"))) && (eqB (PySem.W.subIn K (.ref C) (.type "BaseException")) (some true) && (eqB (PySem.W.typeIn K (.ref C)) (some (.type "type")) && PySem.W.keepIn K (.ref C))))
where eqB {α : Type} [DecidableEq α] (a b : α) : Bool := decide (a = b)
/-! done -/
end K3
end H0_part
section HX_part
set_option Elab.async false
set_option linter.all false
set_option maxRecDepth 100000
set_option maxHeartbeats 0
namespace K3
open PySem PySem.Spec PyProof.Rows L2
/-! ### further facts of the written part, as Bools: what is raised -/
def eqB {α : Type} [DecidableEq α] (a b : α) : Bool := decide (a = b)
theorem eqB_ok {α : Type} [DecidableEq α] {a b : α} (h : eqB a b = true) : a = b := of_decide_eq_true h
def kclsB (K : PySem.W.Frag) (C : Addr) : Bool := eqB (PySem.W.findIn K (.ref C) "__class__") (some (some (.builtin "object.__class__"))) && eqB (PySem.W.mroIn K C (.type "object")) (some true)
def getsetB (K : PySem.W.Frag) : Bool := eqB (PySem.W.specialIn K (.builtin "object.__class__") "__get__") (some (some (.builtin "getset_descriptor.__get__"))) && eqB (PySem.W.takesIn K (.builtin "object.__class__")) (some true)
def oexcB (K : PySem.W.Frag) (C : Addr) : Bool := match K.lookup C with
  | some ⟨.type "type", _, .cls cd, sl⟩ => (match cd.mro, sl.toList with
    | .ref C' :: bm, [_, _, _, _, some (.builtin n), _] => C' == C && (n == "ValueError.__new__" && (!cd.hasDel && (cd.hasDict && PySem.HandSPX.refsVE bm)))
    | _, _ => false)
  | _ => false
def excB (K : PySem.W.Frag) (C : Addr) : Bool := oexcB K C && (eqB (PySem.W.findIn K (.ref C) "__setattr__") (some (some (.builtin "object.__setattr__"))) && (eqB (PySem.W.typeIn K (.ref C)) (some (.type "type")) && (PySem.W.keepIn K (.ref C) && xfB K C)))
def kitB2 (K : PySem.W.Frag) (x y : Str) : Bool := eqB (PySem.W.kitOne K (.ref (He.ga K x)) (.ref (He.ga K y))) (some (x == y))
def voidB (K : PySem.W.Frag) (a : Addr) : Bool := match K.lookup a with
  | some ⟨.type "tuple", _, .seq its _, _⟩ => its.toList.isEmpty
  | _ => false
def noFenceB (K : PySem.W.Frag) (a : Addr) : Bool := match K.lookup a with
  | some ⟨.type "tuple", _, .seq its _, _⟩ => (match its.toList with
    | [.ref b, .ref c] => voidB K b && voidB K c
    | _ => false)
  | _ => false
def errN : List Str := [("NoCell" : Str), ("NoFit" : Str), ("BadCount" : Str), ("Unsafe" : Str)]
def ex (K : PySem.W.Frag) : Bool :=
  noFenceB K (He.ga K "NO_FENCE") && (getsetB K && (errN.all fun x => excB K (He.ga K x) && (kclsB K (He.ga K x) && (eqB (PySem.W.exmOne K (.ref (He.ga K x)) (.ref (He.ga K "HallError"))) (some true) && (eqB (PySem.W.kitOne K (.ref (He.ga K x)) (.type "ValueError")) (some true) && errN.all fun y => kitB2 K x y)))))
theorem void_ok {K : PySem.W.Frag} {a : Addr} (h : voidB K a = true) : ∀ H : Hp, SqT K H a [] := by
  intro H
  unfold voidB at h
  split at h
  · rename_i d its n sl e
    refine .inr ⟨_, its, n, e, rfl, rfl, ?_, ?_⟩
    · have : its.toList = [] := List.isEmpty_iff.mp h
      have : its.size = 0 := by rw [← Array.length_toList, this]; rfl
      omega
    · rw [List.isEmpty_iff.mp h]
      exact .nil
  · cases h
theorem noFence_ok {K : PySem.W.Frag} (h : noFenceB K (He.ga K "NO_FENCE") = true) : ∃ b c, ∀ H : Hp, SqT K H (He.ga K "NO_FENCE") [.ref b, .ref c] ∧ SqT K H b [] ∧ SqT K H c [] := by
  unfold noFenceB at h
  split at h
  · rename_i d its n sl e
    split at h
    · rename_i b c hl
      obtain ⟨h1, h2⟩ := Bool.and_eq_true_iff.mp h
      refine ⟨b, c, fun H => ⟨.inr ⟨_, its, n, e, rfl, rfl, ?_, ?_⟩, void_ok h1 H, void_ok h2 H⟩⟩
      · have : its.size = 2 := by rw [← Array.length_toList, hl]; rfl
        rw [this]
        decide
      · rw [hl]
        exact .cons rfl (.cons rfl .nil)
    · cases h
  · cases h
def tf : List He.Defn := [(("greatest_first" : Str), none), (("law" : Str), none)]
abbrev hk : PySem.W.Hook := He.hookX 4 D.fa D.fn [] tf ex
def ob (s : PySem.W.SharedT) : He.AlX := He.obsX 4 D.fa D.fn [] tf ex (HandSHeadRun.getT s)
theorem ob_eq (s : PySem.W.SharedT) : ob s = hk.obs s.abs := He.obsX_eq (HandSHeadRun.getT_eq s)
end K3
end HX_part
section HY_part
set_option Elab.async false
set_option linter.all false
set_option maxRecDepth 100000
set_option maxHeartbeats 0
namespace K3
open PySem PySem.Spec PyProof.Rows L2
/-! ### the two tables are not one -/
def sepB (K : PySem.W.Frag) : Bool := !decide ((He.cT K ("greatest_first", none)).2 = (He.cT K ("law", none)).2)
def ex2 (K : PySem.W.Frag) : Bool := ex K && sepB K
abbrev hk2 : PySem.W.Hook := He.hookX 4 D.fa D.fn [] tf ex2
def ob2 (s : PySem.W.SharedT) : He.AlX := He.obsX 4 D.fa D.fn [] tf ex2 (HandSHeadRun.getT s)
theorem ob_eq2 (s : PySem.W.SharedT) : ob2 s = hk2.obs s.abs := He.obsX_eq (HandSHeadRun.getT_eq s)
end K3
end HY_part
section H1_part
set_option Elab.async false
set_option linter.all false
set_option maxRecDepth 100000
set_option maxHeartbeats 0
namespace K3
open PySem PySem.Spec PyProof.Rows L2 PySem.W PySem.Calls HandSHeadRun
abbrev R : PySem.W.OpenRow := PySem.W.OpenLaw.row PySem.Challenge.rw_skiphall_k33_what_fences_refuse
def loose : List Str := [("HallError" : Str), ("BadCount" : Str), ("NoFit" : Str), ("NoCell" : Str), ("Unsafe" : Str), ("cells_of" : Str), ("all_but_last" : Str), ("last_cell" : Str), ("number_at" : Str), ("read_hidden" : Str), ("refuse_no_cell" : Str), ("refuse_shown" : Str), ("arc_of" : Str), ("Flow" : Str), ("least_flow" : Str), ("most_flow" : Str), ("steps_of" : Str), ("pushed" : Str), ("ways_from" : Str), ("way_to" : Str), ("NO_FENCE" : Str), ("fits" : Str), ("is_as_wide" : Str), ("has_right_sums" : Str), ("reach" : Str), ("bound" : Str), ("coming_in" : Str), ("going_out" : Str), ("is_in" : Str), ("sum_shown" : Str), ("fences" : Str), ("places_of" : Str), ("fence_of" : Str), ("LEAST_FEW" : Str), ("LEAST_WIDTH" : Str), ("is_safe" : Str), ("hidden_cells" : Str), ("refuse_few_and_width" : Str), ("secret_cells" : Str), ("greatest_first" : Str), ("first_unsafe" : Str), ("reach_width" : Str), ("_law_cell_at" : Str), ("_law_state" : Str), ("_law_digit" : Str), ("_law_summed" : Str), ("_law_cells" : Str), ("_law_hidden" : Str), ("_law_drawn_grid" : Str), ("_law_said" : Str), ("_law_hidden_due" : Str), ("_law_cell_due" : Str), ("_law_fits_right" : Str)]
abbrev qv : Program := PySem.W.view R.prog [59]
theorem run1 (w : World) (os : OsState) : (endF (stepQ (denQ tabQ) R.prog w) 8000 R.prog w os).map (fun s => looksF R.prog (boot_heap w.params) s.abs) = some true := by
  kernel_rfl
theorem run2 (w : World) (os : OsState) : (endF (stepQ (denQ tabQ) R.prog w) 8000 R.prog w os).map (fun s => seenQ qv loose (importedModules R.prog.main.body) (fun s => xlAt qv [] s && recOk R.toRowW.records s) s.abs) = some (openGood qv loose) := by
  kernel_rfl
theorem run3 (w : World) (os : OsState) : (endF (stepQ (denQ tabQ) R.prog w) 8000 R.prog w os).map (fun s => ob2 s) = some (hk2.val w) := by
  kernel_rfl
theorem join3 {A B C D : Type} {f : A → B} {g : A → C} {h : A → D} {b : B} {c : C} {d : D} : ∀ {o : Option A}, o.map f = some b → o.map g = some c → o.map h = some d → o.map (fun s => (f s, g s, h s)) = some (b, c, d)
  | none, q, _, _ => by cases q
  | some s, q1, q2, q3 => by
    have k1 := Option.some.inj q1
    have k2 := Option.some.inj q2
    have k3 := Option.some.inj q3
    show some (f s, g s, h s) = _
    rw [k1, k2, k3]
theorem run (w : World) : HandSHeadRun.RunEq R qv hk2 ob2 8000 loose w := fun os => join3 (run1 w os) (run2 w os) (run3 w os)
end K3
end H1_part
section A0_part
set_option Elab.async false
set_option linter.all false
set_option maxRecDepth 100000
set_option maxHeartbeats 0
namespace K3
open PySem PySem.Spec PyProof.Rows L2
/-- what the top has written -/
structure Tx (K : PySem.W.Frag) (mg : Str → Option Value) : Prop where
  c : He.SaysD D.fa D.fn K
  e : ex K = true
  h : ∃ h : Heap, K.In h ∧ h.Ns mainGlobals mg
section
variable {K : PySem.W.Frag} {mg : Str → Option Value}
theorem Tx.glo (T : Tx K mg) {x : Str} (c : (He.Fa.glo x).ok K = true) : mg x = some (.ref (He.ga K x)) := by
  obtain ⟨h, X, G⟩ := T.h
  exact He.glo_ok X G c
theorem Tx.free (T : Tx K mg) {x : Str} (c : (He.Fa.free x).ok K = true) : mg x = none := by
  obtain ⟨h, X, G⟩ := T.h
  exact He.free_ok X G c
theorem Tx.int (T : Tx K mg) {x : Str} {i : Int} (c : (He.Fa.int x i).ok K = true) : ∃ t, mg x = some (.int i t) := by
  obtain ⟨h, X, G⟩ := T.h
  exact He.int_ok X G c
theorem Tx.str (T : Tx K mg) {x z : Str} (c : (He.Fa.str x z).ok K = true) : ∃ t, mg x = some (.str z t) := by
  obtain ⟨h, X, G⟩ := T.h
  exact He.str_ok X G c
theorem Tx.g_HallError (T : Tx K mg) : mg "HallError" = some (.ref (He.ga K "HallError")) := T.glo (T.c.fact 0 rfl)
theorem Tx.k_HallError (T : Tx K mg) : PySem.W.keepIn K (.ref (He.ga K "HallError")) = true := He.keep_ok (x := "HallError") (T.c.fact 1 rfl)
theorem Tx.g_BadCount (T : Tx K mg) : mg "BadCount" = some (.ref (He.ga K "BadCount")) := T.glo (T.c.fact 2 rfl)
theorem Tx.k_BadCount (T : Tx K mg) : PySem.W.keepIn K (.ref (He.ga K "BadCount")) = true := He.keep_ok (x := "BadCount") (T.c.fact 3 rfl)
theorem Tx.g_NoFit (T : Tx K mg) : mg "NoFit" = some (.ref (He.ga K "NoFit")) := T.glo (T.c.fact 4 rfl)
theorem Tx.k_NoFit (T : Tx K mg) : PySem.W.keepIn K (.ref (He.ga K "NoFit")) = true := He.keep_ok (x := "NoFit") (T.c.fact 5 rfl)
theorem Tx.g_NoCell (T : Tx K mg) : mg "NoCell" = some (.ref (He.ga K "NoCell")) := T.glo (T.c.fact 6 rfl)
theorem Tx.k_NoCell (T : Tx K mg) : PySem.W.keepIn K (.ref (He.ga K "NoCell")) = true := He.keep_ok (x := "NoCell") (T.c.fact 7 rfl)
theorem Tx.g_Unsafe (T : Tx K mg) : mg "Unsafe" = some (.ref (He.ga K "Unsafe")) := T.glo (T.c.fact 8 rfl)
theorem Tx.k_Unsafe (T : Tx K mg) : PySem.W.keepIn K (.ref (He.ga K "Unsafe")) = true := He.keep_ok (x := "Unsafe") (T.c.fact 9 rfl)
theorem Tx.g_cells_of (T : Tx K mg) : mg "cells_of" = some (.ref (He.ga K "cells_of")) := T.glo (T.c.fact 10 rfl)
theorem Tx.g_all_but_last (T : Tx K mg) : mg "all_but_last" = some (.ref (He.ga K "all_but_last")) := T.glo (T.c.fact 11 rfl)
theorem Tx.g_last_cell (T : Tx K mg) : mg "last_cell" = some (.ref (He.ga K "last_cell")) := T.glo (T.c.fact 12 rfl)
theorem Tx.g_number_at (T : Tx K mg) : mg "number_at" = some (.ref (He.ga K "number_at")) := T.glo (T.c.fact 13 rfl)
theorem Tx.g_read_hidden (T : Tx K mg) : mg "read_hidden" = some (.ref (He.ga K "read_hidden")) := T.glo (T.c.fact 14 rfl)
theorem Tx.g_refuse_no_cell (T : Tx K mg) : mg "refuse_no_cell" = some (.ref (He.ga K "refuse_no_cell")) := T.glo (T.c.fact 15 rfl)
theorem Tx.g_refuse_shown (T : Tx K mg) : mg "refuse_shown" = some (.ref (He.ga K "refuse_shown")) := T.glo (T.c.fact 16 rfl)
theorem Tx.g_arc_of (T : Tx K mg) : mg "arc_of" = some (.ref (He.ga K "arc_of")) := T.glo (T.c.fact 17 rfl)
theorem Tx.g_Flow (T : Tx K mg) : mg "Flow" = some (.ref (He.ga K "Flow")) := T.glo (T.c.fact 18 rfl)
theorem Tx.k_Flow (T : Tx K mg) : PySem.W.keepIn K (.ref (He.ga K "Flow")) = true := He.keep_ok (x := "Flow") (T.c.fact 19 rfl)
theorem Tx.g_least_flow (T : Tx K mg) : mg "least_flow" = some (.ref (He.ga K "least_flow")) := T.glo (T.c.fact 20 rfl)
theorem Tx.g_most_flow (T : Tx K mg) : mg "most_flow" = some (.ref (He.ga K "most_flow")) := T.glo (T.c.fact 21 rfl)
theorem Tx.g_steps_of (T : Tx K mg) : mg "steps_of" = some (.ref (He.ga K "steps_of")) := T.glo (T.c.fact 22 rfl)
theorem Tx.g_pushed (T : Tx K mg) : mg "pushed" = some (.ref (He.ga K "pushed")) := T.glo (T.c.fact 23 rfl)
theorem Tx.g_ways_from (T : Tx K mg) : mg "ways_from" = some (.ref (He.ga K "ways_from")) := T.glo (T.c.fact 24 rfl)
theorem Tx.g_way_to (T : Tx K mg) : mg "way_to" = some (.ref (He.ga K "way_to")) := T.glo (T.c.fact 25 rfl)
theorem Tx.g_NO_FENCE (T : Tx K mg) : mg "NO_FENCE" = some (.ref (He.ga K "NO_FENCE")) := T.glo (T.c.fact 26 rfl)
theorem Tx.g_fits (T : Tx K mg) : mg "fits" = some (.ref (He.ga K "fits")) := T.glo (T.c.fact 27 rfl)
theorem Tx.g_is_as_wide (T : Tx K mg) : mg "is_as_wide" = some (.ref (He.ga K "is_as_wide")) := T.glo (T.c.fact 28 rfl)
theorem Tx.g_has_right_sums (T : Tx K mg) : mg "has_right_sums" = some (.ref (He.ga K "has_right_sums")) := T.glo (T.c.fact 29 rfl)
theorem Tx.g_reach (T : Tx K mg) : mg "reach" = some (.ref (He.ga K "reach")) := T.glo (T.c.fact 30 rfl)
theorem Tx.g_bound (T : Tx K mg) : mg "bound" = some (.ref (He.ga K "bound")) := T.glo (T.c.fact 31 rfl)
theorem Tx.g_coming_in (T : Tx K mg) : mg "coming_in" = some (.ref (He.ga K "coming_in")) := T.glo (T.c.fact 32 rfl)
theorem Tx.g_going_out (T : Tx K mg) : mg "going_out" = some (.ref (He.ga K "going_out")) := T.glo (T.c.fact 33 rfl)
theorem Tx.g_is_in (T : Tx K mg) : mg "is_in" = some (.ref (He.ga K "is_in")) := T.glo (T.c.fact 34 rfl)
theorem Tx.g_sum_shown (T : Tx K mg) : mg "sum_shown" = some (.ref (He.ga K "sum_shown")) := T.glo (T.c.fact 35 rfl)
theorem Tx.g_fences (T : Tx K mg) : mg "fences" = some (.ref (He.ga K "fences")) := T.glo (T.c.fact 36 rfl)
theorem Tx.g_places_of (T : Tx K mg) : mg "places_of" = some (.ref (He.ga K "places_of")) := T.glo (T.c.fact 37 rfl)
theorem Tx.g_fence_of (T : Tx K mg) : mg "fence_of" = some (.ref (He.ga K "fence_of")) := T.glo (T.c.fact 38 rfl)
theorem Tx.i_LEAST_FEW (T : Tx K mg) : ∃ t, mg "LEAST_FEW" = some (.int 2 t) := T.int (T.c.fact 39 rfl)
theorem Tx.i_LEAST_WIDTH (T : Tx K mg) : ∃ t, mg "LEAST_WIDTH" = some (.int 1 t) := T.int (T.c.fact 40 rfl)
theorem Tx.g_is_safe (T : Tx K mg) : mg "is_safe" = some (.ref (He.ga K "is_safe")) := T.glo (T.c.fact 41 rfl)
theorem Tx.g_hidden_cells (T : Tx K mg) : mg "hidden_cells" = some (.ref (He.ga K "hidden_cells")) := T.glo (T.c.fact 42 rfl)
theorem Tx.g_refuse_few_and_width (T : Tx K mg) : mg "refuse_few_and_width" = some (.ref (He.ga K "refuse_few_and_width")) := T.glo (T.c.fact 43 rfl)
theorem Tx.g_secret_cells (T : Tx K mg) : mg "secret_cells" = some (.ref (He.ga K "secret_cells")) := T.glo (T.c.fact 44 rfl)
theorem Tx.g_greatest_first (T : Tx K mg) : mg "greatest_first" = some (.ref (He.ga K "greatest_first")) := T.glo (T.c.fact 45 rfl)
theorem Tx.g_first_unsafe (T : Tx K mg) : mg "first_unsafe" = some (.ref (He.ga K "first_unsafe")) := T.glo (T.c.fact 46 rfl)
theorem Tx.g_reach_width (T : Tx K mg) : mg "reach_width" = some (.ref (He.ga K "reach_width")) := T.glo (T.c.fact 47 rfl)
theorem Tx.g__law_cell_at (T : Tx K mg) : mg "_law_cell_at" = some (.ref (He.ga K "_law_cell_at")) := T.glo (T.c.fact 48 rfl)
theorem Tx.g__law_state (T : Tx K mg) : mg "_law_state" = some (.ref (He.ga K "_law_state")) := T.glo (T.c.fact 49 rfl)
theorem Tx.g__law_digit (T : Tx K mg) : mg "_law_digit" = some (.ref (He.ga K "_law_digit")) := T.glo (T.c.fact 50 rfl)
theorem Tx.g__law_summed (T : Tx K mg) : mg "_law_summed" = some (.ref (He.ga K "_law_summed")) := T.glo (T.c.fact 51 rfl)
theorem Tx.g__law_cells (T : Tx K mg) : mg "_law_cells" = some (.ref (He.ga K "_law_cells")) := T.glo (T.c.fact 52 rfl)
theorem Tx.g__law_hidden (T : Tx K mg) : mg "_law_hidden" = some (.ref (He.ga K "_law_hidden")) := T.glo (T.c.fact 53 rfl)
theorem Tx.g__law_drawn_grid (T : Tx K mg) : mg "_law_drawn_grid" = some (.ref (He.ga K "_law_drawn_grid")) := T.glo (T.c.fact 54 rfl)
theorem Tx.g__law_said (T : Tx K mg) : mg "_law_said" = some (.ref (He.ga K "_law_said")) := T.glo (T.c.fact 55 rfl)
theorem Tx.g__law_hidden_due (T : Tx K mg) : mg "_law_hidden_due" = some (.ref (He.ga K "_law_hidden_due")) := T.glo (T.c.fact 56 rfl)
theorem Tx.g__law_cell_due (T : Tx K mg) : mg "_law_cell_due" = some (.ref (He.ga K "_law_cell_due")) := T.glo (T.c.fact 57 rfl)
theorem Tx.g__law_fits_right (T : Tx K mg) : mg "_law_fits_right" = some (.ref (He.ga K "_law_fits_right")) := T.glo (T.c.fact 58 rfl)
theorem Tx.g_law (T : Tx K mg) : mg "law" = some (.ref (He.ga K "law")) := T.glo (T.c.fact 59 rfl)
theorem Tx.z_ValueError (T : Tx K mg) : mg "ValueError" = none := T.free (T.c.fact 60 rfl)
theorem Tx.z_abs (T : Tx K mg) : mg "abs" = none := T.free (T.c.fact 61 rfl)
theorem Tx.z_all (T : Tx K mg) : mg "all" = none := T.free (T.c.fact 62 rfl)
theorem Tx.z_any (T : Tx K mg) : mg "any" = none := T.free (T.c.fact 63 rfl)
theorem Tx.z_int (T : Tx K mg) : mg "int" = none := T.free (T.c.fact 64 rfl)
theorem Tx.z_isinstance (T : Tx K mg) : mg "isinstance" = none := T.free (T.c.fact 65 rfl)
theorem Tx.z_len (T : Tx K mg) : mg "len" = none := T.free (T.c.fact 66 rfl)
theorem Tx.z_list (T : Tx K mg) : mg "list" = none := T.free (T.c.fact 67 rfl)
theorem Tx.z_min (T : Tx K mg) : mg "min" = none := T.free (T.c.fact 68 rfl)
theorem Tx.z_range (T : Tx K mg) : mg "range" = none := T.free (T.c.fact 69 rfl)
theorem Tx.z_set (T : Tx K mg) : mg "set" = none := T.free (T.c.fact 70 rfl)
theorem Tx.z_sorted (T : Tx K mg) : mg "sorted" = none := T.free (T.c.fact 71 rfl)
theorem Tx.z_sum (T : Tx K mg) : mg "sum" = none := T.free (T.c.fact 72 rfl)
theorem Tx.z_tuple (T : Tx K mg) : mg "tuple" = none := T.free (T.c.fact 73 rfl)
theorem Tx.n_BadCount_what (T : Tx K mg) : NoAttr K (He.ga K "BadCount") "what" := He.noat_ok (x := "BadCount") (f := "what") (T.c.fact 74 rfl)
theorem Tx.n_BadCount_count (T : Tx K mg) : NoAttr K (He.ga K "BadCount") "count" := He.noat_ok (x := "BadCount") (f := "count") (T.c.fact 75 rfl)
theorem Tx.m_BadCount_init (T : Tx K mg) : Meth K (He.ga K "BadCount") "__init__" (He.ma K (He.ga K "BadCount") "__init__") := He.meth_ok (x := "BadCount") (m := "__init__") (T.c.fact 76 rfl)
theorem Tx.n_NoFit_name (T : Tx K mg) : NoAttr K (He.ga K "NoFit") "name" := He.noat_ok (x := "NoFit") (f := "name") (T.c.fact 77 rfl)
theorem Tx.m_NoFit_init (T : Tx K mg) : Meth K (He.ga K "NoFit") "__init__" (He.ma K (He.ga K "NoFit") "__init__") := He.meth_ok (x := "NoFit") (m := "__init__") (T.c.fact 78 rfl)
theorem Tx.n_NoCell_row (T : Tx K mg) : NoAttr K (He.ga K "NoCell") "row" := He.noat_ok (x := "NoCell") (f := "row") (T.c.fact 79 rfl)
theorem Tx.n_NoCell_column (T : Tx K mg) : NoAttr K (He.ga K "NoCell") "column" := He.noat_ok (x := "NoCell") (f := "column") (T.c.fact 80 rfl)
theorem Tx.m_NoCell_init (T : Tx K mg) : Meth K (He.ga K "NoCell") "__init__" (He.ma K (He.ga K "NoCell") "__init__") := He.meth_ok (x := "NoCell") (m := "__init__") (T.c.fact 81 rfl)
theorem Tx.n_Unsafe_cell (T : Tx K mg) : NoAttr K (He.ga K "Unsafe") "cell" := He.noat_ok (x := "Unsafe") (f := "cell") (T.c.fact 82 rfl)
theorem Tx.m_Unsafe_init (T : Tx K mg) : Meth K (He.ga K "Unsafe") "__init__" (He.ma K (He.ga K "Unsafe") "__init__") := He.meth_ok (x := "Unsafe") (m := "__init__") (T.c.fact 83 rfl)
theorem Tx.cl_Flow (T : Tx K mg) : Cls K (He.ga K "Flow") := He.cls_ok (x := "Flow") (T.c.fact 84 rfl)
theorem Tx.mk_Flow (T : Tx K mg) : Mk K (He.ga K "Flow") (He.ma K (He.ga K "Flow") "__init__") := He.mkr_ok (x := "Flow") (T.c.fact 85 rfl)
theorem Tx.n_Flow_cell (T : Tx K mg) : NoAttr K (He.ga K "Flow") "cell" := He.noat_ok (x := "Flow") (f := "cell") (T.c.fact 86 rfl)
theorem Tx.n_Flow_numbers (T : Tx K mg) : NoAttr K (He.ga K "Flow") "numbers" := He.noat_ok (x := "Flow") (f := "numbers") (T.c.fact 87 rfl)
theorem Tx.n_Flow_steps (T : Tx K mg) : NoAttr K (He.ga K "Flow") "steps" := He.noat_ok (x := "Flow") (f := "steps") (T.c.fact 88 rfl)
theorem Tx.m_Flow_init (T : Tx K mg) : Meth K (He.ga K "Flow") "__init__" (He.ma K (He.ga K "Flow") "__init__") := He.meth_ok (x := "Flow") (m := "__init__") (T.c.fact 89 rfl)
theorem Tx.m_Flow_number_now (T : Tx K mg) : Meth K (He.ga K "Flow") "number_now" (He.ma K (He.ga K "Flow") "number_now") := He.meth_ok (x := "Flow") (m := "number_now") (T.c.fact 90 rfl)
theorem Tx.m_Flow_change (T : Tx K mg) : Meth K (He.ga K "Flow") "change" (He.ma K (He.ga K "Flow") "change") := He.meth_ok (x := "Flow") (m := "change") (T.c.fact 91 rfl)
theorem Tx.f_HallError_told (T : Tx K mg) : ∃ fd, FunD K "told" "HallError.told" (defArgs s_HallError_told) (defBody s_HallError_told) (defScope s_HallError_told) [] [] (He.ma K (He.ga K "HallError") "told") fd := T.c.def_ 0 (d := D.d_HallError_told) rfl
theorem Tx.f_BadCount_init (T : Tx K mg) : ∃ fd, FunD K "__init__" "BadCount.__init__" (defArgs s_BadCount_init) (defBody s_BadCount_init) (defScope s_BadCount_init) [] [] (He.ma K (He.ga K "BadCount") "__init__") fd := T.c.def_ 1 (d := D.d_BadCount_init) rfl
theorem Tx.f_BadCount_told (T : Tx K mg) : ∃ fd, FunD K "told" "BadCount.told" (defArgs s_BadCount_told) (defBody s_BadCount_told) (defScope s_BadCount_told) [] [] (He.ma K (He.ga K "BadCount") "told") fd := T.c.def_ 2 (d := D.d_BadCount_told) rfl
theorem Tx.f_NoFit_init (T : Tx K mg) : ∃ fd, FunD K "__init__" "NoFit.__init__" (defArgs s_NoFit_init) (defBody s_NoFit_init) (defScope s_NoFit_init) [] [] (He.ma K (He.ga K "NoFit") "__init__") fd := T.c.def_ 3 (d := D.d_NoFit_init) rfl
theorem Tx.f_NoFit_told (T : Tx K mg) : ∃ fd, FunD K "told" "NoFit.told" (defArgs s_NoFit_told) (defBody s_NoFit_told) (defScope s_NoFit_told) [] [] (He.ma K (He.ga K "NoFit") "told") fd := T.c.def_ 4 (d := D.d_NoFit_told) rfl
theorem Tx.f_NoCell_init (T : Tx K mg) : ∃ fd, FunD K "__init__" "NoCell.__init__" (defArgs s_NoCell_init) (defBody s_NoCell_init) (defScope s_NoCell_init) [] [] (He.ma K (He.ga K "NoCell") "__init__") fd := T.c.def_ 5 (d := D.d_NoCell_init) rfl
theorem Tx.f_NoCell_told (T : Tx K mg) : ∃ fd, FunD K "told" "NoCell.told" (defArgs s_NoCell_told) (defBody s_NoCell_told) (defScope s_NoCell_told) [] [] (He.ma K (He.ga K "NoCell") "told") fd := T.c.def_ 6 (d := D.d_NoCell_told) rfl
theorem Tx.f_Unsafe_init (T : Tx K mg) : ∃ fd, FunD K "__init__" "Unsafe.__init__" (defArgs s_Unsafe_init) (defBody s_Unsafe_init) (defScope s_Unsafe_init) [] [] (He.ma K (He.ga K "Unsafe") "__init__") fd := T.c.def_ 7 (d := D.d_Unsafe_init) rfl
theorem Tx.f_Unsafe_told (T : Tx K mg) : ∃ fd, FunD K "told" "Unsafe.told" (defArgs s_Unsafe_told) (defBody s_Unsafe_told) (defScope s_Unsafe_told) [] [] (He.ma K (He.ga K "Unsafe") "told") fd := T.c.def_ 8 (d := D.d_Unsafe_told) rfl
theorem Tx.f_cells_of (T : Tx K mg) : ∃ fd, FunD K "cells_of" "cells_of" (defArgs s_cells_of) (defBody s_cells_of) (defScope s_cells_of) [] [] (He.ga K "cells_of") fd := T.c.def_ 9 (d := D.d_cells_of) rfl
theorem Tx.f_all_but_last (T : Tx K mg) : ∃ fd, FunD K "all_but_last" "all_but_last" (defArgs s_all_but_last) (defBody s_all_but_last) (defScope s_all_but_last) [] [] (He.ga K "all_but_last") fd := T.c.def_ 10 (d := D.d_all_but_last) rfl
theorem Tx.f_last_cell (T : Tx K mg) : ∃ fd, FunD K "last_cell" "last_cell" (defArgs s_last_cell) (defBody s_last_cell) (defScope s_last_cell) [] [] (He.ga K "last_cell") fd := T.c.def_ 11 (d := D.d_last_cell) rfl
theorem Tx.f_number_at (T : Tx K mg) : ∃ fd, FunD K "number_at" "number_at" (defArgs s_number_at) (defBody s_number_at) (defScope s_number_at) [] [] (He.ga K "number_at") fd := T.c.def_ 12 (d := D.d_number_at) rfl
theorem Tx.f_read_hidden (T : Tx K mg) : ∃ fd, FunD K "read_hidden" "read_hidden" (defArgs s_read_hidden) (defBody s_read_hidden) (defScope s_read_hidden) [] [] (He.ga K "read_hidden") fd := T.c.def_ 13 (d := D.d_read_hidden) rfl
theorem Tx.f_refuse_no_cell (T : Tx K mg) : ∃ fd, FunD K "refuse_no_cell" "refuse_no_cell" (defArgs s_refuse_no_cell) (defBody s_refuse_no_cell) (defScope s_refuse_no_cell) [] [] (He.ga K "refuse_no_cell") fd := T.c.def_ 14 (d := D.d_refuse_no_cell) rfl
theorem Tx.f_refuse_shown (T : Tx K mg) : ∃ fd, FunD K "refuse_shown" "refuse_shown" (defArgs s_refuse_shown) (defBody s_refuse_shown) (defScope s_refuse_shown) [] [] (He.ga K "refuse_shown") fd := T.c.def_ 15 (d := D.d_refuse_shown) rfl
theorem Tx.f_arc_of (T : Tx K mg) : ∃ fd, FunD K "arc_of" "arc_of" (defArgs s_arc_of) (defBody s_arc_of) (defScope s_arc_of) [] [] (He.ga K "arc_of") fd := T.c.def_ 16 (d := D.d_arc_of) rfl
theorem Tx.f_Flow_init (T : Tx K mg) : ∃ fd, FunD K "__init__" "Flow.__init__" (defArgs s_Flow_init) (defBody s_Flow_init) (defScope s_Flow_init) [] [] (He.ma K (He.ga K "Flow") "__init__") fd := T.c.def_ 17 (d := D.d_Flow_init) rfl
theorem Tx.f_Flow_number_now (T : Tx K mg) : ∃ fd, FunD K "number_now" "Flow.number_now" (defArgs s_Flow_number_now) (defBody s_Flow_number_now) (defScope s_Flow_number_now) [] [] (He.ma K (He.ga K "Flow") "number_now") fd := T.c.def_ 18 (d := D.d_Flow_number_now) rfl
theorem Tx.f_Flow_change (T : Tx K mg) : ∃ fd, FunD K "change" "Flow.change" (defArgs s_Flow_change) (defBody s_Flow_change) (defScope s_Flow_change) [] [] (He.ma K (He.ga K "Flow") "change") fd := T.c.def_ 19 (d := D.d_Flow_change) rfl
theorem Tx.f_least_flow (T : Tx K mg) : ∃ fd, FunD K "least_flow" "least_flow" (defArgs s_least_flow) (defBody s_least_flow) (defScope s_least_flow) [] [] (He.ga K "least_flow") fd := T.c.def_ 20 (d := D.d_least_flow) rfl
theorem Tx.f_most_flow (T : Tx K mg) : ∃ fd, FunD K "most_flow" "most_flow" (defArgs s_most_flow) (defBody s_most_flow) (defScope s_most_flow) [] [] (He.ga K "most_flow") fd := T.c.def_ 21 (d := D.d_most_flow) rfl
theorem Tx.f_steps_of (T : Tx K mg) : ∃ fd, FunD K "steps_of" "steps_of" (defArgs s_steps_of) (defBody s_steps_of) (defScope s_steps_of) [] [] (He.ga K "steps_of") fd := T.c.def_ 22 (d := D.d_steps_of) rfl
theorem Tx.f_pushed (T : Tx K mg) : ∃ fd, FunD K "pushed" "pushed" (defArgs s_pushed) (defBody s_pushed) (defScope s_pushed) [] [] (He.ga K "pushed") fd := T.c.def_ 23 (d := D.d_pushed) rfl
theorem Tx.f_ways_from (T : Tx K mg) : ∃ fd, FunD K "ways_from" "ways_from" (defArgs s_ways_from) (defBody s_ways_from) (defScope s_ways_from) [] [] (He.ga K "ways_from") fd := T.c.def_ 24 (d := D.d_ways_from) rfl
theorem Tx.f_way_to (T : Tx K mg) : ∃ fd, FunD K "way_to" "way_to" (defArgs s_way_to) (defBody s_way_to) (defScope s_way_to) [] [] (He.ga K "way_to") fd := T.c.def_ 25 (d := D.d_way_to) rfl
theorem Tx.f_fits (T : Tx K mg) : ∃ fd, FunD K "fits" "fits" (defArgs s_fits) (defBody s_fits) (defScope s_fits) [] [] (He.ga K "fits") fd := T.c.def_ 26 (d := D.d_fits) rfl
theorem Tx.f_is_as_wide (T : Tx K mg) : ∃ fd, FunD K "is_as_wide" "is_as_wide" (defArgs s_is_as_wide) (defBody s_is_as_wide) (defScope s_is_as_wide) [] [] (He.ga K "is_as_wide") fd := T.c.def_ 27 (d := D.d_is_as_wide) rfl
theorem Tx.f_has_right_sums (T : Tx K mg) : ∃ fd, FunD K "has_right_sums" "has_right_sums" (defArgs s_has_right_sums) (defBody s_has_right_sums) (defScope s_has_right_sums) [] [] (He.ga K "has_right_sums") fd := T.c.def_ 28 (d := D.d_has_right_sums) rfl
theorem Tx.f_reach (T : Tx K mg) : ∃ fd, FunD K "reach" "reach" (defArgs s_reach) (defBody s_reach) (defScope s_reach) [] [] (He.ga K "reach") fd := T.c.def_ 29 (d := D.d_reach) rfl
theorem Tx.f_bound (T : Tx K mg) : ∃ fd, FunD K "bound" "bound" (defArgs s_bound) (defBody s_bound) (defScope s_bound) [] [] (He.ga K "bound") fd := T.c.def_ 30 (d := D.d_bound) rfl
theorem Tx.f_coming_in (T : Tx K mg) : ∃ fd, FunD K "coming_in" "coming_in" (defArgs s_coming_in) (defBody s_coming_in) (defScope s_coming_in) [] [] (He.ga K "coming_in") fd := T.c.def_ 31 (d := D.d_coming_in) rfl
theorem Tx.f_going_out (T : Tx K mg) : ∃ fd, FunD K "going_out" "going_out" (defArgs s_going_out) (defBody s_going_out) (defScope s_going_out) [] [] (He.ga K "going_out") fd := T.c.def_ 32 (d := D.d_going_out) rfl
theorem Tx.f_is_in (T : Tx K mg) : ∃ fd, FunD K "is_in" "is_in" (defArgs s_is_in) (defBody s_is_in) (defScope s_is_in) [] [] (He.ga K "is_in") fd := T.c.def_ 33 (d := D.d_is_in) rfl
theorem Tx.f_sum_shown (T : Tx K mg) : ∃ fd, FunD K "sum_shown" "sum_shown" (defArgs s_sum_shown) (defBody s_sum_shown) (defScope s_sum_shown) [] [] (He.ga K "sum_shown") fd := T.c.def_ 34 (d := D.d_sum_shown) rfl
theorem Tx.f_fences (T : Tx K mg) : ∃ fd, FunD K "fences" "fences" (defArgs s_fences) (defBody s_fences) (defScope s_fences) [] [] (He.ga K "fences") fd := T.c.def_ 35 (d := D.d_fences) rfl
theorem Tx.f_places_of (T : Tx K mg) : ∃ fd, FunD K "places_of" "places_of" (defArgs s_places_of) (defBody s_places_of) (defScope s_places_of) [] [] (He.ga K "places_of") fd := T.c.def_ 36 (d := D.d_places_of) rfl
theorem Tx.f_fence_of (T : Tx K mg) : ∃ fd, FunD K "fence_of" "fence_of" (defArgs s_fence_of) (defBody s_fence_of) (defScope s_fence_of) [] [] (He.ga K "fence_of") fd := T.c.def_ 37 (d := D.d_fence_of) rfl
theorem Tx.f_is_safe (T : Tx K mg) : ∃ fd, FunD K "is_safe" "is_safe" (defArgs s_is_safe) (defBody s_is_safe) (defScope s_is_safe) [] [] (He.ga K "is_safe") fd := T.c.def_ 38 (d := D.d_is_safe) rfl
theorem Tx.f_hidden_cells (T : Tx K mg) : ∃ fd, FunD K "hidden_cells" "hidden_cells" (defArgs s_hidden_cells) (defBody s_hidden_cells) (defScope s_hidden_cells) [] [] (He.ga K "hidden_cells") fd := T.c.def_ 39 (d := D.d_hidden_cells) rfl
theorem Tx.f_refuse_few_and_width (T : Tx K mg) : ∃ fd, FunD K "refuse_few_and_width" "refuse_few_and_width" (defArgs s_refuse_few_and_width) (defBody s_refuse_few_and_width) (defScope s_refuse_few_and_width) [] [] (He.ga K "refuse_few_and_width") fd := T.c.def_ 40 (d := D.d_refuse_few_and_width) rfl
theorem Tx.f_secret_cells (T : Tx K mg) : ∃ fd, FunD K "secret_cells" "secret_cells" (defArgs s_secret_cells) (defBody s_secret_cells) (defScope s_secret_cells) [] [] (He.ga K "secret_cells") fd := T.c.def_ 41 (d := D.d_secret_cells) rfl
theorem Tx.f_greatest_first (T : Tx K mg) : ∃ fd, FunD K "greatest_first" "greatest_first" (defArgs s_greatest_first) (defBody s_greatest_first) (defScope s_greatest_first) [] [] (He.ga K "greatest_first") fd := T.c.def_ 42 (d := D.d_greatest_first) rfl
theorem Tx.f_first_unsafe (T : Tx K mg) : ∃ fd, FunD K "first_unsafe" "first_unsafe" (defArgs s_first_unsafe) (defBody s_first_unsafe) (defScope s_first_unsafe) [] [] (He.ga K "first_unsafe") fd := T.c.def_ 43 (d := D.d_first_unsafe) rfl
theorem Tx.f_reach_width (T : Tx K mg) : ∃ fd, FunD K "reach_width" "reach_width" (defArgs s_reach_width) (defBody s_reach_width) (defScope s_reach_width) [] [] (He.ga K "reach_width") fd := T.c.def_ 44 (d := D.d_reach_width) rfl
theorem Tx.f__law_cell_at (T : Tx K mg) : ∃ fd, FunD K "_law_cell_at" "_law_cell_at" (defArgs s__law_cell_at) (defBody s__law_cell_at) (defScope s__law_cell_at) [] [] (He.ga K "_law_cell_at") fd := T.c.def_ 45 (d := D.d__law_cell_at) rfl
theorem Tx.f__law_state (T : Tx K mg) : ∃ fd, FunD K "_law_state" "_law_state" (defArgs s__law_state) (defBody s__law_state) (defScope s__law_state) [] [] (He.ga K "_law_state") fd := T.c.def_ 46 (d := D.d__law_state) rfl
theorem Tx.f__law_digit (T : Tx K mg) : ∃ fd, FunD K "_law_digit" "_law_digit" (defArgs s__law_digit) (defBody s__law_digit) (defScope s__law_digit) [] [] (He.ga K "_law_digit") fd := T.c.def_ 47 (d := D.d__law_digit) rfl
theorem Tx.f__law_summed (T : Tx K mg) : ∃ fd, FunD K "_law_summed" "_law_summed" (defArgs s__law_summed) (defBody s__law_summed) (defScope s__law_summed) [] [] (He.ga K "_law_summed") fd := T.c.def_ 48 (d := D.d__law_summed) rfl
theorem Tx.f__law_cells (T : Tx K mg) : ∃ fd, FunD K "_law_cells" "_law_cells" (defArgs s__law_cells) (defBody s__law_cells) (defScope s__law_cells) [] [] (He.ga K "_law_cells") fd := T.c.def_ 49 (d := D.d__law_cells) rfl
theorem Tx.f__law_hidden (T : Tx K mg) : ∃ fd, FunD K "_law_hidden" "_law_hidden" (defArgs s__law_hidden) (defBody s__law_hidden) (defScope s__law_hidden) [] [] (He.ga K "_law_hidden") fd := T.c.def_ 50 (d := D.d__law_hidden) rfl
theorem Tx.f__law_drawn_grid (T : Tx K mg) : ∃ fd, FunD K "_law_drawn_grid" "_law_drawn_grid" (defArgs s__law_drawn_grid) (defBody s__law_drawn_grid) (defScope s__law_drawn_grid) [] [] (He.ga K "_law_drawn_grid") fd := T.c.def_ 51 (d := D.d__law_drawn_grid) rfl
theorem Tx.f__law_said (T : Tx K mg) : ∃ fd, FunD K "_law_said" "_law_said" (defArgs s__law_said) (defBody s__law_said) (defScope s__law_said) [] [] (He.ga K "_law_said") fd := T.c.def_ 52 (d := D.d__law_said) rfl
theorem Tx.f__law_hidden_due (T : Tx K mg) : ∃ fd, FunD K "_law_hidden_due" "_law_hidden_due" (defArgs s__law_hidden_due) (defBody s__law_hidden_due) (defScope s__law_hidden_due) [] [] (He.ga K "_law_hidden_due") fd := T.c.def_ 53 (d := D.d__law_hidden_due) rfl
theorem Tx.f__law_cell_due (T : Tx K mg) : ∃ fd, FunD K "_law_cell_due" "_law_cell_due" (defArgs s__law_cell_due) (defBody s__law_cell_due) (defScope s__law_cell_due) [] [] (He.ga K "_law_cell_due") fd := T.c.def_ 54 (d := D.d__law_cell_due) rfl
theorem Tx.f__law_fits_right (T : Tx K mg) : ∃ fd, FunD K "_law_fits_right" "_law_fits_right" (defArgs s__law_fits_right) (defBody s__law_fits_right) (defScope s__law_fits_right) [] [] (He.ga K "_law_fits_right") fd := T.c.def_ 55 (d := D.d__law_fits_right) rfl
theorem Tx.f_law (T : Tx K mg) : ∃ fd, FunD K "law" "law" (defArgs s_law) (defBody s_law) (defScope s_law) [] [] (He.ga K "law") fd := T.c.def_ 56 (d := D.d_law) rfl
end
end K3
end A0_part
section V0_part
set_option Elab.async false
set_option linter.all false
set_option maxRecDepth 100000
set_option maxHeartbeats 0
namespace L2
open PySem PySem.Spec PyProof.Rows
/-! ### a def and its promise, for all callers -/
structure Ok (P : Program) (w : World) (K : PySem.W.Frag) (mg : Str → Option Value) (base : Heap) (k : Nat) (f : Addr) (ps : List Str) (sp : Sp) : Prop where
  run : ∃ fd, FnOk P w K mg base (L2.CX P w) k f fd ps sp ∧ Binds K fd ps [] ∧ PySem.W.keepIn K (.ref f) = true
section
variable {X : Cx} {k : Nat} {f : Addr} {ps : List Str} {sp : Sp} {x : Str} {e : Expr} {es : List Expr} {p pos : Pos} {t : TA}
/-- f(e, ..), nothing is raised -/
theorem pe_f (O : Ok X.prog X.w X.K X.mg X.base k f ps sp) (hr : Room k X.A) (hm : X.mg x = some (.ref f)) (ha : PA X (e :: es) t) (hg : Gl X x := by rfl) (hdb : (x == ("__debug__" : Str)) = false := by decide)
    (he : starEach (e :: es) X.env = (false, eval e X.env) :: starEach es X.env := by rfl) (hpl : (backTo pos (starEach es X.env)).any (·.1) = false := by rfl) :
    PE X (.Call (.Name x p) (e :: es) [] pos) (tCall sp [] E0 t) := by
  obtain ⟨fd, F, b, kp⟩ := O.run
  exact pe_call F hr hg hm kp b .nil passL ha hdb he hpl
/-- f(e, ..), what is raised is wished for by W at the slots -/
theorem pe_fE {W : WX} (tk : Takes X W) (O : Ok X.prog X.w X.K X.mg X.base k f ps sp) (hr : Room k X.A) (hm : X.mg x = some (.ref f)) (ha : PA X (e :: es) t) (hg : Gl X x := by rfl) (hdb : (x == ("__debug__" : Str)) = false := by decide)
    (he : starEach (e :: es) X.env = (false, eval e X.env) :: starEach es X.env := by rfl) (hpl : (backTo pos (starEach es X.env)).any (·.1) = false := by rfl) :
    PE X (.Call (.Name x p) (e :: es) [] pos) (tCallS sp (WE W) t) := by
  obtain ⟨fd, F, b, kp⟩ := O.run
  exact pe_callS F hr hg hm kp b (fun σ => passAt tk σ) ha hdb he hpl
theorem pe_gint {i : Int} (hm : ∃ t, X.mg x = some (.int i t)) (hg : Gl X x := by rfl) (hd : (x == ("__debug__" : Str)) = false := by decide) : PE X (.Name x pos) (tC (.int i)) := by
  obtain ⟨t, h⟩ := hm
  exact pe_glob hg h ⟨_, rfl⟩ hd
theorem pe_gstr {i : Str} (hm : ∃ t, X.mg x = some (.str i t)) (hg : Gl X x := by rfl) (hd : (x == ("__debug__" : Str)) = false := by decide) : PE X (.Name x pos) (tC (.str i)) := by
  obtain ⟨t, h⟩ := hm
  exact pe_glob hg h ⟨_, rfl⟩ hd
theorem pe_gref {a : Addr} (hm : X.mg x = some (.ref a)) (hg : Gl X x := by rfl) (hd : (x == ("__debug__" : Str)) = false := by decide) : PE X (.Name x pos) (tC (.ref a)) := pe_glob hg hm rfl hd
end
/-! ### readings, step by step -/
section
variable {σ : St} {H : Hp} {D : Ends} {t u : TS} {te ta tb tc : TE} {tt tt2 : TT} {tr : TA} {Q : VK} {QB : Bool → Hp → Prop} {QA : List V → Hp → Prop} {i : Nat} {v x y : V}
theorem w_seq (h : t { D with nx := u D } σ H) : tSeq t u D σ H := h
theorem w_next (h : D.nx σ H) : tNext D σ H := h
theorem w_set (h : te σ H fun x H1 => D.nx (σ.set i (some x)) H1) : tAsg te (gName i) D σ H := h
theorem w_drop (h : te σ H fun _ H1 => D.nx σ H1) : tDrop te D σ H := h
theorem w_ret (h : te σ H D.rt) : tRet te D σ H := h
theorem w_retN (h : D.rt .non H) : tRetN D σ H := h
theorem w_if (h : tt σ H fun b H1 => if b = true then t D σ H1 else u D σ H1) : tIfS tt t u D σ H := h
theorem w_var (h : σ[i]? = some (some v)) (q : Q v H) : tVar i σ H Q := ⟨v, h, q⟩
theorem w_c (q : Q v H) : tC v σ H Q := q
theorem w_nil (q : QA [] H) : tNil σ H QA := q
theorem w_cons (h : te σ H fun x H1 => tr σ H1 fun xs H2 => QA (x :: xs) H2) : tCons te tr σ H QA := h
theorem w_op {r : R2} (h : ta σ H fun x H1 => tb σ H1 fun y H2 => r x y H2 Q) : tOp r ta tb σ H Q := h
theorem w_un {r : V → Hp → VK → Prop} (h : ta σ H fun x H1 => r x H1 Q) : tUn r ta σ H Q := h
theorem w_test (h : te σ H fun x H' => ∃ k, x = .bl k ∧ QB k H') : tTest te σ H QB := h
theorem w_tB (h : te σ H fun x H' => ∃ k, x = .bl k ∧ QB k H') : tB te σ H QB := h
theorem w_not (h : tt σ H fun c H1 => QB (!c) H1) : tNot tt σ H QB := h
theorem w_and (h : tt σ H fun c H1 => if c = true then tt2 σ H1 QB else QB false H1) : tAnd tt tt2 σ H QB := h
theorem w_or (h : tt σ H fun c H1 => if c = true then QB true H1 else tt2 σ H1 QB) : tOr tt tt2 σ H QB := h
theorem w_bl {b : Bool} {P : Bool → Prop} (h : P b) : ∃ k, V.bl b = .bl k ∧ P k := ⟨b, rfl, h⟩
theorem w_nT {A B : Prop} (h : B) : if (!true) = true then A else B := iteF h
theorem w_nF {A B : Prop} (h : A) : if (!false) = true then A else B := iteT h
theorem w_nN {A B : Prop} {b : Bool} (h : if b = true then B else A) : if (!b) = true then A else B := by cases b <;> exact h
theorem w_andV (h : ta σ H fun x H1 => ∃ c, x = .bl c ∧ if c = true then tb σ H1 Q else Q (.bl false) H1) : tAndV ta tb σ H Q := h
theorem w_orV (h : ta σ H fun x H1 => ∃ c, x = .bl c ∧ if c = true then Q (.bl true) H1 else tb σ H1 Q) : tOrV ta tb σ H Q := h
theorem w_notV (h : ta σ H fun x H1 => ∃ c, x = .bl c ∧ Q (.bl (!c)) H1) : tNotV ta σ H Q := h
theorem w_ifE (h : tt σ H fun c H1 => if c = true then ta σ H1 Q else tb σ H1 Q) : tIf tt ta tb σ H Q := h
theorem w_chain {r r' : R2} (h : ta σ H fun x H1 => tb σ H1 fun y H2 => r x y H2 fun z H3 => ∃ k, z = .bl k ∧ (if k = true then tc σ H3 fun w' H4 => r' y w' H4 Q else Q (.bl false) H3)) : tChain r r' ta tb tc σ H Q := h
theorem w_i0 {g : Int → Int → V} {i j : Int} (h : Q (g i j) H) : rI0 g (.int i) (.int j) H Q := ⟨i, j, rfl, rfl, h⟩
theorem w_i {C : Int → Int → Prop} {g : Int → Int → V} {i j : Int} (c : C i j) (h : Q (g i j) H) : rI C g (.int i) (.int j) H Q := ⟨i, j, rfl, rfl, c, h⟩
theorem w_call {sp : Sp} {dvs : List V} {E : XK} (h : tr σ H fun vs H1 => sp (vs ++ dvs) H1 Q E) : tCall sp dvs E tr σ H Q := h
theorem w_callS {sp : Sp} {E : St → XK} (h : tr σ H fun vs H1 => sp vs H1 Q (E σ)) : tCallS sp E tr σ H Q := h
theorem w_cB {r : List V → Hp → VK → Prop} (h : tr σ H fun vs H1 => r vs H1 Q) : tCB r tr σ H Q := h
theorem w_tup (h : tr σ H fun xs H1 => xs.length ≤ sizeLine ∧ ∀ p, H1 p = none → Q (.ref p) (upd H1 p (.tup xs))) : tTup tr σ H Q := h
theorem w_lst (h : tr σ H fun xs H1 => xs.length ≤ sizeLine ∧ ∀ p, H1 p = none → Q (.ref p) (upd H1 p (.lst xs))) : tLst tr σ H Q := h
theorem w_fldV {K : PySem.W.Frag} {f : Str} (h : ta σ H fun x H1 => ∃ a C dx fs v, x = .ref a ∧ H1 a = some (.ins C dx fs) ∧ Cls K C ∧ NoAttr K C f ∧ fs.lookup f = some v ∧ Q v H1) : tFld K ta f σ H Q := h
theorem w_eqS {a b : Str} (h : Q (.bl (decide (V.str a = V.str b))) H) : rEq (.str a) (.str b) H Q := ⟨rfl, h⟩
theorem w_neF {A B : Prop} {a b : Bool} (h : if b = true then A else B) : if (if false = true then a else b) = true then A else B := by
  rw [if_neg Bool.false_ne_true]
  exact h
theorem w_neT {A B : Prop} {a b : Bool} (h : if a = true then A else B) : if (if true = true then a else b) = true then A else B := by
  rw [if_pos (rfl : true = true)]
  exact h
theorem w_yes (h : QB true H) : tYes σ H QB := h
theorem w_notN (h : ta σ H fun x H1 => Q (.bl (!decide (x = .non))) H1) : tNotN ta σ H Q := h
theorem w_isN (h : ta σ H fun x H1 => Q (.bl (decide (x = .non))) H1) : tIsN ta σ H Q := h
theorem w_gname {QS : L2.St → Hp → Prop} (h : QS (σ.set i (some v)) H) : gName i v σ H QS := h
theorem w_gsub {to ti : TE} {t : TSet} {QS : L2.St → Hp → Prop} (h : to σ H fun o H1 => ti σ H1 fun i H2 => t o i v H2 fun H3 => QS σ H3) : gSub to ti t v σ H QS := h
theorem w_asg {g : TG} (h : te σ H fun x H1 => g x σ H1 D.nx) : tAsg te g D σ H := h
theorem w_ixL {K : PySem.W.Frag} {p : Addr} {xs : List V} {i : Int} (hl : H p = some (.lst xs)) (ha : atI xs i = some v) (h : Q v H) : rIxL K (.ref p) (.int i) H Q := ⟨p, xs, i, v, rfl, rfl, SqL.of hl, ha, h⟩
theorem w_ixT {K : PySem.W.Frag} {p : Addr} {xs : List V} {i : Int} (hl : SqT K H p xs) (ha : atI xs i = some v) (h : Q v H) : rIxT K (.ref p) (.int i) H Q := ⟨p, xs, i, v, rfl, rfl, hl, ha, h⟩
theorem w_setL {p : Addr} {xs : List V} {i : Int} {j : Nat} {QH : Hp → Prop} (hl : H p = some (.lst xs)) (hj : ixN xs.length i = some j) (h : QH (upd H p (.lst (xs.set j v)))) : rSetL (.ref p) (.int i) v H QH := ⟨p, xs, i, j, rfl, rfl, hl, hj, h⟩
theorem w_iteT {A B : Prop} (h : A) : if true = true then A else B := iteT h
theorem w_iteF {A B : Prop} (h : B) : if false = true then A else B := iteF h
end
end L2
namespace L2
open PySem PySem.Spec PyProof.Rows
theorem Same.new {H : Hp} {p : Addr} (h : H p = none) (o : HO) : Same H (upd H p o) := fun b u q => by rw [upd_ne (ne_of_none q h)]; exact q
theorem Same.at {H H' : Hp} (s : Same H H') {a : Addr} {o : HO} (h : H a = some o) : H' a = some o := s _ _ h
/-- an object that H does not know may change -/
theorem Same.mut {H H' : Hp} {p : Addr} {o : HO} (e : Same H H') (h : H p = none) : Same H (upd H' p o) := fun a u ha => by
  rw [upd_ne (ne_of_none ha h)]
  exact e a u ha
theorem Same.sqt {K : PySem.W.Frag} {H H' : Hp} {a : Addr} {xs : List V} (e : Same H H') (h : SqT K H a xs) : SqT K H' a xs := by
  rcases h with (h | ⟨o, h⟩) | h
  · exact .inl (.inl (e _ _ h))
  · exact .inl (.inr ⟨o, e _ _ h⟩)
  · exact .inr h
/-- instances and tuples stand -/
def keepF : List (Str × V) → Bool
  | [] => false
  | [(f, _)] => decide (f = ("inner" : Str))
  | [_, (g, _)] => !decide (g = ("questions" : Str))
  | _ => true
def keepO : HO → Bool
  | .ins _ _ fs => keepF fs
  | .tup _ => true
  | .frz _ _ => true
  | _ => false
def SI (H H' : Hp) : Prop := ∀ b o, keepO o = true → H b = some o → H' b = some o
theorem Same.si {H H' : Hp} (e : Same H H') : SI H H' := fun b o _ h => e b o h
theorem SI.trans {H H1 H2 : Hp} (a : SI H H1) (b : SI H1 H2) : SI H H2 := fun c o k h => b c o k (a c o k h)
theorem SI.refl (H : Hp) : SI H H := fun _ _ _ h => h
theorem SI.upd {H : Hp} {p : Addr} {u : HO} (h : H p = some u) (hu : keepO u = false) (o : HO) : SI H (upd H p o) := fun b o' k q => by
  rw [upd_ne (fun z => by rw [z, h] at q; rw [← Option.some.inj q, hu] at k; cases k)]
  exact q
theorem SI.sqt {K : PySem.W.Frag} {H H' : Hp} {a : Addr} {xs : List V} (e : SI H H') (h : SqT K H a xs) : SqT K H' a xs := by
  rcases h with (h | ⟨o, h⟩) | h
  · exact .inl (.inl (e _ _ rfl h))
  · exact .inl (.inr ⟨o, e _ _ rfl h⟩)
  · exact .inr h
/-- [te for c in z]: each element is f c -/
theorem lc_strF {z : Str} {f : Nat → V} {σ : St} {i : Nat} {vs : List Nat} {ta te : TE} {H : Hp} {Q : VK} (ha : ∀ (Q : VK), Q (.str z) H → ta σ H Q) (hz : z.cps.size ≤ 1000) (hw : ∀ x, wipe ((wipe σ vs).set i (some x)) vs = wipe σ vs)
    (he : ∀ (c : Nat) (H' : Hp) (Q : VK), Same H H' → Q (f c) H' → te ((wipe σ vs).set i (some (.str ⟨#[c]⟩))) H' Q)
    (q : ∀ (p : Addr) (H' : Hp), H p = none → Same H H' → H' p = some (.lst (z.cps.toList.map f)) → Q (.ref p) H') : tLc (iStr ta) (gName i) tYes te vs σ H Q := by
  refine ha _ ⟨z, rfl, fun p hp => ?_⟩
  refine lc_it (n := z.cps.size) walk_str (fun n H' => Same H H' ∧ H' p = some (.lst ((z.cps.toList.take n).map f))) ⟨Same.new hp _, upd_same⟩ (fun _ _ _ _ => trivial) ?_ ?_
  · rintro n x H1 H2 hn ⟨s1, e1⟩ ⟨rfl, c, hc, rfl⟩
    refine ⟨hw _, ?_⟩
    refine w_yes ?_
    refine w_iteT ?_
    refine (he c _ _ s1 ⟨_, e1, ?_, s1.mut hp, ?_⟩)
    · rw [List.length_map, List.length_take, Array.length_toList]
      exact Nat.lt_of_lt_of_le (Nat.lt_of_le_of_lt (Nat.min_le_left _ _) (Nat.lt_of_lt_of_le hn hz)) (by decide)
    · rw [upd_same, List.take_add_one]
      have : z.cps.toList[n]? = some c := by rw [Array.getElem?_toList]; exact hc
      rw [this]
      simp
  · rintro H' ⟨s1, e1⟩
    refine q p H' hp s1 ?_
    rw [e1, List.take_of_length_le (by rw [Array.length_toList] <;> exact Nat.le_refl _)]
end L2
end V0_part
section G0_part
set_option Elab.async false
set_option linter.all false
set_option maxRecDepth 100000
set_option maxHeartbeats 1000000
set_option pp.deepTerms.threshold 5
open PySem PySem.Spec PyProof.Rows L2
/-- go on as far as nothing is open -/
local macro_rules | `(tactic| walk_at "go") => `(tactic| repeat (first
  | with_reducible refine w_seq ?_ | with_reducible refine w_next ?_ | with_reducible refine w_set ?_ | with_reducible refine w_drop ?_ | with_reducible refine w_ret ?_ | with_reducible refine w_retN ?_
  | with_reducible refine w_if ?_ | ((with_reducible refine' w_var ?hv ?_); (case hv => exact rfl)) | with_reducible refine w_c ?_ | with_reducible refine w_nil ?_ | with_reducible refine w_cons ?_ | with_reducible refine w_op ?_ | with_reducible refine w_un ?_
  | with_reducible refine w_test ?_ | with_reducible refine w_tB ?_ | with_reducible refine w_not ?_ | with_reducible refine w_and ?_ | with_reducible refine w_or ?_ | with_reducible refine w_bl ?_
  | with_reducible refine w_andV ?_ | with_reducible refine w_orV ?_ | with_reducible refine w_notV ?_ | with_reducible refine w_ifE ?_ | with_reducible refine w_chain ?_ | with_reducible refine w_i0 ?_
  | with_reducible refine w_call ?_ | with_reducible refine w_callS ?_ | with_reducible refine w_cB ?_ | with_reducible refine w_tup ?_ | with_reducible refine w_lst ?_ | with_reducible refine w_fldV ?_
  | with_reducible refine w_neF ?_ | with_reducible refine w_neT ?_ | with_reducible refine w_notN ?_ | with_reducible refine w_isN ?_ | with_reducible refine w_gname ?_ | with_reducible refine w_gsub ?_ | with_reducible refine w_asg ?_ | with_reducible refine w_yes ?_ | with_reducible refine w_nT ?_ | with_reducible refine w_nF ?_ | with_reducible refine w_iteT ?_ | with_reducible refine w_iteF ?_))
namespace L2
open PySem PySem.Spec PyProof.Rows
section
variable {σ : St} {H : Hp} {te : TE} {tl th : TO} {Q : VK} {QO : Option Int → Hp → Prop} {r : V → Option Int → Option Int → Hp → VK → Prop}
theorem w_sl (h : te σ H fun x H1 => tl σ H1 fun l H2 => th σ H2 fun u H3 => r x l u H3 Q) : tSl r te tl th σ H Q := h
theorem w_noP (h : QO none H) : tNoPart σ H QO := h
theorem w_part (h : te σ H fun x H1 => ∃ i, x = .int i ∧ QO (some i) H1) : tPart te σ H QO := h
theorem w_int1 {i : Int} {P : Int → Prop} (h : P i) : ∃ j, V.int i = .int j ∧ P j := ⟨i, rfl, h⟩
end
end L2

namespace K3
/-! ### heaps less what may change -/
def less (H : Hp) (M : List Addr) : Hp := fun b => if b ∈ M then none else H b
/-- all stands, what is in M perhaps changed -/
def BM (M : List Addr) (H H' : Hp) : Prop := ∀ b o, H b = some o → ∃ o', H' b = some o' ∧ (b ∉ M → o' = o)
theorem BM.refl (M : List Addr) (H : Hp) : BM M H H := fun _ o h => ⟨o, h, fun _ => rfl⟩
theorem BM.trans {M : List Addr} {H H1 H2 : Hp} (a : BM M H H1) (b : BM M H1 H2) : BM M H H2 := fun c o h => by
  obtain ⟨o1, h1, k1⟩ := a c o h
  obtain ⟨o2, h2, k2⟩ := b c o1 h1
  exact ⟨o2, h2, fun k => (k2 k).trans (k1 k)⟩
theorem BM.at {M : List Addr} {H H1 : Hp} (a : BM M H H1) {b : Addr} {o : HO} (h : H b = some o) (k : b ∉ M) : H1 b = some o := by
  obtain ⟨o1, h1, k1⟩ := a b o h
  rw [h1, k1 k]
theorem BM.of {M : List Addr} {H H1 : Hp} (a : Same H H1) : BM M H H1 := fun c o h => ⟨o, a c o h, fun _ => rfl⟩
theorem BM.mono {M N : List Addr} {H H1 : Hp} (a : BM M H H1) (s : ∀ b ∈ M, b ∈ N) : BM N H H1 := fun c o h => by
  obtain ⟨o1, h1, k1⟩ := a c o h
  exact ⟨o1, h1, fun k => k1 fun z => k (s c z)⟩
theorem BM.upd {M : List Addr} {H : Hp} {p : Addr} (hp : p ∈ M) (o : HO) : BM M H (upd H p o) := fun b u h => by
  by_cases c : b = p
  · exact ⟨o, by rw [c]; exact upd_same, fun k => absurd (by rw [c]; exact hp) k⟩
  · exact ⟨u, by rw [upd_ne c]; exact h, fun _ => rfl⟩
theorem BM.less {M : List Addr} {H H1 : Hp} (a : BM M H H1) : Same (less H M) (less H1 M) := fun b o h => by
  unfold K3.less at h ⊢
  by_cases c : b ∈ M
  · rw [if_pos c] at h; cases h
  · rw [if_neg c] at h ⊢
    exact a.at h c
theorem BM.free {M : List Addr} {H H1 : Hp} (h : BM M H H1) {p : Addr} (hp : H1 p = none) : H p = none := by
  cases e : H p with
  | none => rfl
  | some o =>
    obtain ⟨o1, h1, _⟩ := h p o e
    rw [hp] at h1
    cases h1
theorem less_at {H : Hp} {M : List Addr} {b : Addr} {o : HO} (h : less H M b = some o) : H b = some o ∧ b ∉ M := by
  unfold less at h
  by_cases c : b ∈ M
  · rw [if_pos c] at h; cases h
  · rw [if_neg c] at h; exact ⟨h, c⟩
theorem less_of {H : Hp} {M : List Addr} {b : Addr} {o : HO} (h : H b = some o) (c : b ∉ M) : less H M b = some o := by
  unfold less
  rw [if_neg c]
  exact h
theorem less_same {H : Hp} {M : List Addr} : Same (less H M) H := fun b o h => (less_at h).1
/-- all of M is there -/
def In (M : List Addr) (H : Hp) : Prop := ∀ m ∈ M, ∃ o, H m = some o
theorem In.new {M : List Addr} {H : Hp} {p : Addr} (h : In M H) (hp : H p = none) : p ∉ M := fun z => by obtain ⟨o, e⟩ := h p z; rw [hp] at e; cases e
theorem In.bm {M N : List Addr} {H H' : Hp} (h : In M H) (e : BM N H H') : In M H' := fun m hm => by
  obtain ⟨o, q⟩ := h m hm
  obtain ⟨o', q', _⟩ := e m o q
  exact ⟨o', q'⟩
/-- the source of draws -/
def Src (H : Hp) (s : Addr) : Prop := ∃ a b c : Int, H s = some (.lst [.int a, .int b, .int c])
theorem Src.bm {M : List Addr} {H H' : Hp} {s : Addr} (h : Src H s) (e : BM M H H') (k : s ∉ M) : Src H' s := let ⟨a, b, c, q⟩ := h; ⟨a, b, c, e.at q k⟩
theorem Src.same {H H' : Hp} {s : Addr} (h : Src H s) (e : Same H H') : Src H' s := let ⟨a, b, c, q⟩ := h; ⟨a, b, c, e _ _ q⟩
theorem Paired.app {α β : Type} {F : α → β → Prop} : ∀ {l1 l3 : List α} {l2 l4 : List β}, Paired F l1 l2 → Paired F l3 l4 → Paired F (l1 ++ l3) (l2 ++ l4)
  | _, _, _, _, .nil, h => h
  | _, _, _, _, .cons a t, h => .cons a (Paired.app t h)
theorem Paired.get {α β : Type} {F : α → β → Prop} : ∀ {l1 : List α} {l2 : List β}, Paired F l1 l2 → ∀ {i : Nat} {x : α}, l1[i]? = some x → ∃ y, l2[i]? = some y ∧ F x y
  | _, _, .nil, i, x, h => by simp at h
  | _, _, .cons (a := a) (b := b) h t, 0, x, e => by
    have e' : a = x := by simpa using e
    subst e'
    exact ⟨b, rfl, h⟩
  | _, _, .cons h t, i + 1, x, e => Paired.get t (i := i) (by simpa using e)
def rEqE (K : PySem.W.Frag) : R2 := fun x y H Q => ∃ (a b : Addr) (xs ys : List V), x = .ref a ∧ y = .ref b ∧ SqL K H a xs ∧ SqL K H b ys ∧ (xs = [] ∨ ys = [] ∨ xs.length ≠ ys.length) ∧ Q (.bl (decide (xs = [] ∧ ys = []))) H
def rNeE (K : PySem.W.Frag) : R2 := fun x y H Q => ∃ (a b : Addr) (xs ys : List V), x = .ref a ∧ y = .ref b ∧ SqL K H a xs ∧ SqL K H b ys ∧ (xs = [] ∨ ys = [] ∨ xs.length ≠ ys.length) ∧ Q (.bl (!decide (xs = [] ∧ ys = []))) H
theorem sizes {xs ys : List V} {is js : List Value} (r1 : Vals xs is) (r2 : Vals ys js) (h : xs = [] ∨ ys = [] ∨ xs.length ≠ ys.length) (c : ¬ (xs = [] ∧ ys = [])) : (is.toArray.size != js.toArray.size) = true := by
  have e1 := r1.length
  have e2 := r2.length
  simp only [List.size_toArray, bne_iff_ne, ne_eq]
  rw [← e1, ← e2]
  intro z
  rcases h with h | h | h
  · rw [h] at z
    exact c ⟨h, List.length_eq_zero_iff.mp z.symm⟩
  · rw [h] at z
    exact c ⟨List.length_eq_zero_iff.mp z, h⟩
  · exact h z
theorem op_eqE {X : Cx} (hu : X.A.units < cLine) : OpR X (compareOp .Eq) (rEqE X.K) := by
  intro pins s σ H x y v u Q I rx ry h
  obtain ⟨a, b, xs, ys, rfl, rfl, ha, hb, hs, q⟩ := h
  cases rx
  cases ry
  obtain ⟨is, r1, p1, _⟩ := I.list ha
  obtain ⟨js, r2, p2, _⟩ := I.list hb
  by_cases c : xs = [] ∧ ys = []
  · rw [decide_eq_true c] at q
    obtain ⟨rfl, rfl⟩ := c
    cases r1
    cases r2
    exact SeqAt.eq_listAt (e := fun _ => true) p1.isList p2.isList rfl hu (fun j h1 => absurd h1 (Nat.not_lt_zero _)) ⟨.bl true, H, I, rfl, q⟩
  · rw [decide_eq_false c] at q
    exact SeqAt.eq_list_lengthsAt p1.isList p2.isList (sizes r1 r2 hs c) hu ⟨.bl false, H, I, rfl, q⟩
theorem op_neE {X : Cx} (hu : X.A.units < cLine) : OpR X (compareOp .NotEq) (rNeE X.K) := by
  intro pins s σ H x y v u Q I rx ry h
  obtain ⟨a, b, xs, ys, rfl, rfl, ha, hb, hs, q⟩ := h
  cases rx
  cases ry
  obtain ⟨is, r1, p1, _⟩ := I.list ha
  obtain ⟨js, r2, p2, _⟩ := I.list hb
  by_cases c : xs = [] ∧ ys = []
  · rw [decide_eq_true c] at q
    obtain ⟨rfl, rfl⟩ := c
    cases r1
    cases r2
    exact SeqAt.RcNeAt.lists (e := fun _ => true) p1.isList p2.isList rfl hu (fun j h1 => absurd h1 (Nat.not_lt_zero _)) X.prog X.w X.xe _ ⟨.bl false, H, I, rfl, q⟩
  · rw [decide_eq_false c] at q
    exact SeqAt.RcNeAt.lists_lengths p1.isList p2.isList (sizes r1 r2 hs c) hu X.prog X.w X.xe _ ⟨.bl true, H, I, rfl, q⟩

theorem cut_to (xs : List V) (i : Nat) : cutV xs none (some (i : Int)) = xs.take i := by
  unfold cutV
  rw [HT.sIx_none, HT.sIx_nat, List.drop_zero, Nat.sub_zero]
  by_cases h : i ≤ xs.length
  · rw [Nat.min_eq_left h]
  · rw [Nat.min_eq_right (by omega), List.take_length, List.take_of_length_le (by omega)]
theorem cut_from (xs : List V) (i : Nat) : cutV xs (some (i : Int)) none = xs.drop i := by
  unfold cutV
  rw [HT.sIx_none, HT.sIx_nat]
  by_cases h : i ≤ xs.length
  · rw [Nat.min_eq_left h, List.take_of_length_le (by rw [List.length_drop]; omega)]
  · rw [Nat.min_eq_right (by omega), List.drop_length, List.take_nil, List.drop_of_length_le (by omega)]
theorem w_ifR {tt : TT} {t u : TS} {D : L2.Ends} {σ : L2.St} {H : Hp} (R : Bool → Hp → Prop) (h : ∀ QB : Bool → Hp → Prop, (∀ b H', R b H' → QB b H') → tt σ H QB) (h1 : ∀ H', R true H' → t D σ H') (h2 : ∀ H', R false H' → u D σ H') : tIfS tt t u D σ H :=
  h _ fun b H' r => by
    cases b with
    | true => exact h1 H' r
    | false => exact h2 H' r
theorem less_upd {H : Hp} {M : List Addr} {p : Addr} (h : p ∈ M) (o : HO) : less (upd H p o) M = less H M := by
  funext b
  unfold K3.less
  by_cases c : b ∈ M
  · rw [if_pos c, if_pos c]
  · rw [if_neg c, if_neg c, upd_ne (fun z => c (by rw [z]; exact h))]
theorem less_sub {H : Hp} {M N : List Addr} (h : ∀ b ∈ M, b ∈ N) : Same (less H N) (less H M) := fun b o q => less_of (less_at q).1 fun z => (less_at q).2 (h b z)
end K3
end G0_part
section S1_part
set_option Elab.async false
set_option linter.all false
set_option maxRecDepth 100000
set_option maxHeartbeats 1000000
namespace SLam
open PySem PySem.Spec PySem.Calls PyProof.Rows PySem.W
/-- all stays, but the slots of frames -/
def Stay (fs : List Addr) (h h' : Heap) : Prop := h.objs.size ≤ h'.objs.size ∧ ∀ b o, h.get? b = some o → ∃ sl, h'.get? b = some { o with slots := sl } ∧ (b ∉ fs → sl = o.slots)
theorem Stay.refl (fs : List Addr) (h : Heap) : Stay fs h h := ⟨Nat.le_refl _, fun _ o e => ⟨o.slots, e, fun _ => rfl⟩⟩
theorem Stay.trans {fs : List Addr} {h h1 h2 : Heap} (p : Stay fs h h1) (q : Stay fs h1 h2) : Stay fs h h2 := ⟨Nat.le_trans p.1 q.1, fun c o e => by
  obtain ⟨sl, e1, n1⟩ := p.2 c o e
  obtain ⟨sl2, e2, n2⟩ := q.2 c _ e1
  exact ⟨sl2, e2, fun z => (n2 z).trans (n1 z)⟩⟩
theorem Stay.of {fs : List Addr} {h h' : Heap} (l : h.objs.size ≤ h'.objs.size) (k : ∀ b o, h.get? b = some o → h'.get? b = some o) : Stay fs h h' := ⟨l, fun b o e => ⟨o.slots, k b o e, fun _ => rfl⟩⟩
theorem Stay.exact {fs : List Addr} {h h' : Heap} (p : Stay fs h h') {b : Addr} {o : Obj} (e : h.get? b = some o) (n : b ∉ fs) : h'.get? b = some o := by
  obtain ⟨sl, e1, n1⟩ := p.2 b o e
  rw [n1 n] at e1
  exact e1
mutual
theorem stay_reads {fs : List Addr} {h h' : Heap} (p : Stay fs h h') : ∀ {v : Value} {d : PyData} {l : List Addr}, Reads h v d l → Reads h' v d l
  | _, _, _, .none => .none
  | _, _, _, .bool x => .bool x
  | _, _, _, .int x y => .int x y
  | _, _, _, .str x y => .str x y
  | _, _, _, .list x1 x2 x3 x4 => by
    obtain ⟨sl, e, _⟩ := p.2 _ _ x1
    exact .list e x2 x3 (stay_readsAll p x4)
  | _, _, _, .tuple x1 x2 x3 x4 => by
    obtain ⟨sl, e, _⟩ := p.2 _ _ x1
    exact .tuple e x2 x3 (stay_readsAll p x4)
  | _, _, _, .dict x1 x2 x3 x4 x5 => by
    obtain ⟨sl, e, _⟩ := p.2 _ _ x1
    exact .dict e x2 x3 (stay_readsAll p x4) (stay_readsAll p x5)
theorem stay_readsAll {fs : List Addr} {h h' : Heap} (p : Stay fs h h') : ∀ {v : List Value} {d : List PyData} {l : List Addr}, ReadsAll h v d l → ReadsAll h' v d l
  | _, _, _, .nil => .nil
  | _, _, _, .cons x1 x2 => .cons (stay_reads p x1) (stay_readsAll p x2)
end
/-- a heap's first objects -/
def cutH (h : Heap) (n : Nat) : Heap := { objs := h.objs.extract 0 n, life := h.life }
theorem cut_get {h : Heap} {n : Nat} {b : Addr} {o : Obj} (e : (cutH h n).get? b = some o) : h.get? b = some o ∧ b < n := by
  have lt := Heap.lt_size e
  have lt2 : b < n := by
    have : (cutH h n).objs.size ≤ n := by
      show (h.objs.extract 0 n).size ≤ n
      rw [Array.size_extract]
      omega
    exact Nat.lt_of_lt_of_le lt this
  refine ⟨?_, lt2⟩
  have q : (cutH h n).objs[b]? = h.objs[b]? := by
    show (h.objs.extract 0 n)[b]? = _
    rw [Array.getElem?_extract, Nat.zero_add]
    have : b < min n h.objs.size - 0 := by
      have : b < (h.objs.extract 0 n).size := lt
      rw [Array.size_extract] at this
      exact this
    rw [if_pos this]
  unfold Heap.get? at e ⊢
  rw [← q]
  exact e
theorem get_cut {h : Heap} {n : Nat} {b : Addr} {o : Obj} (e : h.get? b = some o) (lt : b < n) : (cutH h n).get? b = some o := by
  have sz := Heap.lt_size e
  have q : (cutH h n).objs[b]? = h.objs[b]? := by
    show (h.objs.extract 0 n)[b]? = _
    rw [Array.getElem?_extract, Nat.zero_add]
    rw [if_pos (show b < min n h.objs.size - 0 by rw [Nat.sub_zero]; exact Nat.lt_min.mpr ⟨lt, sz⟩)]
  unfold Heap.get? at e ⊢
  rw [q]
  exact e
section
variable {prog : Program} {w : World} {A : Around} {E : Value → Shared → Prop} {s : Shared} {a kS : Addr} {vs : List Value} {e1 : Nat} {P : PySem.Fin → Shared → Prop} {kz : List PyData} {fs : List Addr} {h₀ : Heap} {f : Value}
/-- a key's call, from any state that the former ones leave -/
def Turn (prog : Program) (w : World) (A : Around) (f : Value) (fs : List Addr) (h₀ : Heap) (s : Shared) (v : Value) (k : PyData) : Prop :=
  ∀ s1 : Shared, s1.os = s.os → AllBare s1.gens → Stay fs h₀ s1.heap → wpAny (model prog w) A (call f [v]) (fun u s2 => s2.os = s1.os ∧ AllBare s2.gens ∧ Stay fs s1.heap s2.heap ∧ Reads s2.heap u k []) (fun _ _ => False) s1
theorem rest_stay (st : Stay fs h₀ s.heap) (bare : AllBare s.gens) (la : h₀.objs.size ≤ a) (lk : h₀.objs.size ≤ kS) (fa : a ∉ fs) (fk : kS ∉ fs) (nk : s.heap.get? kS = some (seqObj "list" #[] 0)) (na : s.heap.get? a = some (seqObj "list" #[] e1)) (ne : kS ≠ a)
    (hlen : kz.length = vs.length) (hZ : vs.length ≤ sizeLine) (hal : AllAlike kz) (hsk : Sortable kz) (hu : ∀ d, d ∈ kz → A.units + d.depth < cLine)
    (turn : ∀ (i : Nat) (v : Value) (k : PyData), vs[i]? = some v → kz[i]? = some k → Turn prog w A f fs h₀ s v k)
    (done : ∀ s2 out c, s2.os = s.os → AllBare s2.gens → Stay fs h₀ s2.heap → s2.heap.get? a = some (seqObj "list" (List.toArray out) c) → KeyedOut false kz vs out → P (.done (.ret .none)) s2) :
    wpAny (model prog w) A (ksk_rest a f false vs.toArray e1 (.ref kS)) P E s := by
  unfold ksk_rest
  refine wpAny_bind (wpAny_rule ?_)
  first
    | rw [List.forIn_toArray]
    | (rw [← Array.forIn_toList]; simp only [List.toList_toArray])
    | rw [← Array.forIn_toList]
  refine wpAny_bind (ksk_fold (fun i s1 => ∃ kA e, s1.os = s.os ∧ AllBare s1.gens ∧ Stay fs h₀ s1.heap ∧ s1.heap.get? kS = some (seqObj "list" kA e) ∧ s1.heap.get? a = some (seqObj "list" #[] e1) ∧
    EachIs (fun v k => Reads s1.heap v k [] ∧ alike k k = true) kA.toList (kz.take i)) vs 0 s ⟨#[], 0, rfl, bare, st, nk, na, by rw [List.take_zero]; exact EachIs.nil⟩ ?one ?fin)
  case one =>
    rintro j x s1 hx ⟨kA, e, h1, h2, h3, h4, h5, h6⟩
    simp only [Nat.zero_add] at h6 ⊢
    have lj : j < vs.length := (List.getElem?_eq_some_iff.mp hx).1
    obtain ⟨k, hk⟩ : ∃ k, kz[j]? = some k := ⟨_, List.getElem?_eq_getElem (hlen ▸ lj)⟩
    have self : alike k k = true := hal k (List.mem_of_getElem? hk) k (List.mem_of_getElem? hk)
    have few : kA.size ≤ vs.length := by
      have q := h6.length
      rw [List.length_take, Array.length_toList] at q
      omega
    refine wpAny_bind (wpAny_attempt (wpAny_mono (turn j x k hx hk s1 h1 h2 h3) (fun u s2 q => ?_) fun _ _ z => z.elim))
    obtain ⟨q1, q2, q3, q4⟩ := q
    try dsimp only
    have k2 := q3.exact h4 fk
    have a2 := q3.exact h5 fa
    have but := Heap.SameBut.update s2.heap kS (Obj.mapSeq (·.push u))
    obtain ⟨c, hc⟩ : ∃ c, (s2.heap.update kS (Obj.mapSeq (·.push u))).get? kS = some (seqObj "list" (kA.push u) c) := ⟨_, get?_update_seq k2 (·.push u)⟩
    have low : ∀ b o, h₀.get? b = some o → b < h₀.objs.size := fun b o q => Heap.lt_size q
    have grown : Stay fs h₀ (s2.heap.update kS (Obj.mapSeq (·.push u))) := ⟨by rw [Heap.size_update]; exact (h3.trans q3).1, fun b o q => by
      obtain ⟨sl, g1, g2⟩ := (h3.trans q3).2 b o q
      have nb : b ≠ kS := fun z => by
        have := low b o q
        rw [z] at this
        exact absurd lk (Nat.not_le.mpr this)
      exact ⟨sl, (but.2 b nb).trans g1, g2⟩⟩
    have sz2 : (kA.push u).size ≤ sizeLine + 1 := by
      rw [Array.size_push]
      omega
    refine wpAny_bind (listUpdate_at k2 rfl ?_ (Nat.le_trans few hZ) sz2)
    refine wpAny_pure ⟨rfl, kA.push u, c, q1.trans h1, q2, grown, hc, (but.2 a ne.symm).trans a2, ?_⟩
    have still : ∀ (v : Value) (d : PyData), Reads s2.heap v d [] ∧ alike d d = true → Reads (s2.heap.update kS (Obj.mapSeq (·.push u))) v d [] ∧ alike d d = true := fun v d q =>
      ⟨Reads.keepBut (a := kS) (fun b o nb q => (but.2 b nb).trans q) (fun o q => by rw [k2] at q; cases q; rfl) d v [] q.2 q.1 (by simp), q.2⟩
    rw [Array.toList_push, List.take_add_one, hk]
    exact each_snoc (R := fun (v : Value) (d : PyData) => Reads (s2.heap.update kS (Obj.mapSeq (·.push u))) v d [] ∧ alike d d = true) (still u k ⟨q4, self⟩) (h6.mono fun v d z => still v d ⟨stay_reads q3 z.1, z.2⟩)
  case fin =>
    rintro s1 ⟨kA, e, h1, h2, h3, h4, h5, h6⟩
    have all : kz.take (0 + vs.length) = kz := List.take_of_length_le (by omega)
    rw [all] at h6
    have h7 : EachIs (fun v k => ∃ l, Reads s1.heap v k l) kA.toList kz := h6.mono fun v k z => ⟨[], z.1⟩
    have szk : kA.size = vs.length := by
      have q := h7.length
      rw [Array.length_toList] at q
      omega
    try dsimp only
    refine wpAny_bind (listItems_at h4 rfl ?_)
    have cutk : (cutH s1.heap h₀.objs.size).get? kS = none := by
      cases q : (cutH s1.heap h₀.objs.size).get? kS with
      | none => rfl
      | some o =>
        exact absurd lk (Nat.not_le.mpr (cut_get q).2)
    refine keyH_end (κ := dataKind s1.heap kz) (h₁ := cutH s1.heap h₀.objs.size) (fun b o _ q => (cut_get q).1) cutk h4 h5 ne (SortsAt.data h7 hal hsk hu) szk hZ fun h' tk c k3 n3 => ?_
    refine done { s1 with heap := h', toks := tk } _ c h1 h2 ⟨Nat.le_trans la (Nat.le_of_lt (Heap.lt_size n3)), fun b o q => ?_⟩ n3 ⟨s1.heap, kA.toList, hal, rfl, h7⟩
    have lb := Heap.lt_size q
    obtain ⟨sl, g1, g2⟩ := h3.2 b o q
    exact ⟨sl, k3 b _ (fun z => by rw [z] at lb; exact absurd la (Nat.not_le.mpr lb)) (get_cut g1 lb), g2⟩
/-- sorted(xs, key = f): f may be a function of the program's own; the rest of the heap but for slots of frames is as it was -/
theorem sorted_stay {β : Type} {bs : List β} {R : Value → β → Prop} {l : Addr} {kw : List (Str × Value)} {Q : Value → Shared → Prop} (k : β → PyData) (hl : s.heap.IsList l vs.toArray) (each : EachIs R vs bs) (hal : AllAlike (bs.map k)) (hsk : Sortable (bs.map k)) (few : bs.length ≤ sizeLine)
    (hu : ∀ x, x ∈ bs → A.units + 2 + (k x).depth < cLine) (bare : AllBare s.gens) (hfs : ∀ b ∈ fs, b < s.heap.objs.size) (ok1 : argsOk "sorted" ⟨[.ref l], kw⟩) (ok2 : ∀ x, argsOk "list.sort" ⟨[.ref x], kw⟩) (tree : ∀ x, Builtin.«list.sort» ⟨[.ref x], kw⟩ = ksk_tree x f false)
    (turn : ∀ (v : Value) (x : β), R v x → x ∈ bs → Turn prog w A.in1.in1 f fs s.heap s v (k x))
    (done : ∀ s2 out c, s2.os = s.os → AllBare s2.gens → Stay fs s.heap s2.heap → s2.heap.get? (s.heap.objs.size + 1) = some (seqObj "list" (List.toArray out) c) → EachIs R out (bs.mergeSort (dataLe false k)) → Q (.ref (s.heap.objs.size + 1)) s2) :
    wpAny (model prog w) A (call (.builtin "sorted") [.ref l] kw) Q E s := by
  have lenv : vs.length ≤ sizeLine := by rw [each.length]; exact few
  refine sorted_of_sort hl lenv ok1 ok2 fun E' => ?_
  rw [tree]
  have hcopy := copyHeap_at s.heap vs
  have hbig : s.heap.objs.size + 1 < (copyHeap s.heap vs).objs.size := Heap.lt_size hcopy
  have hold : ∀ b o, s.heap.get? b = some o → (copyHeap s.heap vs).get? b = some o := fun b o q => copyHeap_old q
  generalize copyHeap s.heap vs = hc at hcopy hbig hold ⊢
  obtain ⟨e1, hc1⟩ : ∃ e1, (hc.update (s.heap.objs.size + 1) (Obj.mapSeq fun _ => (#[] : Array Value))).get? (s.heap.objs.size + 1) = some (seqObj "list" #[] e1) := ⟨_, get?_update_seq hcopy fun _ => #[]⟩
  have szt : ((hc.update (s.heap.objs.size + 1) (Obj.mapSeq fun _ => (#[] : Array Value))).push (seqObj "tuple" vs.toArray 0)).objs.size = hc.objs.size + 1 := by rw [size_push', Heap.size_update]
  unfold ksk_tree
  refine wpAny_bind (listItems_at hcopy rfl ?_)
  refine wpAny_bind (listUpdate_at hcopy rfl ?_ (by rw [List.size_toArray]; exact lenv) (Nat.zero_le _))
  refine wpAny_bind (seqEpoch_at hc1 rfl ?_)
  refine wpAny_bind (wpAny_newTuple ?_ (by show vs.length ≤ _; exact lenv))
  refine wpAny_bind (wpAny_newList ?_ (Nat.zero_le _))
  refine wpAny_holding ?_
  have but := Heap.SameBut.update hc (s.heap.objs.size + 1) (Obj.mapSeq fun _ => (#[] : Array Value))
  have notf : ∀ b : Addr, s.heap.objs.size ≤ b → b ∉ fs := fun b q z => absurd (hfs b z) (Nat.not_lt.mpr q)
  refine rest_stay (h₀ := s.heap) (fs := fs) (kz := bs.map k) (A := A.in1.in1)
    (s := { s with heap := ((hc.update (s.heap.objs.size + 1) (Obj.mapSeq fun _ => (#[] : Array Value))).push (seqObj "tuple" vs.toArray 0)).push (seqObj "list" #[] 0) })
    (kS := ((hc.update (s.heap.objs.size + 1) (Obj.mapSeq fun _ => (#[] : Array Value))).push (seqObj "tuple" vs.toArray 0)).objs.size)
    (Stay.of ?sz fun b o q => ?_) bare (Nat.le_succ _) (by rw [szt]; exact Nat.le_trans (Nat.le_succ _) (Nat.le_succ_of_le (Nat.le_of_lt hbig))) (notf _ (Nat.le_succ _)) (notf _ (by rw [szt]; exact Nat.le_trans (Nat.le_succ _) (Nat.le_succ_of_le (Nat.le_of_lt hbig))))
    (Heap.get?_push_size _ rfl) (Heap.get?_push_of_some _ (Heap.get?_push_of_some _ hc1)) (by rw [szt]; exact Nat.ne_of_gt (Nat.lt_succ_of_lt hbig)) (by rw [List.length_map]; exact each.length.symm) lenv hal hsk (bound_map (A := A.in1.in1) hu) ?_ ?_
  case sz =>
    show _ ≤ (((hc.update (s.heap.objs.size + 1) (Obj.mapSeq fun _ => (#[] : Array Value))).push (seqObj "tuple" vs.toArray 0)).push (seqObj "list" #[] 0)).objs.size
    rw [size_push', szt]
    omega
  · have nb : b ≠ s.heap.objs.size + 1 := fun z => by
      have := Heap.lt_size q
      rw [z] at this
      exact absurd this (Nat.not_lt.mpr (Nat.le_succ _))
    exact Heap.get?_push_of_some _ (Heap.get?_push_of_some _ ((but.2 b nb).trans (hold b o q)))
  · intro i v d hv hd
    rw [List.getElem?_map] at hd
    cases q : bs[i]? with
    | none => rw [q] at hd; cases hd
    | some x =>
      rw [q] at hd
      cases hd
      have hz : (v, x) ∈ vs.zip bs := List.mem_of_getElem? (i := i) (by rw [List.getElem?_zip_eq_some]; exact ⟨hv, q⟩)
      exact turn v x (each.zip _ hz) (List.mem_of_getElem? q)
  · intro s2 out c d1 d2 d3 d4 d5
    exact ⟨rfl, done s2 out c d1 d2 d3 d4 (keyedOut_each k d5 each)⟩
end
end SLam
end S1_part
section S2_part
set_option Elab.async false
set_option linter.all false
set_option maxRecDepth 100000
set_option maxHeartbeats 1000000
namespace SLam
open PySem PySem.Spec PyProof.Rows L2 LamX
/-- a lambda of one parameter x: its scope, in the maker's sc -/
structure Lam1 (sc scope : Scope) (x : Str) : Prop where
  kind : scope.kind = .function
  co : scope.isCoroutine = false
  gen : scope.isGenerator = false
  own : ∀ y ∈ scope.names, (y.2 = .local → y.1 = x) ∧ y.2 ≠ .cell
  par : scope.names.lookup x = some .local
  free : ∀ y ∈ scope.names, y.2 = .free → sc.names.lookup y.1 = some .cell ∨ sc.names.lookup y.1 = some .free
def lam1B (sc scope : Scope) (x : Str) : Bool :=
  decide (scope.kind = .function) && (!scope.isCoroutine && (!scope.isGenerator && (decide (scope.names.lookup x = some .local) && scope.names.all fun y => (!decide (y.2 = .local) || decide (y.1 = x)) && (!decide (y.2 = .cell) && (!decide (y.2 = .free) || (decide (sc.names.lookup y.1 = some .cell) || decide (sc.names.lookup y.1 = some .free)))))))
theorem lam1_by {sc scope : Scope} {x : Str} (h : lam1B sc scope x = true) : Lam1 sc scope x := by
  unfold lam1B at h
  simp only [Bool.and_eq_true, Bool.or_eq_true, Bool.not_eq_true', decide_eq_true_eq, decide_eq_false_iff_not, List.all_eq_true] at h
  obtain ⟨h1, h2, h3, h4, h5⟩ := h
  refine ⟨h1, h2, h3, fun y hy => ⟨fun z => ?_, (h5 y hy).2.1⟩, h4, fun y hy z => ?_⟩
  · exact (h5 y hy).1.resolve_left fun q => q z
  · exact (h5 y hy).2.2.resolve_left fun q => q z
theorem Lam1.has {X : Cx} {scope : Scope} {x : Str} (L : Lam1 X.env.scope scope x) (ok : X.Ok) : ∀ y ∈ scope.names, y.2 = .free → ∃ c, X.env.cells.lookup y.1 = some c := fun y hy e =>
  (L.free y hy e).elim (fun k => ok.has _ (.inl k)) fun k => ok.has _ (.inr k)
/-- the context of its body -/
def lamCx1 (X : Cx) (A : Around) (s : Shared) (H : Hp) (scope : Scope) (x : Str) (f c' : Addr) : Cx where
  prog := X.prog
  w := X.w
  K := X.K
  mg := X.mg
  base := X.base
  A := A.deeper (lamEnv X scope s.heap.objs.size f c')
  N := X.N ++ [x]
  s_0 := s
  H_0 := H
  env := lamEnv X scope s.heap.objs.size f c'
  outer := X.stack
  stack := lamEnv X scope s.heap.objs.size f c' :: X.stack
  ex := []
  fn := fun _ => false
  calm := true
  pn := []
  xe := fun _ _ => False
/-- of what is known the lists and tuples, each with its very own content -/
def Frz (H HZ : Hp) : Prop := (∀ b, H b = none → HZ b = none) ∧ (∀ b xs, Rd H b (.lst xs) → ∃ o, HZ b = some (.frz o (.lst xs))) ∧ (∀ b xs, Rd H b (.tup xs) → ∃ o, HZ b = some (.frz o (.tup xs))) ∧ ∀ b u, HZ b = some u → ∃ o u', u = .frz o u'
theorem Frz.sql {K : PySem.W.Frag} {H HZ : Hp} (z : Frz H HZ) {a : Addr} {xs : List V} (h : SqL K H a xs) : SqL K HZ a xs := h.elim (fun h => .inl (let ⟨o, e⟩ := z.2.1 a xs h; .inr ⟨o, e⟩)) .inr
theorem Frz.sqt {K : PySem.W.Frag} {H HZ : Hp} (z : Frz H HZ) {a : Addr} {xs : List V} (h : SqT K H a xs) : SqT K HZ a xs := h.elim (fun h => .inl (let ⟨o, e⟩ := z.2.2.1 a xs h; .inr ⟨o, e⟩)) .inr
def frzH (H : Hp) (h : Heap) : Hp := fun b => match H b, h.get? b with
  | some (.lst xs), some o => some (.frz o (.lst xs))
  | some (.tup xs), some o => some (.frz o (.tup xs))
  | some (.frz o (.lst xs)), _ => some (.frz o (.lst xs))
  | some (.frz o (.tup xs)), _ => some (.frz o (.tup xs))
  | _, _ => none
section
variable {X : Cx} {pins : List (Addr × Obj)} {σ : L2.St} {H HZ : Hp} {s s1 : Shared}
theorem frz_of (I : Inv X pins σ H s) : Frz H (frzH H s.heap) ∧ HOk X.prog X.w (frzH H s.heap) s.heap := by
  have lst : ∀ b xs, H b = some (.lst xs) → ∃ o, s.heap.get? b = some o ∧ ObjOk X.prog X.w (frzH H s.heap) s.heap b (.frz o (.lst xs)) := fun b xs e => by
    obtain ⟨z, its, n, r, q⟩ := I.hok b _ e
    exact ⟨_, q, q, z, its, n, r, q⟩
  have tup : ∀ b xs, H b = some (.tup xs) → ∃ o, s.heap.get? b = some o ∧ ObjOk X.prog X.w (frzH H s.heap) s.heap b (.frz o (.tup xs)) := fun b xs e => by
    obtain ⟨z, its, r, ob, q, c⟩ := I.hok b _ e
    exact ⟨_, q, q, z, its, r, ob, q, c⟩
  have frl : ∀ b o xs, H b = some (.frz o (.lst xs)) → ObjOk X.prog X.w (frzH H s.heap) s.heap b (.frz o (.lst xs)) := fun b o xs e => I.hok b _ e
  have frt : ∀ b o xs, H b = some (.frz o (.tup xs)) → ObjOk X.prog X.w (frzH H s.heap) s.heap b (.frz o (.tup xs)) := fun b o xs e => I.hok b _ e
  refine ⟨⟨fun b e => ?_, fun b xs e => ?_, fun b xs e => ?_, fun b u e => ?_⟩, fun b u e => ?_⟩
  · unfold frzH
    rw [e]
  · rcases e with e | ⟨o, e⟩
    · obtain ⟨o, q, _⟩ := lst b xs e
      exact ⟨o, by unfold frzH; rw [e, q]⟩
    · exact ⟨o, by unfold frzH; rw [e]⟩
  · rcases e with e | ⟨o, e⟩
    · obtain ⟨o, q, _⟩ := tup b xs e
      exact ⟨o, by unfold frzH; rw [e, q]⟩
    · exact ⟨o, by unfold frzH; rw [e]⟩
  · unfold frzH at e
    split at e
    · cases e; exact ⟨_, _, rfl⟩
    · cases e; exact ⟨_, _, rfl⟩
    · cases e; exact ⟨_, _, rfl⟩
    · cases e; exact ⟨_, _, rfl⟩
    · cases e
  · unfold frzH at e
    split at e
    · rename_i xs o e1 e2
      cases e
      obtain ⟨o', q, k⟩ := lst b xs e1
      rw [e2] at q
      cases q
      exact k
    · rename_i xs o e1 e2
      cases e
      obtain ⟨o', q, k⟩ := tup b xs e1
      rw [e2] at q
      cases q
      exact k
    · cases e
      exact frl b _ _ (by assumption)
    · cases e
      exact frt b _ _ (by assumption)
    · cases e
/-- the same def's own view behind the former calls -/
theorem inv_stay (I : Inv X pins σ H s) (ho : s1.os = s.os) (bare : AllBare s1.gens) (st : Stay (frs X.stack) s.heap s1.heap) : Inv X pins σ H s1 := by
  have nof : ∀ b u, H b = some u → b ∉ frs X.stack := fun b u e z => by
    rw [I.stkFree b z] at e
    cases e
  refine I.call' (H' := H) (ch := []) ho ⟨fun b o e _ n _ => st.exact e n, fun b o e _ _ _ => (st.2 b o e).imp fun sl q => q.1, fun b o _ n _ => n, fun b o e _ => let ⟨sl, q, _⟩ := st.2 b o e; ⟨_, q⟩, fun b xs e => e, fun b o u e => e, fun b ps e => ⟨#[], by simpa using e⟩⟩ (fun b u e => ?_) bare (fun b z => absurd z (by simp))
  refine (I.hok b u e).stay (fun d v hd q => st.exact q ?_) (fun d q => q) fun d xs q => q
  rcases hd with rfl | hd
  · exact nof _ u e
  · exact nof _ _ hd
theorem lam1_start {A : Around} {scope : Scope} {x : Str} {f c' : Addr} {h₁ : Heap} {tk : Nat} {v : V} {u : Value} (I : Inv X pins σ H s) (L : Lam1 X.env.scope scope x) (nx : x ∉ X.N) (e0 : Env0 X.prog X.w X.K X.mg X.base A X.stack s HZ) (z : ∀ b, H b = none → HZ b = none) (hd : A.handled = none) (rv : RelV v u)
    (hns : h₁.Ns s.heap.objs.size fun y => [(x, u)].reverse.lookup y) (kp : ∀ b o, s.heap.get? b = some o → h₁.get? b = some o) :
    Inv (lamCx1 X A s HZ scope x f c') [] (σ ++ [some v]) HZ { s with heap := h₁, toks := tk } := by
  have hfree := L.has I.ok
  have cm : ∀ {y c}, (cloFrom X.env.cells scope.names []).lookup y = some c → X.env.cells.lookup y = some c := fun {y c} e => by
    rcases cloFrom_mem (PySem.mem_of_lookup e) with hm | ⟨h1, h2⟩
    · cases hm
    · obtain ⟨c1, hc⟩ := hfree _ h1 rfl
      have hc : X.env.cells.lookup y = some c1 := hc
      have : c = c1 := by rw [h2, hc] <;> rfl
      rw [this]
      exact hc
  have look : ∀ {y}, scope.names.lookup y = some .free → ∃ c, (cloFrom X.env.cells scope.names []).lookup y = some c := fun {y} hl => by
    have hy : (y, NameKind.free) ∈ scope.names := PySem.mem_of_lookup hl
    exact mem_lookup (cloFrom_has (cells := X.env.cells) (acc := []) hy)
  have cellK : ∀ {c : Addr} {v : Option Value}, s.heap.IsCell c v → h₁.IsCell c v := fun {c v} q => q.imp fun o q => ⟨kp _ _ q.1, q.2⟩
  have noA : ∀ b : Addr, b ∉ (lamCx1 X A s HZ scope x f c').ex := fun b z => absurd (show b ∈ ([] : List Addr) from z) (by simp)
  have nocell : ∀ {y}, scope.names.lookup y ≠ some .cell := fun {y} k => (L.own _ (PySem.mem_of_lookup k)).2 rfl
  refine ⟨⟨e0.mod, L.kind, rfl, rfl, Nat.le_refl _, fun y z c e1 e2 => I.ok.inj y z c (cm e1) (cm e2), fun y hy => ?has, fun y c z _ => ?cab, fun _ => hd, Around.frames_deeper e0.frames, .inr ⟨rfl, rfl⟩, fun b z => absurd z (noA b), e0.bs, e0.bsz, fun b _ _ => noA b,
      fun b z => absurd z (noA b), e0.funs, e0.frf⟩,
    rfl, e0.bare, Un.kept kp, ⟨_, hns, fun i y v' e1 e2 e3 => ?loc⟩, fun y c e => ?cell, e0.hok.fresh (Nat.le_refl _), fun y c e => ?freeC, fun q hq => absurd (show q ∈ ([] : List (Addr × Obj)) ++ [] from hq) (by simp), e0.hok.kept kp, ?len⟩
  case has =>
    have hy : scope.names.lookup y = some .cell ∨ scope.names.lookup y = some .free := hy
    exact hy.elim (fun k => absurd k nocell) look
  case cab =>
    have z : false = true := z
    cases z
  case cell =>
    obtain ⟨w', q⟩ := I.cell y c (cm e)
    exact ⟨w', cellK q⟩
  case freeC => exact z c (I.freeC y c (cm e))
  case len =>
    show (σ ++ [some v]).length = (X.N ++ [x]).length
    rw [List.length_append, List.length_append, I.len]
    rfl
  case loc =>
    have e1 : (X.N ++ [x])[i]? = some y := e1
    have e3 : Vis scope y := e3
    by_cases hi : i < X.N.length
    · rw [List.getElem?_append_left hi] at e1
      rw [List.getElem?_append_left (by rw [I.len]; exact hi)] at e2
      rcases e3 with k | k | k
      · have : y = x := (L.own _ (PySem.mem_of_lookup k)).1 rfl
        rw [this] at e1
        exact absurd (List.mem_of_getElem? e1) nx
      · exact absurd k nocell
      · obtain ⟨m, hn, hl⟩ := I.loc
        have hvis : Vis X.env.scope y := (L.free _ (PySem.mem_of_lookup k) rfl).elim (fun k => .inr (.inl k)) (fun k => .inr (.inr k))
        obtain ⟨w', r, q⟩ := hl i y v' e1 e2 hvis
        obtain ⟨c2, h2⟩ := look k
        refine ⟨w', r, .inr ⟨.inr k, c2, h2, ?_⟩⟩
        have c1 := cm h2
        rcases q with ⟨k', _⟩ | ⟨_, c3, e', z⟩
        · have k' : X.env.scope.names.lookup y = some .local := k'
          rcases L.free _ (PySem.mem_of_lookup k) rfl with k2 | k2 <;> rw [show X.env.scope.names.lookup y = _ from k2] at k' <;> cases k'
        · rw [c1] at e'
          cases e'
          exact cellK z
    · have lN : σ.length = X.N.length := I.len
      rw [List.getElem?_append_right (by omega)] at e1
      rw [List.getElem?_append_right (by omega)] at e2
      have i0 : i - X.N.length = 0 := by
        have := (List.getElem?_eq_some_iff.mp e1).1
        simp at this
        omega
      rw [i0] at e1
      rw [lN, i0] at e2
      cases e1
      cases e2
      refine ⟨u, rv, .inl ⟨L.par, ?_⟩⟩
      show [(x, u)].reverse.lookup x = some u
      simp
/-- the lambda's call on a key, behind any of the former ones -/
theorem lam_turn {scope : Scope} {x : Str} {f c' : Addr} {params : Arguments} {body : Expr} {pm ctv : Value} {k : Nat} {v : V} {u : Value} {d : PyData} {tb : TE} (I : Inv X pins σ H s) (L : Lam1 X.env.scope scope x) (nx : x ∉ X.N)
    (hf : s.heap.get? f = some (PySem.W.kla_obj "<lambda>" (X.env.qual ++ "<lambda>") params body scope (cloFrom X.env.cells scope.names []) pm c' ctv)) (hfr : f ∉ frs X.stack) (hco : H c' = some (CodeO c' (X.env.qual ++ "<lambda>"))) (rv : RelV v u)
    (hbind : bindArgs (PySem.W.kla_fn "<lambda>" (X.env.qual ++ "<lambda>") params body scope (cloFrom X.env.cells scope.names []) pm (.ref c') ctv) ⟨[u], []⟩ = pure [(x, u)]) (hr : Room (k + 3) X.A)
    (hbody : ∀ (A : Around) (s : Shared) (HZ : Hp), Room k (A.deeper (lamEnv X scope s.heap.objs.size f c')) → PE (lamCx1 X A s HZ scope x f c') body tb)
    (ht : ∀ HZ, Frz H HZ → tb (σ ++ [some v]) HZ fun y H' => Dp X.K H' y d) (nl : ∀ h u l, Reads h u d l → l = []) : Turn X.prog X.w X.A.in1.in1 (.ref f) (frs X.stack) s.heap s u d := by
  intro s1 ho bare st
  have I1 := inv_stay I ho bare st
  obtain ⟨fz, hz⟩ := frz_of I1
  have hr1 : Room (k + 1) X.A.in1.in1 := Room.in1 (Room.in1 hr)
  have e := I1.env0.in1.in1
  have e0 : Env0 X.prog X.w X.K X.mg X.base X.A.in1.in1 X.stack s1 (frzH H s1.heap) := ⟨e.frames, e.mod, fun b o q => ⟨(e.bs b o q).1, fz.1 b (e.bs b o q).2⟩, e.bsz, e.funs, fun b q => fz.1 b (e.frf b q), hz, e.bare⟩
  have of1 := st.exact hf hfr
  obtain ⟨⟨oc, vs, t, hoc, hdc, hvc⟩, _, _⟩ := I1.hok c' _ hco
  have rc : codeAny (model X.prog X.w) X.A.in1.in1 (.call (.ref f) ⟨[u], []⟩) (fun r s' => ∃ u', r = .ok (.ret u') ∧ s'.os = s1.os ∧ AllBare s'.gens ∧ Stay (frs X.stack) s1.heap s'.heap ∧ Reads s'.heap u' d []) s1 := by
    refine PySem.W.kla_callFunE hr1.depth of1 rfl L.co L.gen rfl ⟨c', oc, vs, t, rfl, hoc, hdc, hvc⟩ ?_
    rw [hbind]
    refine wpAny_pure (wpAny_newFunctionEnv (fun y hy => (L.own y hy).2) (fun y hy => by rw [List.mem_singleton.mp hy]; exact L.par) (fun h₁ hns hsb => ⟨I1.nolimit.fresh _ hsb, ?_⟩) L.kind)
    show codeAny _ _ (.expr body (lamEnv X scope s1.heap.objs.size f c')) _ _
    have kp : ∀ b o, s1.heap.get? b = some o → h₁.get? b = some o := fun b o e => hsb.extBut b o (Nat.ne_of_lt (Heap.lt_size e)) (Heap.get?_push_of_some _ e)
    have J := lam1_start (A := X.A.in1.in1) (f := f) (c' := c') (tk := s1.toks + [(x, u)].length) I1 L nx e0 fz.1 hr1.hd rv hns kp
    refine PySem.W.kla_codeExpr (wpAny_mono ((hbody _ s1 _ (hr1.deeper _)).run [] _ _ (frzH H s1.heap) _ J (ht _ fz)) (fun u' s' hq => ?_) fun _ _ hq => hq.elim)
    obtain ⟨y, H', J', ry, q⟩ := hq
    obtain ⟨l, rd⟩ := Dp.reads J' d y u' q ry
    rw [nl _ _ _ rd] at rd
    refine ⟨u', rfl, J'.os, J'.bare, ⟨J'.sz, fun b o e => ?_⟩, rd⟩
    cases hb : frzH H s1.heap b with
    | none =>
      by_cases m : b ∈ frs X.stack
      · obtain ⟨sl, q⟩ := J'.base.slot b o e hb m (fun z => by cases z)
        exact ⟨sl, q, fun n => absurd m n⟩
      · exact ⟨o.slots, J'.base.keep b o e hb m (fun z => by cases z), fun _ => rfl⟩
    | some u0 =>
      obtain ⟨o', u1, rfl⟩ := fz.2.2.2 b u0 hb
      have k1 := (hz b _ hb).1
      rw [e] at k1
      cases k1
      exact ⟨o.slots, (J'.hok b _ (J'.base.frzs b o u1 hb)).1, fun _ => rfl⟩
  refine wpAny_call (codeAny_mono rc fun r s' hq => ?_)
  obtain ⟨u', rfl, h1, h2, h3, h4⟩ := hq
  exact ⟨h1, h2, h3, h4⟩
/-- a new list, tracked from now on -/
theorem inv_made {p : Addr} {ys : List V} {out : List Value} {c : Nat} (I : Inv X pins σ H s) (ho : s1.os = s.os) (bare : AllBare s1.gens) (st : Stay (frs X.stack) s.heap s1.heap) (hp : s.heap.objs.size ≤ p) (hg : s1.heap.get? p = some { cls := .type "list", data := .seq out.toArray c }) (rv : Vals ys out) (few : ys.length ≤ sizeLine) :
    Inv X pins σ (upd H p (.lst ys)) s1 := by
  have p0 : H p = none := I.hok.fresh hp
  have nof : ∀ b u, H b = some u → b ∉ frs X.stack := fun b u e z => by
    rw [I.stkFree b z] at e
    cases e
  have old : ∀ b u, H b = some u → upd H p (.lst ys) b = some u := fun b u e => by rw [upd_ne (ne_of_none e p0)]; exact e
  refine I.call' (H' := upd H p (.lst ys)) (ch := []) ho ⟨fun b o e n _ => st.exact e |> fun k => fun _ => k ‹_›, fun b o e _ _ _ => (st.2 b o e).imp fun sl q => q.1, fun b o e n _ => ?free, fun b o e _ => let ⟨sl, q, _⟩ := st.2 b o e; ⟨_, q⟩, fun b xs e => old b _ e, fun b o u e => old b _ e, fun b ps e => ⟨#[], by rw [old b _ e]; simp⟩⟩ (fun b u e => ?ok) bare (fun b z => absurd z (by simp))
  case free =>
    have lt := Heap.lt_size e
    rw [upd_ne (fun z => by rw [z] at lt; exact absurd lt (Nat.not_lt.mpr hp))]
    exact n
  case ok =>
    by_cases hb : b = p
    · subst hb
      rw [upd_same] at e
      cases e
      exact ⟨few, out, c, rv, hg⟩
    · rw [upd_ne hb] at e
      refine (I.hok b u e).stay (fun d v hd q => st.exact q ?_) (fun d q => old d _ q) fun d xs q => old d _ q
      rcases hd with rfl | hd
      · exact nof _ u e
      · exact nof _ _ hd
theorem sql_ext {K : PySem.W.Frag} {H1 : Hp} (e : ExtN H H1) {a : Addr} {xs : List V} (h : SqL K H a xs) : SqL K H1 a xs := by
  rcases h with (h | ⟨o, h⟩) | h
  · exact .inl (.inl (e _ _ h fun ps z => by cases z))
  · exact .inl (.inr ⟨o, e _ _ h fun ps z => by cases z⟩)
  · exact .inr h
theorem two_reads {h : Heap} {us : List Value} {d1 d2 : PyData} {l : List Addr} (q : ReadsAll h us [d1, d2] l) : ∃ u1 u2 l1 l2, l = l1 ++ l2 ∧ Reads h u1 d1 l1 ∧ Reads h u2 d2 l2 := by
  cases q with
  | cons r1 q =>
    cases q with
    | cons r2 q =>
      cases q
      exact ⟨_, _, _, _, by rw [List.append_nil], r1, r2⟩
theorem tup_reads {h : Heap} {u : Value} {ds : List PyData} {l : List Addr} (r : Reads h u (.tuple ds) l) : ∃ us, ReadsAll h us ds l := by
  cases r with
  | tuple _ _ _ q => exact ⟨_, q⟩
theorem int_reads {h : Heap} {u : Value} {n : Int} {l : List Addr} (r : Reads h u (.int n) l) : l = [] := by
  cases r
  rfl
theorem key_nolist {h : Heap} {u : Value} {l : List Addr} {n i j : Int} (r : Reads h u (.tuple [.int n, .tuple [.int i, .int j]]) l) : l = [] := by
  obtain ⟨us, q⟩ := tup_reads r
  obtain ⟨u1, u2, l1, l2, rfl, r1, r2⟩ := two_reads q
  obtain ⟨us, q⟩ := tup_reads r2
  obtain ⟨u3, u4, l3, l4, rfl, r3, r4⟩ := two_reads q
  rw [int_reads r1, int_reads r3, int_reads r4]
  rfl
theorem each_vals : ∀ {xs : List V} {us : List Value}, Vals xs us → PySem.W.EachIs (fun u v => RelV v u) us xs
  | _, _, .nil => .nil
  | _, _, .cons h t => .cons h (each_vals t)
theorem vals_each : ∀ {us : List Value} {xs : List V}, PySem.W.EachIs (fun u v => RelV v u) us xs → Vals xs us
  | _, _, .nil => .nil
  | _, _, .cons h t => .cons h (vals_each t)
def SortLq (K : PySem.W.Frag) (T : List (Addr × Str)) (tb : TE) (σ : L2.St) (Q : VK) (vs : List V) (H1 : Hp) : Prop := ∃ (a : Addr) (xs : List V) (kd : V → PyData), vs = [V.ref a] ∧ SqL K H1 a xs ∧ Tabs T H1 ∧ xs.length ≤ 1000 ∧ (∀ v ∈ xs, ∃ n i j : Int, kd v = .tuple [.int n, .tuple [.int i, .int j]]) ∧
  (∀ v ∈ xs, ∀ H2 HZ, ExtN H1 H2 → Frz H2 HZ → tb (σ ++ [some v]) HZ fun y H' => Dp K H' y (kd v)) ∧ ∀ p H2, ExtN H1 H2 → Tabs T H2 → H2 p = none → Q (.ref p) (upd H2 p (.lst (xs.mergeSort (PySem.W.dataLe false kd))))
def tSortL (K : PySem.W.Frag) (T : List (Addr × Str)) (t : TA) (tb : TE) : TE := fun σ H Q => t σ H (SortLq K T tb σ Q)
theorem w_sortL {K : PySem.W.Frag} {T : List (Addr × Str)} {t : TA} {tb : TE} {Q : VK} (h : t σ H (SortLq K T tb σ Q)) : tSortL K T t tb σ H Q := h
/-- sorted(xs, key=lambda x: (n, (i, j))) -/
theorem pe_sortedLam {T : List (Addr × Str)} {c P : Addr} {params : Arguments} {body : Expr} {scope : Scope} {x : Str} {p pos lpos kpos : Pos} {e : Expr} {t : TA} {tb : TE} {k : Nat} (hg : Gl X "sorted") (hm : X.mg "sorted" = none) (ha : PA X [e] t) (TB : TabB X.base X.mg c P) (hcode : X.env.code = .ref c)
    (hmT : (P, X.env.qual ++ "<lambda>") ∈ T) (hu : ∀ p ∈ T, p.1 = P → p.2 = X.env.qual ++ "<lambda>") (L : Lam1 X.env.scope scope x) (nx : x ∉ X.N) (hdef : defaultsOf params X.env = ([], [])) (hr : Room (k + 3) X.A)
    (hbind : ∀ (q : Str) (cl : List (Str × Addr)) (pm cv ctv u : Value), bindArgs (PySem.W.kla_fn "<lambda>" q params body scope cl pm cv ctv) ⟨[u], []⟩ = pure [(x, u)])
    (hbody : ∀ (A : Around) (s : Shared) (HZ : Hp) (f c' : Addr), Room k (A.deeper (lamEnv X scope s.heap.objs.size f c')) → PE (lamCx1 X A s HZ scope x f c') body tb)
    (he : backTo pos (starEach [e] X.env) = (false, eval e X.env) :: backTo pos (starEach [] X.env) := by rfl) (hpl : (backTo pos (starEach [e] X.env)).any (·.1) = false := by rfl)
    (hall : (backToKw pos (keywordEach [⟨some "key", .Lambda params body scope lpos, kpos⟩] X.env)).all (·.1.isSome) = true := by rfl) (hnone : (backToKw pos (keywordEach [⟨some "key", .Lambda params body scope lpos, kpos⟩] X.env)).any (·.1.isNone) = false := by rfl)
    (hks : (backToKw pos (keywordEach [⟨some "key", .Lambda params body scope lpos, kpos⟩] X.env)).filterMap (·.1) = [("key" : Str)] := by rfl) :
    PE X (.Call (.Name "sorted" p) [e] [⟨some "key", .Lambda params body scope lpos, kpos⟩] pos) (tSortL X.K T t tb) := by
  refine ⟨fun pins s σ H Q I h => ?_⟩
  refine wpAny_Call_Name_kw (ld_blt I hg hm rfl ?_ (by decide) (by decide))
  refine PyProof.Rows.callWith_kw (thn (ha.run pos pins s σ H _ I h) fun us s1 ⟨vs, H1, I1, r1, q1⟩ => ?_) he hpl hall hnone
  obtain ⟨a, xs, kd, rfl, hsq, hT, few, shape, turns, q⟩ := q1
  obtain rfl := Vals.ref1 r1
  rw [hks]
  show wpAny _ _ (evalAll ((do let v ← eval (.Lambda params body scope lpos) X.env; standAt pos; pure v) :: [])) _ _ s1
  refine wpAny_evalAll_cons (wpAny_bind (lam_make2 I1 TB hcode hmT hu hT hdef (L.has I1.ok) fun f c' pm ctv H2 s2 I2 ext tabs hf hfn hfr hco => wpAny_bind (wpAny_standAt (wpAny_pure ?_))))
  refine wpAny_evalAll_nil ?_
  obtain ⟨its, rv, hl, hz⟩ := I2.list (sql_ext ext hsq)
  have un := hr.un
  refine sorted_stay (fs := frs X.stack) (s := s2) (vs := its) (bs := xs) (R := fun u v => RelV v u) kd hl.isList (each_vals rv) ?alike ?sortable (Nat.le_trans few (by decide)) ?room I2.bare ?fs (PyProof.Rows.ksk_s1 _ _) (fun _ => PyProof.Rows.ksk_l1 _ _) (fun y => PyProof.Rows.ksk_t1 f y) ?turn ?done
  case alike =>
    intro d hd d' hd'
    obtain ⟨v, hv, rfl⟩ := List.mem_map.mp hd
    obtain ⟨v', hv', rfl⟩ := List.mem_map.mp hd'
    obtain ⟨n, i, j, e1⟩ := shape v hv
    obtain ⟨n', i', j', e2⟩ := shape v' hv'
    rw [e1, e2]
    rfl
  case sortable =>
    refine .inl fun d hd => ?_
    obtain ⟨v, hv, rfl⟩ := List.mem_map.mp hd
    obtain ⟨n, i, j, e1⟩ := shape v hv
    exact ⟨_, _, e1⟩
  case room =>
    intro v hv
    obtain ⟨n, i, j, e1⟩ := shape v hv
    rw [e1]
    simp only [PyData.depth, PyData.depthAll]
    omega
  case fs =>
    intro b hb
    by_cases z : s2.heap.objs.size ≤ b
    · rcases List.mem_cons.mp (I2.stkSub b hb) with e | e
      · have := I2.lt
        rw [← e] at this
        exact absurd this (Nat.not_lt.mpr z)
      · exact absurd e (I2.nofs z)
    · exact Nat.lt_of_not_le z
  case turn =>
    intro u v rvu hv
    obtain ⟨n, i, j, e1⟩ := shape v hv
    refine lam_turn I2 L nx hf hfr hco rvu (hbind _ _ _ _ _ u) hr (fun A s HZ hA => hbody A s HZ f c' hA) (fun HZ fz => turns v hv H2 HZ ext fz) fun h u l rd => ?_
    rw [e1] at rd
    exact key_nolist rd
  case done =>
    intro s3 out cc d1 d2 d3 d4 d5
    have vv := vals_each d5
    have perm := List.mergeSort_perm xs (PySem.W.dataLe false kd)
    refine ⟨.ref _, upd H2 (s2.heap.objs.size + 1) (.lst (xs.mergeSort (PySem.W.dataLe false kd))), inv_made I2 d1 d2 d3 (Nat.le_succ _) d4 vv (by rw [perm.length_eq]; exact Nat.le_trans few (by decide)), rfl, ?_⟩
    exact q _ H2 ext tabs (I2.hok.fresh (Nat.le_succ _))
end
end SLam
end S2_part
section C1_part
set_option Elab.async false
set_option linter.all false
set_option maxRecDepth 100000
set_option maxHeartbeats 1000000
set_option pp.deepTerms.threshold 5
open PySem PySem.Spec PyProof.Rows L2
/-- go on as far as nothing is open -/
local macro_rules | `(tactic| walk_at "go") => `(tactic| repeat (first
  | with_reducible refine w_seq ?_ | with_reducible refine w_next ?_ | with_reducible refine w_set ?_ | with_reducible refine w_drop ?_ | with_reducible refine w_ret ?_ | with_reducible refine w_retN ?_
  | with_reducible refine w_if ?_ | ((with_reducible refine' w_var ?hv ?_); (case hv => exact rfl)) | with_reducible refine w_c ?_ | with_reducible refine w_nil ?_ | with_reducible refine w_cons ?_ | with_reducible refine w_op ?_ | with_reducible refine w_un ?_
  | with_reducible refine w_test ?_ | with_reducible refine w_tB ?_ | with_reducible refine w_not ?_ | with_reducible refine w_and ?_ | with_reducible refine w_or ?_ | with_reducible refine w_bl ?_
  | with_reducible refine w_andV ?_ | with_reducible refine w_orV ?_ | with_reducible refine w_notV ?_ | with_reducible refine w_ifE ?_ | with_reducible refine w_chain ?_ | with_reducible refine w_i0 ?_
  | with_reducible refine w_call ?_ | with_reducible refine w_callS ?_ | with_reducible refine w_cB ?_ | with_reducible refine w_tup ?_ | with_reducible refine w_lst ?_ | with_reducible refine w_fldV ?_
  | with_reducible refine w_neF ?_ | with_reducible refine w_neT ?_ | with_reducible refine w_notN ?_ | with_reducible refine w_isN ?_ | with_reducible refine w_gname ?_ | with_reducible refine w_gsub ?_ | with_reducible refine w_asg ?_ | with_reducible refine w_sl ?_ | with_reducible refine w_noP ?_ | with_reducible refine w_int1 ?_ | with_reducible refine w_part ?_ | with_reducible refine w_yes ?_ | with_reducible refine w_nT ?_ | with_reducible refine w_nF ?_ | with_reducible refine w_iteT ?_ | with_reducible refine w_iteF ?_))
namespace K3
/-! ### tables -/
abbrev RowAt (H : Hp) (r : Addr) (row : List Int) : Prop := H r = some (.lst (row.map V.int))
structure Tab (H : Hp) (p : Addr) (rs : List Addr) (t : List (List Int)) : Prop where
  at_ : H p = some (.lst (rs.map V.ref))
  rows : Paired (RowAt H) rs t
theorem Tab.same {H H' : Hp} (e : Same H H') {p : Addr} {rs : List Addr} {t : List (List Int)} (h : Tab H p rs t) : Tab H' p rs t := ⟨e _ _ h.at_, L2.Paired.mapP h.rows fun _ _ z => e _ _ z⟩
/-- all of it is new -/
structure New (H : Hp) (p : Addr) (rs : List Addr) : Prop where
  p0 : H p = none
  rs0 : ∀ r ∈ rs, H r = none
  nd : rs.Nodup
  ne : p ∉ rs
def addSum (r : List Int) : List Int := r ++ [r.sum]
def colOf (u : List (List Int)) (c : Nat) : List Int := u.map fun r => r.getD c 0
def withSums (k : Nat) (t : List (List Int)) : List (List Int) := t.map addSum ++ [(List.range (k + 1)).map fun c => (colOf (t.map addSum) c).sum]
theorem lc_open {wi : TI} {g : TG} {tt : TT} {te : TE} {vs : List Nat} {σ : L2.St} {H : Hp} {Q : VK} (h : wi σ H fun J H1 => ∀ D, H1 D = none → ∃ W : Nat → Nat → Hp → Prop, (∃ m, W 0 m (upd H1 D (.lst []))) ∧ ∀ i m H, W i m H →
    (J.stop i H ∧ Q (.ref D) H) ∨ (J.go i H ∧ ∃ Nx : Hp → Prop, (∀ H', Nx H' → ∃ m', m' < m ∧ W (i + 1) m' H') ∧ ∀ x H', J.yld i H x H' → g x (wipe σ vs) H' fun σ2 H2 => wipe σ2 vs = wipe σ vs ∧ tt σ2 H2 fun b H3 =>
      if b = true then te σ2 H3 fun y H4 => ∃ acc, H4 D = some (.lst acc) ∧ acc.length < sizeLine ∧ Nx (upd H4 D (.lst (acc ++ [y]))) else Nx H3)) : tLc wi g tt te vs σ H Q := h
theorem rng_open {ta : TA} {σ : L2.St} {H : Hp} {R : It → Hp → Prop} (h : ta σ H fun vs H1 => ∃ j : Int, vs = [.int j] ∧ -(2 ^ 62) ≤ j ∧ j < 2 ^ 62 ∧ R (Itr 0 j.toNat) H1) : iRng1 ta σ H R := h
theorem list_open {K : PySem.W.Frag} {tl : TE} {σ : L2.St} {H : Hp} {R : It → Hp → Prop} (h : tl σ H fun x H1 => ∃ a, x = .ref a ∧ (∃ xs, SqL K H1 a xs) ∧ R (Itl K a) H1) : iList K tl σ H R := h
theorem nodup_snoc {α : Type} {l : List α} {z : α} (h : l.Nodup) (hz : z ∉ l) : (l ++ [z]).Nodup := by
  rw [List.nodup_append]
  exact ⟨h, by simp, fun a ha b hb => by rw [List.mem_singleton.mp hb]; exact fun q => hz (q ▸ ha)⟩
theorem map_ref {rs : List Addr} {i : Nat} {x : V} (h : (rs.map V.ref)[i]? = some x) : ∃ r, rs[i]? = some r ∧ x = .ref r := by
  rw [List.getElem?_map] at h
  cases e : rs[i]? with
  | none => rw [e] at h; cases h
  | some r => rw [e] at h; exact ⟨r, rfl, (Option.some.inj h).symm⟩
theorem paired_up {α β : Type} {F G : α → β → Prop} : ∀ {xs : List α} {ys : List β}, Paired F xs ys → (∀ x y, x ∈ xs → F x y → G x y) → Paired G xs ys
  | _, _, .nil, _ => .nil
  | _, _, .cons h t, k => .cons (k _ _ (List.mem_cons_self ..) h) (paired_up t fun x y hx => k x y (List.mem_cons_of_mem _ hx))
theorem paired_has {α β : Type} {F : α → β → Prop} : ∀ {xs : List α} {ys : List β}, Paired F xs ys → ∀ {x : α}, x ∈ xs → ∃ y, F x y
  | _, _, .cons (b := b) h t, x, hx => by
    rcases List.mem_cons.mp hx with rfl | hx
    · exact ⟨b, h⟩
    · exact paired_has t hx
theorem at_getD {r : List Int} {c : Nat} (h : c < r.length) : atI (r.map V.int) (c : Int) = some (.int (r.getD c 0)) := by
  refine atI_nat ?_
  rw [List.getElem?_map, List.getElem?_eq_getElem h, List.getD_eq_getElem?_getD, List.getElem?_eq_getElem h]
  rfl
end K3

namespace K3
def CellAt (H : Hp) (v : V) (c : Nat × Nat) : Prop := ∃ a, v = .ref a ∧ H a = some (.tup [.int (c.1 : Int), .int (c.2 : Int)])
theorem CellAt.same {H H' : Hp} (e : Same H H') {v : V} {c : Nat × Nat} (h : CellAt H v c) : CellAt H' v c := let ⟨a, h1, h2⟩ := h; ⟨a, h1, e _ _ h2⟩
def rowCells (n r : Nat) : List (Nat × Nat) := (List.range n).map fun c => (r, c)
def cellsOf (m n : Nat) : List (Nat × Nat) := (List.range m).flatMap (rowCells n)
theorem cells_len (m n : Nat) : (cellsOf m n).length = m * n := by
  unfold cellsOf
  induction m with
  | zero => simp
  | succ m ih => rw [List.range_succ, List.flatMap_append, List.length_append, ih]; simp [rowCells, Nat.succ_mul]
theorem cut_last {xs : List V} : cutV xs none (some (-1)) = xs.dropLast := by
  unfold cutV HT.sIx
  rw [List.dropLast_eq_take]
  show (xs.drop 0).take ((if (-1 : Int) < 0 then ((-1 : Int) + (xs.length : Int)).toNat else min (-1 : Int).toNat xs.length) - 0) = _
  rw [if_pos (by decide), List.drop_zero, Nat.sub_zero]
  congr 1
  omega
theorem paired_drop {α β : Type} {F : α → β → Prop} : ∀ {xs : List α} {ys : List β}, Paired F xs ys → Paired F xs.dropLast ys.dropLast
  | _, _, .nil => .nil
  | _, _, .cons h .nil => .nil
  | _, _, .cons h (.cons h2 t) => .cons h (paired_drop (.cons h2 t))
def spCells (K : PySem.W.Frag) : Sp := fun vs H Q _ => ∃ (p : Addr) (rs : List Addr) (t : List (List Int)) (n : Nat) (r0 : List Int), vs = [.ref p] ∧ Tab H p rs t ∧ t[0]? = some r0 ∧ r0.length = n ∧ t.length ≤ 100 ∧ n ≤ 100 ∧ ∀ p' H' vs, Same H H' → H p' = none → H' p' = some (.lst vs) → Paired (CellAt H') vs (cellsOf t.length n).dropLast → Q (.ref p') H'
end K3

namespace K3
theorem CellAt.bm {s : Addr} {H H' : Hp} (hs : Src H s) (e : BM [s] H H') {v : V} {c : Nat × Nat} (h : CellAt H v c) : CellAt H' v c := by
  obtain ⟨a, h1, h2⟩ := h
  refine ⟨a, h1, e.at h2 ?_⟩
  intro z
  obtain ⟨x, y, w, hs⟩ := hs
  rw [List.mem_singleton.mp z, hs] at h2
  cases h2
theorem ix_nat {n j : Nat} (h : j < n) : seqIndex? (j : Int) n = some j := by
  have e : ixN n (j : Int) = some j := by
    unfold ixN
    rw [if_pos (by omega), if_pos (by omega)]
    simp
  exact (ixN_seq e).1
theorem paired_erase {α β : Type} {F : α → β → Prop} : ∀ {xs : List α} {ys : List β}, Paired F xs ys → ∀ k, Paired F (xs.eraseIdx k) (ys.eraseIdx k)
  | _, _, .nil, _ => .nil
  | _, _, .cons h t, 0 => t
  | _, _, .cons h t, k + 1 => .cons h (paired_erase t k)
/-- the first list's elements that are drawn out of it -/
def spSample (K : PySem.W.Frag) : Sp := fun vs H Q _ => ∃ (s l : Addr) (xs : List V) (cs : List (Nat × Nat)) (n : Nat), vs = [.ref s, .ref l, .int (n : Int)] ∧ Src H s ∧ H l = some (.lst xs) ∧ Paired (CellAt H) xs cs ∧ n ≤ xs.length ∧ xs.length ≤ 100000 ∧
  ∀ p H' ws hs, H p = none → BM [s] H H' → Src H' s → H' p = some (.lst ws) → Paired (CellAt H') ws hs → (∀ h ∈ hs, h ∈ cs) → hs.length = n → Q (.ref p) H'
def spGrid (K : PySem.W.Frag) : Sp := fun vs H Q _ => ∃ (s : Addr), vs = [.ref s] ∧ Src H s ∧ ∀ p H' rs t k, BM [s] H H' → Src H' s → New H p rs → Tab H' p rs (withSums k t) → (∀ r ∈ t, r.length = k ∧ ∀ x ∈ r, 0 ≤ x) → 1 ≤ k → k ≤ 5 → 1 ≤ t.length → t.length ≤ 5 → Q (.ref p) H'
theorem BM.same {M : List Addr} {H H1 H2 : Hp} (a : BM M H H1) (b : Same H1 H2) : BM M H H2 := a.trans (BM.of b)
theorem BM.mut {M : List Addr} {H H' : Hp} {p : Addr} {o : HO} (e : BM M H H') (h : H p = none) : BM M H (L2.upd H' p o) := fun b u hb => by
  obtain ⟨o', h1, h2⟩ := e b u hb
  exact ⟨o', by rw [upd_ne (fun z => by rw [z, h] at hb; cases hb)]; exact h1, h2⟩
theorem src_ne {H : Hp} {s p : Addr} (hs : Src H s) (hp : H p = none) : p ≠ s := fun z => by
  obtain ⟨_, _, _, hs⟩ := hs
  rw [← z, hp] at hs
  cases hs
theorem Src.upd {H : Hp} {s p : Addr} (hs : Src H s) (ne : p ≠ s) (o : HO) : Src (L2.upd H p o) s := let ⟨a, b, c, h⟩ := hs; ⟨a, b, c, by rw [upd_ne ne.symm]; exact h⟩
def scGrow : Scope := { kind := .function, names := [(".0", .local), ("_law_row", .local), ("range", .globalImplicit), ("_law_count", .cell), ("_law_limit", .cell), ("_law_rng_here", .cell)], isGenerator := false, isCoroutine := false }
end K3

namespace K3
theorem w_eqI {i j : Int} {H : Hp} {Q : VK} (h : Q (.bl (decide (V.int i = V.int j))) H) : rEq (.int i) (.int j) H Q := ⟨rfl, h⟩
theorem decV {i j : Int} : decide (V.int i = V.int j) = decide (i = j) := by
  by_cases h : i = j
  · rw [h]; simp
  · rw [decide_eq_false h, decide_eq_false (fun z => h (V.int.inj z))]
theorem paired_take {α β : Type} {F : α → β → Prop} : ∀ {xs : List α} {ys : List β}, Paired F xs ys → ∀ k, Paired F (xs.take k) (ys.take k)
  | _, _, .nil, k => by rw [List.take_nil, List.take_nil]; exact .nil
  | _, _, .cons h t, 0 => .nil
  | _, _, .cons h t, k + 1 => .cons h (paired_take t k)
/-- what may be hidden cells of a grid of such a shape -/
structure Hid (H : Hp) (p : Addr) (ws : List V) (hs : List (Nat × Nat)) (m n : Nat) : Prop where
  at_ : H p = some (.lst ws)
  cells : Paired (CellAt H) ws hs
  mem : ∀ h ∈ hs, h ∈ (cellsOf m n).dropLast
  len : hs.length ≤ 60
def spHidden (K : PySem.W.Frag) : Sp := fun vs H Q _ => ∃ (s g : Addr) (rs : List Addr) (t : List (List Int)) (n : Nat) (r0 : List Int), vs = [.ref s, .ref g] ∧ Src H s ∧ Tab H g rs t ∧ t[0]? = some r0 ∧ r0.length = n ∧ t.length ≤ 6 ∧ n ≤ 6 ∧
  ∀ p H' ws hs, H p = none → BM [s] H H' → Src H' s → Hid H' p ws hs t.length n → Q (.ref p) H'
end K3

namespace K3
/-! ### a cell among cells -/
def cellD (c : Nat × Nat) : PyData := .tuple [.int (c.1 : Int), .int (c.2 : Int)]
theorem cell_dp {K : PySem.W.Frag} {H : Hp} {v : V} {c : Nat × Nat} (h : CellAt H v c) : Dp K H v (cellD c) := by
  obtain ⟨a, rfl, h⟩ := h
  exact Dp.tup (SqT.of h) (.cons (.int _) (.cons (.int _) .nil))
theorem cells_dp {K : PySem.W.Frag} {H : Hp} : ∀ {ws : List V} {hs : List (Nat × Nat)}, Paired (CellAt H) ws hs → DpAll K H ws (hs.map cellD)
  | _, _, .nil => .nil
  | _, _, .cons h t => .cons (cell_dp h) (cells_dp t)
theorem cell_same (a b : Nat × Nat) : PySem.Spec.same (cellD a) (cellD b) = decide (a = b) := by
  unfold cellD
  obtain ⟨a1, a2⟩ := a
  obtain ⟨b1, b2⟩ := b
  rw [Bool.eq_iff_iff]
  simp [PySem.Spec.same, PySem.Spec.sameAll]
  omega
theorem cell_nomix (a b : Nat × Nat) : SeqAt.noMix (cellD a) (cellD b) = true := rfl
theorem cell_count (c : Nat × Nat) : ∀ hs : List (Nat × Nat), 0 ≤ countIn (cellD c) (hs.map cellD) ∧ (countIn (cellD c) (hs.map cellD) ≠ 0 ↔ c ∈ hs)
  | [] => ⟨Int.le_refl 0, by simp [countIn]⟩
  | h :: hs => by
    obtain ⟨i0, i1⟩ := cell_count c hs
    simp only [List.map_cons, countIn, cell_same, List.mem_cons]
    by_cases e : h = c
    · rw [e]
      simp only [decide_true, if_true]
      exact ⟨by omega, ⟨fun _ => by simp, fun _ => by omega⟩⟩
    · rw [decide_eq_false e]
      simp only [Bool.false_eq_true, if_false]
      refine ⟨by omega, ⟨fun z => .inr (i1.mp (by omega)), fun z => ?_⟩⟩
      rcases z with z | z
      · exact absurd z.symm e
      · have := i1.mpr z
        omega
theorem log_small {n : Nat} (h : n < 1000) : (if (n : Int) = 0 then 0 else (n : Int).natAbs.log2 + 1) ≤ 10 := by
  split
  · exact Nat.zero_le _
  · rename_i h0
    have : n ≠ 0 := fun z => h0 (by rw [z]; rfl)
    have : n.log2 < 10 := (Nat.log2_lt this).mpr (by omega)
    simp only [Int.natAbs_natCast]
    omega
theorem cell_lay (c : Nat × Nat) (h : c.1 < 1000 ∧ c.2 < 1000) : (cellD c).canLay0 = true ∧ (cellD c).depth ≤ 5 ∧ (cellD c).weight ≤ 50 := by
  have l1 := log_small h.1
  have l2 := log_small h.2
  unfold cellD
  refine ⟨rfl, by simp [PyData.depth, PyData.depthAll], ?_⟩
  simp [PyData.weight, PyData.weightAll] at l1 l2 ⊢
  omega
theorem cells_lay : ∀ hs : List (Nat × Nat), (∀ c ∈ hs, c.1 < 1000 ∧ c.2 < 1000) → PyData.canLayAll0 (hs.map cellD) = true ∧ PyData.depthAll (hs.map cellD) ≤ 5 ∧ PyData.weightAll (hs.map cellD) ≤ 100 * hs.length
  | [], _ => by simp [PyData.canLayAll0, PyData.depthAll, PyData.weightAll]
  | h :: hs, k => by
    obtain ⟨a, b, c⟩ := cells_lay hs fun c hc => k c (List.mem_cons_of_mem _ hc)
    obtain ⟨d, e, f⟩ := cell_lay h (k h (List.mem_cons_self ..))
    simp only [List.map_cons, PyData.canLayAll0, PyData.depthAll, PyData.weightAll, List.length_cons]
    refine ⟨by rw [a, d]; rfl, by omega, by omega⟩
theorem list_lay {hs : List (Nat × Nat)} (k : ∀ c ∈ hs, c.1 < 1000 ∧ c.2 < 1000) (n : hs.length ≤ 1000) : (PyData.list (hs.map cellD)).layable0 = true ∧ (PyData.tuple (hs.map cellD)).layable0 = true := by
  obtain ⟨a, b, c⟩ := cells_lay hs k
  have e (d : PyData) (h1 : d.canLay0 = true) (h2 : d.depth ≤ 64) (h3 : d.weight ≤ 2 ^ 20) : d.layable0 = true := by
    unfold PyData.layable0
    rw [h1, decide_eq_true h2, decide_eq_true h3]
    rfl
  constructor
  · refine e _ (by simpa [PyData.canLay0] using a) (by simp only [PyData.depth]; omega) ?_
    simp only [PyData.weight]
    omega
  · refine e _ (by simpa [PyData.canLay0] using a) (by simp only [PyData.depth]; omega) ?_
    simp only [PyData.weight]
    omega
def rNotInC (K : PySem.W.Frag) : R2 := fun x y H Q => ∃ (p : Addr) (ws : List V) (hs : List (Nat × Nat)) (c : Nat × Nat), CellAt H x c ∧ y = .ref p ∧ (SqL K H p ws ∨ SqT K H p ws) ∧ Paired (CellAt H) ws hs ∧ hs.length ≤ 1000 ∧ (∀ h ∈ hs, h.1 < 1000 ∧ h.2 < 1000) ∧ (c.1 < 1000 ∧ c.2 < 1000) ∧ Q (.bl (!decide (c ∈ hs))) H
theorem op_notInC {X : Cx} (hu : X.A.units + 65 < cLine) : OpR X (compareOp .NotIn) (rNotInC X.K) := by
  intro pins s σ H x y v u Q I rx ry ⟨p, ws, hs, c, hc, ey, hp, hw, hn, hb, hcb, q⟩
  obtain ⟨as, ra⟩ := Dp.reads I _ _ _ (cell_dp (K := X.K) hc) rx
  have ll := list_lay hb hn
  have lc : (cellD c).layable0 = true := by
    obtain ⟨a, b, d⟩ := cell_lay c hcb
    unfold PyData.layable0
    rw [a, decide_eq_true (show (cellD c).depth ≤ 64 by omega), decide_eq_true (show (cellD c).weight ≤ 2 ^ 20 by omega)]
    rfl
  have e : decide (countIn (cellD c) (hs.map cellD) ≠ 0) = decide (c ∈ hs) := decide_eq_decide.mpr (cell_count c hs).2
  have nm : ∀ y ∈ hs.map cellD, SeqAt.noMix y (cellD c) = true := fun y hy => by
    obtain ⟨h, _, rfl⟩ := List.mem_map.mp hy
    exact cell_nomix _ _
  rcases hp with hp | hp
  · obtain ⟨bs, rb⟩ := Dp.reads I _ _ _ (by rw [ey]; exact Dp.lst hp (cells_dp hw)) ry
    exact notIn_list_dataS rb ra ll.1 lc hu nm ⟨.bl (!decide (c ∈ hs)), H, I, by rw [e]; exact rfl, q⟩
  · obtain ⟨bs, rb⟩ := Dp.reads I _ _ _ (by rw [ey]; exact Dp.tup hp (cells_dp hw)) ry
    exact PyProof.Rows.notIn_tuple_dataS rb ra ll.2 lc hu nm ⟨.bl (!decide (c ∈ hs)), H, I, by rw [e]; exact rfl, q⟩
theorem Room.units65 {k : Nat} {A : Around} (h : Room k A) : A.units + 65 < cLine := Nat.lt_of_le_of_lt (by omega) h.un
end K3

namespace L2
open PySem PySem.Spec PyProof.Rows
section
variable {X : Cx}
/-- either reading will do -/
theorem pi_or {tg e : Expr} {a b : TI} (ha : PI X tg e a) (hb : PI X tg e b) : PI X tg e (fun σ H R => a σ H R ∨ b σ H R) := ⟨fun pins s σ H R I h => h.elim (ha.run pins s σ H R I) (hb.run pins s σ H R I)⟩
theorem cr_or {f : Value} {a b : List V → Hp → VK → Prop} (ha : CallR X f a) (hb : CallR X f b) : CallR X f (fun xs H Q => a xs H Q ∨ b xs H Q) := fun pins s σ H xs us Q I v h => h.elim (ha pins s σ H xs us Q I v) (hb pins s σ H xs us Q I v)
/-- a statement that is never come to -/
theorem ps_dead {st : Stmt} : PS X st (fun _ _ _ => False) := ⟨fun _ _ _ _ _ _ h => h.elim⟩
end
section
variable {J : It} {n : Nat} {G : Hp → Prop} {Y : Nat → Hp → V → Hp → Prop}
/-- the second source's own loop within a comprehension of two fors -/
def In1 (D : Addr) (g1 : TG) (tt1 : TT) (te : TE) (vs1 : List Nat) (Nx : Hp → Prop) (J1 : It) (σ2 : L2.St) (H4 : Hp) : Prop :=
  ∃ W1 : Nat → Nat → Hp → Prop, (∃ m, W1 0 m H4) ∧ ∀ j k H, W1 j k H →
      (J1.stop j H ∧ Nx H) ∨ (J1.go j H ∧ ∃ Nx1 : Hp → Prop, (∀ H', Nx1 H' → ∃ k', k' < k ∧ W1 (j + 1) k' H') ∧ ∀ x H', J1.yld j H x H' → g1 x (wipe σ2 vs1) H' fun σ3 H5 => wipe σ3 vs1 = wipe σ2 vs1 ∧ tt1 σ3 H5 fun b H6 =>
        if b = true then te σ3 H6 fun y H7 => ∃ acc, H7 D = some (.lst acc) ∧ acc.length < sizeLine ∧ Nx1 (upd H7 D (.lst (acc ++ [y]))) else Nx1 H6)
theorem in1_it (w : Walk J n G Y) {D : Addr} {g1 : TG} {tt1 : TT} {te : TE} {vs1 : List Nat} {Nx : Hp → Prop} {σ2 : L2.St} {H4 : Hp} (Pv : Nat → Hp → Prop) (h0 : Pv 0 H4) (hG : ∀ i H, i ≤ n → Pv i H → G H)
    (hs : ∀ j x H H', j < n → Pv j H → Y j H x H' → g1 x (wipe σ2 vs1) H' fun σ3 H5 => wipe σ3 vs1 = wipe σ2 vs1 ∧ tt1 σ3 H5 fun b H6 =>
        if b = true then te σ3 H6 fun y H7 => ∃ acc, H7 D = some (.lst acc) ∧ acc.length < sizeLine ∧ Pv (j + 1) (upd H7 D (.lst (acc ++ [y]))) else Pv (j + 1) H6)
    (hd : ∀ H, Pv n H → Nx H) : In1 D g1 tt1 te vs1 Nx J σ2 H4 := by
  refine ⟨fun i k H => k = n - i ∧ i ≤ n ∧ Pv i H, ⟨n, rfl, Nat.zero_le _, h0⟩, ?_⟩
  rintro i k H ⟨rfl, hi, p⟩
  by_cases c : i < n
  · exact .inr ⟨w.goes i H c (hG i H hi p), Pv (i + 1), fun _ p' => ⟨n - (i + 1), by omega, rfl, c, p'⟩, fun x H' y => hs i x H H' c p (w.yields i H x H' c (hG i H hi p) y)⟩
  · obtain rfl : i = n := by omega
    exact .inl ⟨w.stops H (hG i H hi p), hd H p⟩
theorem lc2_it (w : Walk J n G Y) {g g1 : TG} {tt tt1 : TT} {wi1 : TI} {te : TE} {vs vs1 : List Nat} {σ : L2.St} {H1 : Hp} {D : Addr} {Qd : Hp → Prop} (Pv : Nat → Hp → Prop) (h0 : Pv 0 (upd H1 D (.lst []))) (hG : ∀ i H, i ≤ n → Pv i H → G H)
    (hs : ∀ i x H H', i < n → Pv i H → Y i H x H' → g x (wipe σ vs) H' fun σ2 H2 => wipe σ2 vs = wipe σ vs ∧ tt σ2 H2 fun b H3 =>
      if b = true then wi1 σ2 H3 fun J1 H4 => In1 D g1 tt1 te vs1 (Pv (i + 1)) J1 σ2 H4 else Pv (i + 1) H3)
    (hd : ∀ H, Pv n H → Qd H) :
    ∃ W : Nat → Nat → Hp → Prop, (∃ m, W 0 m (upd H1 D (.lst []))) ∧ ∀ i m H, W i m H →
  (J.stop i H ∧ Qd H) ∨ (J.go i H ∧ ∃ Nx : Hp → Prop, (∀ H', Nx H' → ∃ m', m' < m ∧ W (i + 1) m' H') ∧ ∀ x H', J.yld i H x H' → g x (wipe σ vs) H' fun σ2 H2 => wipe σ2 vs = wipe σ vs ∧ tt σ2 H2 fun b H3 =>
    if b = true then wi1 σ2 H3 fun J1 H4 => In1 D g1 tt1 te vs1 Nx J1 σ2 H4 else Nx H3) := by
  refine ⟨fun i k H => k = n - i ∧ i ≤ n ∧ Pv i H, ⟨n, rfl, Nat.zero_le _, h0⟩, ?_⟩
  rintro i k H ⟨rfl, hi, p⟩
  by_cases c : i < n
  · exact .inr ⟨w.goes i H c (hG i H hi p), Pv (i + 1), fun _ p' => ⟨n - (i + 1), by omega, rfl, c, p'⟩, fun x H' y => hs i x H H' c p (w.yields i H x H' c (hG i H hi p) y)⟩
  · obtain rfl : i = n := by omega
    exact .inl ⟨w.stops H (hG i H hi p), hd H p⟩
theorem lc2_open {wi wi1 : TI} {g g1 : TG} {tt tt1 : TT} {te : TE} {vs vs1 : List Nat} {σ : L2.St} {H : Hp} {Q : VK} (h : wi σ H fun J H1 => ∀ D, H1 D = none → ∃ W : Nat → Nat → Hp → Prop, (∃ m, W 0 m (upd H1 D (.lst []))) ∧ ∀ i m H, W i m H →
  (J.stop i H ∧ Q (.ref D) H) ∨ (J.go i H ∧ ∃ Nx : Hp → Prop, (∀ H', Nx H' → ∃ m', m' < m ∧ W (i + 1) m' H') ∧ ∀ x H', J.yld i H x H' → g x (wipe σ vs) H' fun σ2 H2 => wipe σ2 vs = wipe σ vs ∧ tt σ2 H2 fun b H3 =>
    if b = true then wi1 σ2 H3 fun J1 H4 => In1 D g1 tt1 te vs1 Nx J1 σ2 H4 else Nx H3)) : tLc2 wi g tt wi1 g1 tt1 te vs vs1 σ H Q := h
end
end L2
namespace K3
def Rect (t : List (List Int)) (m n : Nat) : Prop := t.length = m ∧ ∀ r ∈ t, r.length = n
def at2 (t : List (List Int)) (i j : Nat) : Int := (t.getD i []).getD j 0
theorem row_of {H : Hp} {g : Addr} {rs : List Addr} {t : List (List Int)} (ht : Tab H g rs t) {i : Nat} (hi : i < t.length) : ∃ a r, rs[i]? = some a ∧ t[i]? = some r ∧ H a = some (.lst (r.map V.int)) := by
  have l := ht.rows.length
  obtain ⟨r, hr, hx⟩ := K3.Paired.get ht.rows (i := i) (x := rs[i]'(by omega)) (List.getElem?_eq_getElem _)
  exact ⟨_, r, List.getElem?_eq_getElem _, hr, hx⟩
theorem at2_of {t : List (List Int)} {i j : Nat} {r : List Int} (h : t[i]? = some r) : at2 t i j = r.getD j 0 := by
  unfold at2
  have e : t.getD i [] = r := by rw [List.getD_eq_getElem?_getD, h]; rfl
  rw [e]
theorem ref_at {rs : List Addr} {i : Nat} {a : Addr} (h : rs[i]? = some a) : atI (rs.map V.ref) (i : Int) = some (.ref a) := atI_nat (by rw [List.getElem?_map, h]; rfl)
theorem w_gtup {K : PySem.W.Frag} {n : Nat} {t : TGs} {a : Addr} {xs : List V} {σ : L2.St} {H : Hp} {Q : L2.St → Hp → Prop} (h1 : SqT K H a xs) (h2 : xs.length = n) (h : t xs σ H Q) : gTup K n t (.ref a) σ H Q := ⟨a, xs, rfl, h1, h2, h⟩
end K3
end C1_part
section E1_part
set_option Elab.async false
set_option linter.all false
set_option maxRecDepth 100000
set_option maxHeartbeats 1000000
set_option pp.deepTerms.threshold 5
open PySem PySem.Spec PyProof.Rows L2
/-- go on as far as nothing is open -/
local macro_rules | `(tactic| walk_at "go") => `(tactic| repeat (first
  | with_reducible refine w_seq ?_ | with_reducible refine w_next ?_ | with_reducible refine w_set ?_ | with_reducible refine w_drop ?_ | with_reducible refine w_ret ?_ | with_reducible refine w_retN ?_
  | with_reducible refine w_if ?_ | ((with_reducible refine' w_var ?hv ?_); (case hv => exact rfl)) | with_reducible refine w_c ?_ | with_reducible refine w_nil ?_ | with_reducible refine w_cons ?_ | with_reducible refine w_op ?_ | with_reducible refine w_un ?_
  | with_reducible refine w_test ?_ | with_reducible refine w_tB ?_ | with_reducible refine w_not ?_ | with_reducible refine w_and ?_ | with_reducible refine w_or ?_ | with_reducible refine w_bl ?_
  | with_reducible refine w_andV ?_ | with_reducible refine w_orV ?_ | with_reducible refine w_notV ?_ | with_reducible refine w_ifE ?_ | with_reducible refine w_chain ?_ | with_reducible refine w_i0 ?_
  | with_reducible refine w_call ?_ | with_reducible refine w_callS ?_ | with_reducible refine w_cB ?_ | with_reducible refine w_tup ?_ | with_reducible refine w_lst ?_ | with_reducible refine w_fldV ?_
  | with_reducible refine w_neF ?_ | with_reducible refine w_neT ?_ | with_reducible refine w_notN ?_ | with_reducible refine w_isN ?_ | with_reducible refine w_gname ?_ | with_reducible refine w_gsub ?_ | with_reducible refine w_asg ?_ | with_reducible refine w_sl ?_ | with_reducible refine w_noP ?_ | with_reducible refine w_int1 ?_ | with_reducible refine w_part ?_ | with_reducible refine w_yes ?_ | with_reducible refine w_nT ?_ | with_reducible refine w_nF ?_ | with_reducible refine w_iteT ?_ | with_reducible refine w_iteF ?_))
namespace L2
open PySem PySem.Spec PyProof.Rows
/-! ### a list or a tuple -/
def SqB (K : PySem.W.Frag) (H : Hp) : Bool → Addr → List V → Prop
  | false => SqL K H
  | true => SqT K H
def SqE (K : PySem.W.Frag) (H : Hp) (a : Addr) (xs : List V) : Prop := ∃ b, SqB K H b a xs
theorem SqE.either {K : PySem.W.Frag} {H : Hp} {a : Addr} {xs : List V} : SqE K H a xs → SqL K H a xs ∨ SqT K H a xs
  | ⟨false, h⟩ => .inl h
  | ⟨true, h⟩ => .inr h
theorem SqB.same {K : PySem.W.Frag} {H H' : Hp} {a : Addr} {xs : List V} (e : Same H H') : ∀ {b : Bool}, SqB K H b a xs → SqB K H' b a xs
  | false, h => e.seq h
  | true, h => e.sqt h
theorem SqE.same {K : PySem.W.Frag} {H H' : Hp} {a : Addr} {xs : List V} (h : SqE K H a xs) (e : Same H H') : SqE K H' a xs := h.imp fun _ z => z.same e
theorem SqE.lst {K : PySem.W.Frag} {H : Hp} {a : Addr} {xs : List V} (h : H a = some (.lst xs)) : SqE K H a xs := ⟨false, SqL.of h⟩
theorem SqE.tup {K : PySem.W.Frag} {H : Hp} {a : Addr} {xs : List V} (h : H a = some (.tup xs)) : SqE K H a xs := ⟨true, SqT.of h⟩
def ItB (K : PySem.W.Frag) : Bool → Addr → It
  | false => Itl K
  | true => Itt K
theorem walk_B {K : PySem.W.Frag} {a : Addr} {xs : List V} : ∀ {b : Bool}, Walk (ItB K b a) xs.length (fun H => SqB K H b a xs) (YAt xs)
  | false => walk_list
  | true => walk_tup
def iSeq (K : PySem.W.Frag) (tl : TE) : TI := fun σ H R => tl σ H fun x H1 => ∃ a b, x = .ref a ∧ (∃ xs, SqB K H1 b a xs) ∧ R (ItB K b a) H1
theorem seqI_open {K : PySem.W.Frag} {tl : TE} {σ : L2.St} {H : Hp} {R : It → Hp → Prop} (h : tl σ H fun x H1 => ∃ a b, x = .ref a ∧ (∃ xs, SqB K H1 b a xs) ∧ R (ItB K b a) H1) : iSeq K tl σ H R := h
section
variable {X : Cx} {tg l : Expr} {tl : TE}
theorem pi_seq (hl : PE X l tl) : PI X tg l (iSeq X.K tl) := by
  constructor
  intro pins s σ H R I h
  refine thn (hl.run pins s σ H _ I h) ?_
  rintro v s1 ⟨x, H1, I1, r1, a, b, rfl, ⟨xs, hq⟩, q⟩
  cases r1
  have kept : ∀ o : Obj, Inv X pins σ H1 { s1 with heap := s1.heap.push o, toks := s1.toks } := fun o => I1.kept fun b u e => Heap.get?_push_of_some o e
  have out : ∀ b ∈ [s1.heap.objs.size], _ := fun b hb => by
    obtain rfl := List.mem_singleton.mp hb
    exact I1.fpOk (Nat.le_refl _) (I1.hok.fresh (Nat.le_refl _))
  cases b with
  | false =>
    obtain ⟨its, _, p, _⟩ := I1.list hq
    exact wpAny_pyIter_list p.isList ⟨s1.heap.objs.size, [s1.heap.objs.size], _, _, H1, rfl, kept _, turn_list a _, ⟨_, Heap.get?_push_size _ rfl, rfl, rfl⟩, out, q⟩
  | true =>
    obtain ⟨its, _, p, _⟩ := I1.tuple hq
    exact wpAny_pyIter_tuple (show s1.heap.IsTuple a its.toArray from p) ⟨s1.heap.objs.size, [s1.heap.objs.size], _, _, H1, rfl, kept _, turn_tuple a _, ⟨_, Heap.get?_push_size _ rfl, rfl, rfl⟩, out, q⟩
def rIxE (K : PySem.W.Frag) : R2 := fun x y H Q => rIxL K x y H Q ∨ rIxT K x y H Q
theorem ix_e : IxR X (rIxE X.K) := by
  intro value slice pins s σ H x y v u Q I rx ry h hs
  rcases h with h | h
  · exact ix_list value slice pins s σ H x y v u Q I rx ry h hs
  · exact ix_tup value slice pins s σ H x y v u Q I rx ry h hs
theorem w_ixE {K : PySem.W.Frag} {H : Hp} {p : Addr} {xs : List V} {i : Int} {v : V} {Q : VK} (h : SqE K H p xs) (ha : atI xs i = some v) (q : Q v H) : rIxE K (.ref p) (.int i) H Q := by
  rcases h.either with h | h
  · exact .inl ⟨p, xs, i, v, rfl, rfl, h, ha, q⟩
  · exact .inr ⟨p, xs, i, v, rfl, rfl, h, ha, q⟩
/-- sum of a list or a tuple of ints -/
def rSumE (K : PySem.W.Frag) : List V → Hp → VK → Prop := fun vs H Q => ∃ (a : Addr) (ns : List Int), vs = [V.ref a] ∧ SqE K H a (ns.map V.int) ∧ Q (.int ns.sum) H
theorem cr_sumE (hc : X.calm = true) : CallR X (.builtin "sum") (rSumE X.K) := by
  intro pins s σ H vs us Q I r ⟨a, ns, e, ⟨b, hs⟩, q⟩
  subst e
  cases b with
  | false => exact cr_sum hc pins s σ H _ us Q I r ⟨a, ns, rfl, hs, q⟩
  | true =>
    obtain ⟨its, rv, hl, _⟩ := I.tuple hs
    rw [Vals.ref1 r]
    have hi := rv.ints
    obtain ⟨xs, e⟩ := hi.allInts.items
    have hn : numsOf its.toArray.toList = ns := by rw [show its.toArray.toList = its from rfl, hi.numsOf]
    have hl : s.heap.IsTuple a its.toArray := hl
    rw [e] at hl hn
    rw [nums_intItems] at hn
    refine PySem.W.ktm_sumG (I.ok.hd hc) hl fun h' tk t' hk => ?_
    rw [preSum_eq, List.take_of_length_le (by simp), hn]
    exact ⟨.int _, H, I.kept hk, ⟨_, rfl⟩, q⟩
end
/-- a comprehension over items of which something is known: each gives a value of its own -/
theorem items_atE {K : PySem.W.Frag} {α : Type} {F : Hp → V → α → Prop} (mono : ∀ {H H' : Hp} {v : V} {y : α}, Same H H' → F H v y → F H' v y) {a D : Addr} {xs : List V} {ys : List α} {te : TE} {vs : List Nat} {σ : L2.St} {j : Nat} {H1 : Hp} {b : Bool} {Qd : Hp → Prop} (f : α → V)
    (hs : SqB K H1 b a xs) (hp : Paired (F H1) xs ys) (hD : H1 D = none) (hlen : xs.length ≤ 10000) (hw : ∀ x, wipe ((wipe σ vs).set j (some x)) vs = wipe σ vs)
    (he : ∀ (v : V) (y : α) (H' : Hp), Same H1 H' → y ∈ ys → F H' v y → ∀ Q : VK, (∀ H'', Same H' H'' → Q (f y) H'') → te ((wipe σ vs).set j (some v)) H' Q)
    (hd : ∀ H', Same H1 H' → H' D = some (.lst (ys.map f)) → Qd H') :
    ∃ W : Nat → Nat → Hp → Prop, (∃ m, W 0 m (upd H1 D (.lst []))) ∧ ∀ i m H, W i m H →
    ((ItB K b a).stop i H ∧ Qd H) ∨ ((ItB K b a).go i H ∧ ∃ Nx : Hp → Prop, (∀ H', Nx H' → ∃ m', m' < m ∧ W (i + 1) m' H') ∧ ∀ x H', (ItB K b a).yld i H x H' → gName j x (wipe σ vs) H' fun σ2 H2 =>
      wipe σ2 vs = wipe σ vs ∧ tYes σ2 H2 fun b H3 => if b = true then te σ2 H3 fun y H4 => ∃ acc, H4 D = some (.lst acc) ∧ acc.length < sizeLine ∧ Nx (upd H4 D (.lst (acc ++ [y]))) else Nx H3) := by
  refine lc_it (walk_B (K := K) (a := a) (xs := xs) (b := b)) (fun i H' => Same H1 H' ∧ H' D = some (.lst ((ys.take i).map f))) ⟨Same.new hD _, upd_same⟩ (fun i H' _ z => hs.same z.1) ?_ ?_
  · rintro i x H2 H2' hi ⟨e2, hD2⟩ ⟨rfl, hx⟩
    obtain ⟨y, hy, hF⟩ := K3.Paired.get hp hx
    refine ⟨hw x, ?_⟩
    refine w_yes ?_
    refine iteT ?_
    refine he x y H2' e2 (List.mem_of_getElem? hy) (mono e2 hF) _ fun H3 e3 => ?_
    refine ⟨_, e3 _ _ hD2, ?_, (e2.trans e3).mut hD, ?_⟩
    · refine Nat.lt_of_le_of_lt (show _ ≤ 10000 from ?_) (by decide)
      rw [List.length_map, List.length_take, ← hp.length]
      omega
    · rw [upd_same, List.take_add_one, hy, List.map_append]
      rfl
  · rintro H2 ⟨e2, hD2⟩
    refine hd H2 e2 ?_
    rw [hD2, hp.length, List.take_length]
end L2
namespace K3
/-- a grid: lists of lists, tuples of tuples, or both -/
structure GT (K : PySem.W.Frag) (H : Hp) (g : Addr) (rs : List Addr) (t : List (List Int)) : Prop where
  at_ : SqE K H g (rs.map V.ref)
  rows : Paired (fun r row => SqE K H r (row.map V.int)) rs t
theorem GT.same {K : PySem.W.Frag} {H H' : Hp} {g : Addr} {rs : List Addr} {t : List (List Int)} (h : GT K H g rs t) (e : Same H H') : GT K H' g rs t := ⟨h.at_.same e, L2.Paired.mapP h.rows fun _ _ z => z.same e⟩
theorem Tab.gt {K : PySem.W.Frag} {H : Hp} {g : Addr} {rs : List Addr} {t : List (List Int)} (h : Tab H g rs t) : GT K H g rs t := ⟨.lst h.at_, L2.Paired.mapP h.rows fun _ _ z => .lst z⟩
theorem row_ofG {K : PySem.W.Frag} {H : Hp} {g : Addr} {rs : List Addr} {t : List (List Int)} (ht : GT K H g rs t) {i : Nat} (hi : i < t.length) : ∃ a r, rs[i]? = some a ∧ t[i]? = some r ∧ SqE K H a (r.map V.int) := by
  have l := ht.rows.length
  obtain ⟨r, hr, h⟩ := K3.Paired.get ht.rows (List.getElem?_eq_getElem (show i < rs.length by omega))
  exact ⟨_, r, List.getElem?_eq_getElem (by omega), hr, h⟩
def RowE (K : PySem.W.Frag) (H : Hp) (v : V) (r : List Int) : Prop := ∃ a, v = .ref a ∧ SqE K H a (r.map V.int)
theorem RowE.same {K : PySem.W.Frag} {H H' : Hp} (e : Same H H') {v : V} {r : List Int} (h : RowE K H v r) : RowE K H' v r := let ⟨a, h1, h2⟩ := h; ⟨a, h1, h2.same e⟩
theorem rowE_of {K : PySem.W.Frag} {H : Hp} : ∀ {rs : List Addr} {t : List (List Int)}, Paired (fun r row => SqE K H r (row.map V.int)) rs t → Paired (RowE K H) (rs.map V.ref) t
  | _, _, .nil => .nil
  | _, _, .cons h t => .cons ⟨_, rfl, h⟩ (rowE_of t)
end K3
end E1_part
section C2_part
set_option Elab.async false
set_option linter.all false
set_option maxRecDepth 100000
set_option maxHeartbeats 1000000
set_option pp.deepTerms.threshold 5
open PySem PySem.Spec PyProof.Rows L2
/-- go on as far as nothing is open -/
local macro_rules | `(tactic| walk_at "go") => `(tactic| repeat (first
  | with_reducible refine w_seq ?_ | with_reducible refine w_next ?_ | with_reducible refine w_set ?_ | with_reducible refine w_drop ?_ | with_reducible refine w_ret ?_ | with_reducible refine w_retN ?_
  | with_reducible refine w_if ?_ | ((with_reducible refine' w_var ?hv ?_); (case hv => exact rfl)) | with_reducible refine w_c ?_ | with_reducible refine w_nil ?_ | with_reducible refine w_cons ?_ | with_reducible refine w_op ?_ | with_reducible refine w_un ?_
  | with_reducible refine w_test ?_ | with_reducible refine w_tB ?_ | with_reducible refine w_not ?_ | with_reducible refine w_and ?_ | with_reducible refine w_or ?_ | with_reducible refine w_bl ?_
  | with_reducible refine w_andV ?_ | with_reducible refine w_orV ?_ | with_reducible refine w_notV ?_ | with_reducible refine w_ifE ?_ | with_reducible refine w_chain ?_ | with_reducible refine w_i0 ?_
  | with_reducible refine w_call ?_ | with_reducible refine w_callS ?_ | with_reducible refine w_cB ?_ | with_reducible refine w_tup ?_ | with_reducible refine w_lst ?_ | with_reducible refine w_fldV ?_
  | with_reducible refine w_neF ?_ | with_reducible refine w_neT ?_ | with_reducible refine w_notN ?_ | with_reducible refine w_isN ?_ | with_reducible refine w_gname ?_ | with_reducible refine w_gsub ?_ | with_reducible refine w_asg ?_ | with_reducible refine w_sl ?_ | with_reducible refine w_noP ?_ | with_reducible refine w_int1 ?_ | with_reducible refine w_part ?_ | with_reducible refine w_yes ?_ | with_reducible refine w_nT ?_ | with_reducible refine w_nF ?_ | with_reducible refine w_iteT ?_ | with_reducible refine w_iteF ?_))
namespace K3
def spCellsOf (K : PySem.W.Frag) : Sp := fun vs H Q _ => ∃ (g : Addr) (rs : List Addr) (t : List (List Int)) (m n : Nat), vs = [.ref g] ∧ GT K H g rs t ∧ Rect t m n ∧ 1 ≤ m ∧ m ≤ 100 ∧ n ≤ 100 ∧ ∀ p' H' vs, Same H H' → H p' = none → H' p' = some (.lst vs) → Paired (CellAt H') vs (cellsOf m n) → Q (.ref p') H'
def spLast (K : PySem.W.Frag) : Sp := fun vs H Q _ => ∃ (g : Addr) (rs : List Addr) (t : List (List Int)) (m n : Nat), vs = [.ref g] ∧ GT K H g rs t ∧ Rect t m n ∧ 1 ≤ m ∧ 1 ≤ n ∧ ∀ a H', Same H H' → CellAt H' (.ref a) (m - 1, n - 1) → Q (.ref a) H'
def spNum (K : PySem.W.Frag) : Sp := fun vs H Q _ => ∃ (g : Addr) (v : V) (rs : List Addr) (t : List (List Int)) (m n i j : Nat), vs = [.ref g, v] ∧ GT K H g rs t ∧ Rect t m n ∧ CellAt H v (i, j) ∧ i < m ∧ j < n ∧ Q (.int (at2 t i j)) H
def spRefuse (K : PySem.W.Frag) : Sp := fun vs H Q _ => ∃ (g : Addr) (v : V) (rs : List Addr) (t : List (List Int)) (m n i j : Nat), vs = [.ref g, v] ∧ GT K H g rs t ∧ Rect t m n ∧ CellAt H v (i, j) ∧ i < m ∧ j < n ∧ Q .non H
section
variable {P : Program} {w : World} {K : PySem.W.Frag} {mg : Str → Option Value} {base : Heap}
theorem sc_cells_of : FnScope ["grid", "row", "column"] ["grid"] (defScope s_cells_of) := ⟨rfl, rfl, rfl, by decide +kernel, rfl, by decide +kernel, by decide +kernel⟩
theorem ok_cells_of (T : Tx K mg) : Ok P w K mg base 1 (He.ga K "cells_of") ["grid"] (spCellsOf K) := by
  obtain ⟨fd, F⟩ := T.f_cells_of
  refine ⟨fd, F.ok (k := 0) sc_cells_of (fun vs H Q E h => ?_) (fun cdv A outer s' H vs Q E hr h => ?_), F.bindsN fun _ _ _ _ _ _ us hl => match us, hl with | [_], _ => rfl, F.kp⟩
  · obtain ⟨g, rs, t, m, n, rfl, _⟩ := h
    rfl
  obtain ⟨g, rs, t, m, n, rfl, ht, ⟨tm, tn⟩, m1, m2, n2, q⟩ := h
  refine ⟨_, pss_one (ps_ret (by exact pe_lc2 (own := [("row", 1), ("column", 2)]) (vs1 := [2]) (g := gName 1) (tt := tYes) (wi1 := (iRng1 (tCons (tCB (fun xs H Q => ∃ p ys, xs = [V.ref p] ∧ (SqL K H p ys ∨ SqT K H p ys) ∧ Q (.int ys.length) H) (tCons (tOp (rIxE K) (tVar 0) (tC (.int 0))) tNil)) tNil))) (g1 := gName 2) (tt1 := tYes) (te := (tTup (tCons (tVar 1) (tCons (tVar 2) tNil)))) (by rfl) sc_cells_of.nd (pi_range1 rfl T.z_range (pa_cons (pe_callB call_len_seq (by rfl) T.z_len PySem.boot_len (pa_cons (pv 0) pa_nil)) pa_nil)) (blkOk_by (own := [("row", 1), ("column", 2)]) (N := ["grid", "row", "column"]) (sc := defScope s_cells_of) (by decide +kernel)) (by decide) (fun _ _ _ _ _ => pg_name (i := 1) sc_cells_of.nd rfl (Or.inl rfl)) (fun _ _ _ _ _ => pts_nil) (fun _ _ _ _ _ => (pi_range1 rfl T.z_range (pa_cons (pe_callB call_len_seq (by rfl) T.z_len PySem.boot_len (pa_cons (pe_ix ix_e (pv 0) pe_int (fun _ _ => rfl)) pa_nil)) pa_nil))) (fun _ _ _ _ _ => pg_name (i := 2) sc_cells_of.nd rfl (Or.inl rfl)) (fun _ _ _ _ _ => pts_nil) (fun _ _ _ _ _ => (pe_tup (pa_cons (pv 1) (pa_cons (pv 2) pa_nil)))))), ?_⟩
  have lr := ht.rows.length
  obtain ⟨a0, r0, ha0, hr0, hx0⟩ := row_ofG ht (i := 0) (by omega)
  have ln : r0.length = n := tn _ (List.mem_of_getElem? hr0)
  walk_at "go"
  refine lc2_open ?_
  refine rng_open ?_
  walk_at "go"
  refine ⟨g, _, rfl, ht.at_.either, ?_⟩
  rw [List.length_map, lr, tm]
  refine ⟨_, rfl, by omega, by omega, fun D hD => ?_⟩
  rw [Int.toNat_natCast]
  refine lc2_it walk_range (fun (i : Nat) H' => ∃ vs : List V, Same H H' ∧ H' D = some (.lst vs) ∧ Paired (CellAt H') vs (cellsOf i n)) ⟨[], Same.new hD _, upd_same, .nil⟩ (fun _ _ _ _ => trivial) ?_ ?_
  · rintro i x H1 H2 hi ⟨vs, e1, hD1, hp1⟩ ⟨rfl, rfl⟩
    show gName 1 (V.int ((0 : Int) + (i : Int))) _ _ _
    rw [show (0 : Int) + (i : Int) = (i : Int) by omega]
    walk_at "go"
    refine ⟨rfl, ?_⟩
    walk_at "go"
    refine rng_open ?_
    walk_at "go"
    refine w_ixE (ht.at_.same e1) (ref_at (i := 0) ha0) ?_
    walk_at "go"
    refine ⟨a0, _, rfl, (hx0.same e1).either, ?_⟩
    rw [List.length_map, ln]
    refine ⟨_, rfl, by omega, by omega, ?_⟩
    rw [Int.toNat_natCast]
    have hl1 : vs.length ≤ 10000 := by
      rw [hp1.length, cells_len]
      exact Nat.le_trans (Nat.mul_le_mul (Nat.le_trans (Nat.le_of_lt hi) m2) n2) (by decide)
    refine in1_it walk_range (fun (j : Nat) H' => ∃ ws : List V, Same H H' ∧ H' D = some (.lst ws) ∧ Paired (CellAt H') ws (cellsOf i n ++ rowCells j i)) ⟨vs, e1, hD1, by show Paired (CellAt _) vs (cellsOf i n ++ []); rw [List.append_nil]; exact hp1⟩ (fun _ _ _ _ => trivial) ?_ ?_
    · rintro j x H3 H4 hj ⟨ws, e3, hD3, hp3⟩ ⟨rfl, rfl⟩
      show gName 2 (V.int ((0 : Int) + (j : Int))) _ _ _
      rw [show (0 : Int) + (j : Int) = (j : Int) by omega]
      walk_at "go"
      refine ⟨rfl, ?_⟩
      walk_at "go"
      refine ⟨(by show 2 ≤ sizeLine; decide), fun p3 hp4 => ?_⟩
      have e4 := Same.new hp4 (.tup [.int (i : Int), .int (j : Int)])
      have hD4 := e4 _ _ hD3
      have lw : ws.length ≤ 20000 := by
        rw [hp3.length, List.length_append, cells_len]
        unfold rowCells
        rw [List.length_map, List.length_range]
        have := Nat.mul_le_mul (Nat.le_trans (Nat.le_of_lt hi) m2) n2
        omega
      have up : ∀ v x, CellAt (upd H4 p3 (.tup [.int (i : Int), .int (j : Int)])) v x → CellAt (upd (upd H4 p3 (.tup [.int (i : Int), .int (j : Int)])) D (.lst (ws ++ [.ref p3]))) v x := fun v x ⟨a, h1, h2⟩ => ⟨a, h1, by rw [upd_ne (fun z => by rw [z, hD4] at h2; cases h2)]; exact h2⟩
      refine ⟨ws, hD4, Nat.lt_of_le_of_lt lw (by decide), ws ++ [.ref p3], (e3.trans e4).mut hD, upd_same, ?_⟩
      unfold rowCells at hp3 ⊢
      rw [List.range_succ, List.map_append, ← List.append_assoc]
      exact K3.Paired.app (L2.Paired.mapP hp3 fun _ _ z => up _ _ (z.same e4)) (.cons (up _ _ ⟨p3, rfl, upd_same⟩) .nil)
    · rintro H3 ⟨ws, e3, hD3, hp3⟩
      refine ⟨ws, e3, hD3, ?_⟩
      unfold cellsOf at hp3 ⊢
      rw [List.range_succ, List.flatMap_append, List.flatMap_cons, List.flatMap_nil, List.append_nil]
      exact hp3
  · rintro H1 ⟨vs, e1, hD1, hp1⟩
    exact q D H1 vs e1 hD hD1 hp1
theorem sc_last_cell : FnScope ["grid"] ["grid"] (defScope s_last_cell) := ⟨rfl, rfl, rfl, by decide +kernel, rfl, by decide +kernel, by decide +kernel⟩
theorem ok_last_cell (T : Tx K mg) : Ok P w K mg base 1 (He.ga K "last_cell") ["grid"] (spLast K) := by
  obtain ⟨fd, F⟩ := T.f_last_cell
  refine ⟨fd, F.ok (k := 0) sc_last_cell (fun vs H Q E h => ?_) (fun cdv A outer s' H vs Q E hr h => ?_), F.bindsN fun _ _ _ _ _ _ us hl => match us, hl with | [_], _ => rfl, F.kp⟩
  · obtain ⟨g, rs, t, m, n, rfl, _⟩ := h
    rfl
  obtain ⟨g, rs, t, m, n, rfl, ht, ⟨tm, tn⟩, m1, n1, q⟩ := h
  refine ⟨_, pss_one (ps_ret (pe_tup (pa_cons (pe_op op_sub (pe_callB call_len_seq (by rfl) T.z_len PySem.boot_len (pa_cons (pv 0) pa_nil)) pe_int) (pa_cons (pe_op op_sub (pe_callB call_len_seq (by rfl) T.z_len PySem.boot_len (pa_cons (pe_ix ix_e (pv 0) pe_int (fun _ _ => rfl)) pa_nil)) pe_int) pa_nil)))), ?_⟩
  have lr := ht.rows.length
  obtain ⟨a0, r0, ha0, hr0, hx0⟩ := row_ofG ht (i := 0) (by omega)
  have ln : r0.length = n := tn _ (List.mem_of_getElem? hr0)
  walk_at "go"
  refine ⟨g, _, rfl, ht.at_.either, ?_⟩
  rw [List.length_map, lr, tm]
  walk_at "go"
  refine w_ixE ht.at_ (ref_at (i := 0) ha0) ?_
  walk_at "go"
  refine ⟨a0, _, rfl, hx0.either, ?_⟩
  rw [List.length_map, ln]
  walk_at "go"
  refine ⟨(by show 2 ≤ sizeLine; decide), fun a ha => q a _ (Same.new ha _) ⟨a, rfl, ?_⟩⟩
  rw [upd_same, show ((m : Int) - 1) = ((m - 1 : Nat) : Int) by omega, show ((n : Int) - 1) = ((n - 1 : Nat) : Int) by omega]
theorem sc_number_at : FnScope ["grid", "cell", "row", "column"] ["grid", "cell"] (defScope s_number_at) := ⟨rfl, rfl, rfl, by decide +kernel, rfl, by decide +kernel, by decide +kernel⟩
theorem ok_number_at (T : Tx K mg) : Ok P w K mg base 1 (He.ga K "number_at") ["grid", "cell"] (spNum K) := by
  obtain ⟨fd, F⟩ := T.f_number_at
  refine ⟨fd, F.ok (k := 0) sc_number_at (fun vs H Q E h => ?_) (fun cdv A outer s' H vs Q E hr h => ?_), F.bindsN fun _ _ _ _ _ _ us hl => match us, hl with | [_, _], _ => rfl, F.kp⟩
  · obtain ⟨g, v, rs, t, m, n, i, j, rfl, _⟩ := h
    rfl
  obtain ⟨g, v, rs, t, m, n, i, j, rfl, ht, ⟨tm, tn⟩, ⟨c, rfl, hc⟩, hi, hj, q⟩ := h
  refine ⟨_, pss_cons (ps_asg (pv 1) (pg_tup rfl (pgs_cons (pg_name (i := 2) sc_number_at.nd rfl (Or.inl rfl)) (pgs_cons (pg_name (i := 3) sc_number_at.nd rfl (Or.inl rfl)) pgs_nil))))
      (pss_one (ps_ret (pe_ix ix_e (pe_ix ix_e (pv 0) (pv 2) (fun _ _ => rfl)) (pv 3) (fun _ _ => rfl)))), ?_⟩
  obtain ⟨a0, r0, ha0, hr0, hx0⟩ := row_ofG ht (i := i) (by omega)
  have ln : r0.length = n := tn _ (List.mem_of_getElem? hr0)
  walk_at "go"
  refine ⟨c, _, rfl, SqT.of hc, rfl, _, _, rfl, _, _, rfl, rfl, ?_⟩
  walk_at "go"
  refine w_ixE ht.at_ (ref_at ha0) ?_
  walk_at "go"
  refine w_ixE hx0 (at_getD (c := j) (by omega)) ?_
  rw [← at2_of hr0]
  exact q
theorem sc_refuse_no_cell : FnScope ["grid", "cell", "row", "column"] ["grid", "cell"] (defScope s_refuse_no_cell) := ⟨rfl, rfl, rfl, by decide +kernel, rfl, by decide +kernel, by decide +kernel⟩
theorem ok_refuse_no_cell (T : Tx K mg) : Ok P w K mg base 1 (He.ga K "refuse_no_cell") ["grid", "cell"] (spRefuse K) := by
  obtain ⟨fd, F⟩ := T.f_refuse_no_cell
  refine ⟨fd, F.ok (k := 0) sc_refuse_no_cell (fun vs H Q E h => ?_) (fun cdv A outer s' H vs Q E hr h => ?_), F.bindsN fun _ _ _ _ _ _ us hl => match us, hl with | [_, _], _ => rfl, F.kp⟩
  · obtain ⟨g, v, rs, t, m, n, i, j, rfl, _⟩ := h
    rfl
  obtain ⟨g, v, rs, t, m, n, i, j, rfl, ht, ⟨tm, tn⟩, ⟨c, rfl, hc⟩, hi, hj, q⟩ := h
  refine ⟨_, pss_cons (ps_asg (pv 1) (pg_tup rfl (pgs_cons (pg_name (i := 2) sc_refuse_no_cell.nd rfl (Or.inl rfl)) (pgs_cons (pg_name (i := 3) sc_refuse_no_cell.nd rfl (Or.inl rfl)) pgs_nil))))
      (pss_one (ps_if (pt_not (pw_and (pt_chain op_le op_lt pe_int (pv 2) (pe_callB call_len_seq (by rfl) T.z_len PySem.boot_len (pa_cons (pv 0) pa_nil))) (pw_and1 (pt_chain op_le op_lt pe_int (pv 3) (pe_callB call_len_seq (by rfl) T.z_len PySem.boot_len (pa_cons (pe_ix ix_e (pv 0) pe_int (fun _ _ => rfl)) pa_nil))))).pt) (pss_one ps_dead) pss_nil)), ?_⟩
  have lr := ht.rows.length
  obtain ⟨a0, r0, ha0, hr0, hx0⟩ := row_ofG ht (i := 0) (by omega)
  have ln : r0.length = n := tn _ (List.mem_of_getElem? hr0)
  have d1 : decide ((0 : Int) ≤ (i : Int)) = true := decide_eq_true (by omega)
  have d2 : decide ((i : Int) < (m : Int)) = true := decide_eq_true (by omega)
  have d3 : decide ((0 : Int) ≤ (j : Int)) = true := decide_eq_true (by omega)
  have d4 : decide ((j : Int) < (n : Int)) = true := decide_eq_true (by omega)
  walk_at "go"
  refine ⟨c, _, rfl, SqT.of hc, rfl, _, _, rfl, _, _, rfl, rfl, ?_⟩
  walk_at "go"
  rw [d1]
  walk_at "go"
  refine ⟨g, _, rfl, ht.at_.either, ?_⟩
  rw [List.length_map, lr, tm]
  walk_at "go"
  rw [d2]
  walk_at "go"
  rw [d3]
  walk_at "go"
  refine w_ixE ht.at_ (ref_at (i := 0) ha0) ?_
  walk_at "go"
  refine ⟨a0, _, rfl, hx0.either, ?_⟩
  rw [List.length_map, ln]
  walk_at "go"
  rw [d4]
  walk_at "go"
  exact q
end
end K3
end C2_part
section C3_part
set_option Elab.async false
set_option linter.all false
set_option maxRecDepth 100000
set_option maxHeartbeats 1000000
set_option pp.deepTerms.threshold 5
open PySem PySem.Spec PyProof.Rows L2
/-- go on as far as nothing is open -/
local macro_rules | `(tactic| walk_at "go") => `(tactic| repeat (first
  | with_reducible refine w_seq ?_ | with_reducible refine w_next ?_ | with_reducible refine w_set ?_ | with_reducible refine w_drop ?_ | with_reducible refine w_ret ?_ | with_reducible refine w_retN ?_
  | with_reducible refine w_if ?_ | ((with_reducible refine' w_var ?hv ?_); (case hv => exact rfl)) | with_reducible refine w_c ?_ | with_reducible refine w_nil ?_ | with_reducible refine w_cons ?_ | with_reducible refine w_op ?_ | with_reducible refine w_un ?_
  | with_reducible refine w_test ?_ | with_reducible refine w_tB ?_ | with_reducible refine w_not ?_ | with_reducible refine w_and ?_ | with_reducible refine w_or ?_ | with_reducible refine w_bl ?_
  | with_reducible refine w_andV ?_ | with_reducible refine w_orV ?_ | with_reducible refine w_notV ?_ | with_reducible refine w_ifE ?_ | with_reducible refine w_chain ?_ | with_reducible refine w_i0 ?_
  | with_reducible refine w_call ?_ | with_reducible refine w_callS ?_ | with_reducible refine w_cB ?_ | with_reducible refine w_tup ?_ | with_reducible refine w_lst ?_ | with_reducible refine w_fldV ?_
  | with_reducible refine w_neF ?_ | with_reducible refine w_neT ?_ | with_reducible refine w_notN ?_ | with_reducible refine w_isN ?_ | with_reducible refine w_gname ?_ | with_reducible refine w_gsub ?_ | with_reducible refine w_asg ?_ | with_reducible refine w_sl ?_ | with_reducible refine w_noP ?_ | with_reducible refine w_int1 ?_ | with_reducible refine w_part ?_ | with_reducible refine w_yes ?_ | with_reducible refine w_nT ?_ | with_reducible refine w_nF ?_ | with_reducible refine w_iteT ?_ | with_reducible refine w_iteF ?_))
namespace L2
open PySem PySem.Spec PyProof.Rows
/-- an empty set as it is made -/
abbrev bare0 (w : World) : Obj := { cls := .type "set", dict := none, data := .set #[] 0 (.fresh 0 0 (!w.params.followText "set-order")) }
section
variable {P : Program} {w : World} {A : Around} {E : Value → Shared → Prop} {s : Shared}
theorem no_obj {h : Heap} {b : Addr} (q : h.objs.size ≤ b) : h.get? b = none := by
  cases e : h.get? b with
  | none => rfl
  | some _ =>
    exact absurd (Nat.lt_of_lt_of_le (Heap.lt_size e) q) (Nat.lt_irrefl _)
set_option maxRecDepth 100000 in
set_option maxHeartbeats 3200000 in
/-- the filling of a new set from a tuple of tuples -/
theorem fill_tups {l : Addr} {items : Array Value} (ks : List (Addr × List Int)) (A0 : A.handled = none)
    (T : s.heap.IsTuple l items) (ei : items.toList = ks.map (fun p => Value.ref p.1))
    (ik : ∀ p, p ∈ ks → IsT P w s.heap p.2 p.1) (few : ks.length < 64) (room : A.units + 1 < cLine)
    {R : Result → Shared → Prop}
    (h : ∀ (h' : Heap) (tk : Nat) (L : List (Addr × List Int)) es ep t, SetTR P w h' s.heap.objs.size L es ep t → Got ks ks.length L →
      (∀ b o, s.heap.get? b = some o → h'.get? b = some o) → R (.ok (.ret Value.none)) { s with heap := h', toks := tk }) :
    codeAny (model P w) A (.builtin "set.update.loop" ⟨[.ref s.heap.objs.size, .ref (s.heap.objs.size + 1)], []⟩) R
      { s with heap := (s.heap.push (bare0 w)).push { cls := .type "tuple_iterator", data := .fields #[.ref l, .int 0 0] } } := by
  have n : items.size = ks.length := by rw [← Array.length_toList, ei, List.length_map]
  obtain ⟨ol, hol, _⟩ := id T
  have ls : l < s.heap.objs.size := Heap.lt_size hol
  have z1 : (s.heap.push (bare0 w)).objs.size = s.heap.objs.size + 1 := Heap.size_push ..
  have at0 : (s.heap.push (bare0 w)).get? s.heap.objs.size = some (bare0 w) := Heap.get?_push_size _ rfl
  have it0 : ((s.heap.push (bare0 w)).push { cls := .type "tuple_iterator", data := .fields #[.ref l, .int 0 0] }).get? (s.heap.objs.size + 1) = some { cls := .type "tuple_iterator", data := .fields #[.ref l, .int 0 0] } := by
    rw [← z1]
    exact Heap.get?_push_size _ rfl
  have hv : ∀ (i : Nat) (v : Value), items[i]? = some v → ∃ p, ks[i]? = some p ∧ v = Value.ref p.1 := by
    intro i v e
    rw [← Array.getElem?_toList, ei, List.getElem?_map] at e
    cases c : ks[i]? with
    | none => rw [c] at e; cases e
    | some p => rw [c] at e; exact ⟨p, rfl, (Option.some.inj e).symm⟩
  have out : s.heap.objs.size ∉ [s.heap.objs.size + 1, l] := by
    intro z
    rcases List.mem_cons.mp z with z | z
    · exact Nat.ne_of_lt (Nat.lt_succ_self _) z
    · exact Nat.ne_of_gt ls (List.mem_singleton.mp z)
  have W := (Walks.tuple (prog := P) (w := w) (A := A.in1) (by simpa using A0) (s.heap.objs.size + 1) l (Nat.ne_of_lt (Nat.lt_succ_of_lt ls)) items).toS
  refine set_update_tups W s.heap.objs.size out ks n few hv s.heap ik (no_obj (Nat.le_refl _)) ?_ (by simpa using room) items.size 0 _ (Nat.sub_zero _) (Nat.zero_le _) ?_ ?_ ?_ ?_
  · intro b hb
    rw [List.mem_singleton.mp hb]
    exact no_obj (Nat.le_succ _)
  · exact ⟨⟨_, it0, rfl, rfl⟩, (T.push _).push _⟩
  · exact fun b o e => Heap.get?_push_of_some _ (Heap.get?_push_of_some _ e)
  · exact ⟨[], #[], 0, _, setTR_fresh (Heap.get?_push_of_some _ at0), Got.zero ks⟩
  · intro s' L es ep t mv S1 g k
    have e : s' = { s with heap := s'.heap, toks := s'.toks } := by
      have a1 := mv.gens
      have a2 := mv.drawn
      have a3 := mv.os
      cases s'
      cases a1
      cases a2
      cases a3
      rfl
    rw [e]
    rw [n] at g
    exact h s'.heap s'.toks L es ep t S1 g k
set_option maxRecDepth 100000 in
set_option maxHeartbeats 3200000 in
/-- set(t), t a tuple of tuples of ints -/
theorem set_of_tuple {l : Addr} {items : Array Value} (ks : List (Addr × List Int)) {Q : Value → Shared → Prop} (A0 : A.handled = none)
    (T : s.heap.IsTuple l items) (ei : items.toList = ks.map (fun p => Value.ref p.1))
    (ik : ∀ p, p ∈ ks → IsT P w s.heap p.2 p.1) (few : ks.length < 64) (room : A.units + 4 < cLine)
    (h : ∀ (h' : Heap) (tk : Nat) (L : List (Addr × List Int)) es ep t, SetTR P w h' s.heap.objs.size L es ep t → Got ks ks.length L →
      (∀ b o, s.heap.get? b = some o → h'.get? b = some o) → Q (.ref s.heap.objs.size) { s with heap := h', toks := tk }) :
    wpAny (model P w) A (call (.type "set") [.ref l]) Q E s := by
  obtain ⟨mroC, mroT, mroE⟩ := F.called_set.mro
  have f1 := F.called_set.made
  have f2 := F.called_set.sub
  have f3 := F.called_set.notType
  have f4 := F.called_set.canCreate
  have f5 := F.typeCall_set_1 (.ref l)
  refine wpAny_call (codeAny_of_tree (wpAny_pure ⟨Code.quiet_builtin _ (by decide +kernel), codeAny_builtin F.entry_type_call ?_⟩))
  rw [Around.under_plain (weight_type_call_type "set" [.ref l] []) rfl]
  repeat (any_goals (first | assumption | wp_step))
  refine codeAny_mono (code_set_led1 (.ref l) (E := E) (Q₁ := fun v s1 => v = .ref s.heap.objs.size ∧ s1 = { s with heap := s.heap.push (bare0 w) }) ⟨rfl, rfl⟩) ?_
  intro r s1 hr
  match r, hr with
  | .error e, hr => exact hr
  | .ok (.ret v), hr =>
    obtain ⟨e1, e2⟩ := hr
    subst e1
    subst e2
    have g1 := F.called_set.init.lookup
    have g2 := F.called_set.init.bind (.ref s.heap.objs.size)
    have ty : Shared.TypeIs { s with heap := s.heap.push (bare0 w) } (.ref s.heap.objs.size) "set" := ⟨_, Heap.get?_push_size _ rfl, rfl⟩
    repeat (any_goals (first | assumption | wp_step))
    refine codeAny_mono (codeAny_call_builtin (R := wants (fun v s2 => v = .none ∧ ∃ h' tk, s2 = { s with heap := h', toks := tk } ∧ Q (.ref s.heap.objs.size) s2) E) F.called_set.init.plain F.entry_set_init (check_set_init_1 ty ?_)) ?_
    · obtain ⟨⟨oc, od, odt, osl⟩, o1, o2, on, o3⟩ := id T
      simp only at o2 o3
      subst o2
      subst o3
      have o4 : (s.heap.push (bare0 w)).get? l = some ⟨.type "tuple", od, .seq items on, osl⟩ := Heap.get?_push_of_some _ o1
      have k1 := F.sub_tuple_set
      have k2 := F.sub_tuple_frozenset
      have k3 : (Value.type "tuple" == Value.type "dict") = false := by decide
      unfold Builtin.«set.__init__» noKeywords Builtin.Frozenset.updateFrom
      generalize hI : pyIter = IT
      wp_walk
      subst hI
      refine wpAny_pyIter_tuple (T.push _) (wpAny_bind (wpAny_runValue ?_))
      have z1 : (s.heap.push (bare0 w)).objs.size = s.heap.objs.size + 1 := Heap.size_push ..
      rw [z1]
      refine fill_tups (s := s) ks (by simp [A0]) T ei ik few (by simp; omega) ?_
      intro h' tk L es ep t S1 g k
      refine wpAny_pure (wpAny_pure ⟨rfl, h', tk, rfl, h h' tk L es ep t S1 g k⟩)
    · intro r2 s2 hr2
      match r2, hr2 with
      | .error e, hr2 => exact hr2
      | .ok (.ret v), hr2 =>
        obtain ⟨e1, h', tk, e2, q⟩ := hr2
        subst e1
        subst e2
        repeat (any_goals (first | assumption | wp_step))
end
end L2
end C3_part
section C4_part
set_option Elab.async false
set_option linter.all false
set_option maxRecDepth 100000
set_option maxHeartbeats 1000000
set_option pp.deepTerms.threshold 5
open PySem PySem.Spec PyProof.Rows L2
/-- go on as far as nothing is open -/
local macro_rules | `(tactic| walk_at "go") => `(tactic| repeat (first
  | with_reducible refine w_seq ?_ | with_reducible refine w_next ?_ | with_reducible refine w_set ?_ | with_reducible refine w_drop ?_ | with_reducible refine w_ret ?_ | with_reducible refine w_retN ?_
  | with_reducible refine w_if ?_ | ((with_reducible refine' w_var ?hv ?_); (case hv => exact rfl)) | with_reducible refine w_c ?_ | with_reducible refine w_nil ?_ | with_reducible refine w_cons ?_ | with_reducible refine w_op ?_ | with_reducible refine w_un ?_
  | with_reducible refine w_test ?_ | with_reducible refine w_tB ?_ | with_reducible refine w_not ?_ | with_reducible refine w_and ?_ | with_reducible refine w_or ?_ | with_reducible refine w_bl ?_
  | with_reducible refine w_andV ?_ | with_reducible refine w_orV ?_ | with_reducible refine w_notV ?_ | with_reducible refine w_ifE ?_ | with_reducible refine w_chain ?_ | with_reducible refine w_i0 ?_
  | with_reducible refine w_call ?_ | with_reducible refine w_callS ?_ | with_reducible refine w_cB ?_ | with_reducible refine w_tup ?_ | with_reducible refine w_lst ?_ | with_reducible refine w_fldV ?_
  | with_reducible refine w_neF ?_ | with_reducible refine w_neT ?_ | with_reducible refine w_notN ?_ | with_reducible refine w_isN ?_ | with_reducible refine w_gname ?_ | with_reducible refine w_gsub ?_ | with_reducible refine w_asg ?_ | with_reducible refine w_sl ?_ | with_reducible refine w_noP ?_ | with_reducible refine w_int1 ?_ | with_reducible refine w_part ?_ | with_reducible refine w_yes ?_ | with_reducible refine w_nT ?_ | with_reducible refine w_nF ?_ | with_reducible refine w_iteT ?_ | with_reducible refine w_iteF ?_))
namespace L2
open PySem PySem.Spec PyProof.Rows
section
variable {X : Cx}
def rSetTT (K : PySem.W.Frag) (P : Program) (w : World) : List V → Hp → VK → Prop := fun xs H Q => ∃ (l : Addr) (ks : List (Addr × List Int)), xs = [V.ref l] ∧ SqT K H l (ks.map (fun p => V.ref p.1)) ∧ (∀ p, p ∈ ks → SqT K H p.1 (p.2.map V.int)) ∧ ks.length < 64 ∧
  ∀ a L, H a = none → (∀ p, p ∈ L → p ∈ ks) → (∀ p, p ∈ ks → p.2 ∈ L.map (·.2)) → Q (.ref a) (upd H a (SetTO P w a L))
theorem cr_setTT (hc : X.calm = true) (room : X.A.units + 64 < cLine) : CallR X (.type "set") (rSetTT X.K X.prog X.w) := by
  intro pins s σ H xs us Q I r ⟨l, ks, e, hl, hk, few, q⟩
  subst e
  rw [Vals.ref1 r]
  obtain ⟨its, rv, pl, _⟩ := I.tuple hl
  refine set_of_tuple ks (I.ok.hd hc) pl (by simpa using refs_of_vals rv) (fun p hp => I.isT (hk p hp)) few (by omega) ?_
  intro h' tk L es ep t S1 g k
  refine ⟨.ref s.heap.objs.size, _, I.laid (t' := tk) k (Nat.le_refl _) (setTO_new S1.t0), rfl, q _ L (I.hok.fresh (Nat.le_refl _)) ?_ ?_⟩
  · exact fun p hp => List.mem_of_mem_take (g.sub p hp)
  · intro p hp
    refine g.all p ?_
    rw [List.take_length]
    exact hp
end
end L2
namespace K3
/-! ### hidden cells -/
theorem cells_last (m n : Nat) : (cellsOf (m + 1) (n + 1)).dropLast = cellsOf m (n + 1) ++ rowCells n m := by
  unfold cellsOf
  rw [List.range_succ, List.flatMap_append, List.flatMap_cons, List.flatMap_nil, List.append_nil]
  unfold rowCells
  rw [List.range_succ, List.map_append, ← List.append_assoc]
  exact List.dropLast_concat
theorem cells_mem {m n : Nat} {c : Nat × Nat} : c ∈ cellsOf m n ↔ c.1 < m ∧ c.2 < n := by
  unfold cellsOf rowCells
  simp only [List.mem_flatMap, List.mem_range, List.mem_map]
  constructor
  · rintro ⟨a, ha, b, hb, rfl⟩
    exact ⟨ha, hb⟩
  · rintro ⟨h1, h2⟩
    exact ⟨c.1, h1, c.2, h2, rfl⟩
theorem drop_mem {m n : Nat} (m1 : 1 ≤ m) (n1 : 1 ≤ n) {c : Nat × Nat} (h : c ∈ (cellsOf m n).dropLast) : c.1 < m ∧ c.2 < n ∧ c ≠ (m - 1, n - 1) := by
  obtain ⟨m, rfl⟩ : ∃ k, m = k + 1 := ⟨m - 1, by omega⟩
  obtain ⟨n, rfl⟩ : ∃ k, n = k + 1 := ⟨n - 1, by omega⟩
  rw [cells_last] at h
  rcases List.mem_append.mp h with h | h
  · obtain ⟨h1, h2⟩ := cells_mem.mp h
    refine ⟨by omega, h2, fun z => ?_⟩
    rw [z] at h1
    simp at h1
  · unfold rowCells at h
    simp only [List.mem_map, List.mem_range] at h
    obtain ⟨b, hb, rfl⟩ := h
    refine ⟨by simp, by simp; omega, fun z => ?_⟩
    injection z with z1 z2
    simp at z2
    omega
/-- hidden cells, a list or a tuple of them -/
def HidIn (K : PySem.W.Frag) (H : Hp) (v : V) (hs : List (Nat × Nat)) (m n : Nat) : Prop :=
  ∃ p ws, v = .ref p ∧ (SqL K H p ws ∨ SqT K H p ws) ∧ Paired (CellAt H) ws hs ∧ (∀ h ∈ hs, h ∈ (cellsOf m n).dropLast) ∧ hs.length ≤ 60
def Srt (hs : List (Nat × Nat)) : Prop := hs.Pairwise fun a b => a.1 * 64 + a.2 < b.1 * 64 + b.2
theorem srt_of {m n : Nat} (hm : m ≤ 60) (hn : n ≤ 60) {hs : List (Nat × Nat)} (hb : ∀ c ∈ hs, c.1 < m ∧ c.2 < n) (nd : (hs.map fun c => [(c.1 : Int), (c.2 : Int)]).Nodup) (pw : (hs.map fun c => [(c.1 : Int), (c.2 : Int)]).Pairwise fun a b => TS.code 64 a ≤ TS.code 64 b) : Srt hs := by
  have h1 := List.pairwise_map.mp nd
  have h2 := List.pairwise_map.mp pw
  refine List.Pairwise.imp_of_mem ?_ (h1.and h2)
  intro a b ha hb' ⟨k1, k2⟩
  rw [code_pair, code_pair] at k2
  obtain ⟨x1, x2⟩ := hb a ha
  obtain ⟨y1, y2⟩ := hb b hb'
  by_cases z : a.1 = b.1 ∧ a.2 = b.2
  · exact absurd (by rw [z.1, z.2]) k1
  · omega
def spReadH (K : PySem.W.Frag) : Sp := fun vs H Q _ => ∃ (g : Addr) (v : V) (rs : List Addr) (t : List (List Int)) (m n : Nat) (hs : List (Nat × Nat)), vs = [.ref g, v] ∧ GT K H g rs t ∧ Rect t m n ∧ 1 ≤ m ∧ 1 ≤ n ∧ m ≤ 60 ∧ n ≤ 60 ∧ HidIn K H v hs m n ∧
  ∀ p' H' ws' hs', Same H H' → H' p' = some (.lst ws') → Paired (CellAt H') ws' hs' → (∀ c, c ∈ hs' ↔ c ∈ hs) → hs'.length ≤ 100 → Srt hs' → Q (.ref p') H'
theorem hid_keys {H : Hp} : ∀ {ws : List V} {hs : List (Nat × Nat)}, Paired (CellAt H) ws hs → ∃ ks : List (Addr × List Int), ws = ks.map (fun p => V.ref p.1) ∧ (∀ p ∈ ks, ∃ c ∈ hs, p.2 = [(c.1 : Int), (c.2 : Int)] ∧ H p.1 = some (.tup (p.2.map V.int))) ∧ (∀ c ∈ hs, ∃ p ∈ ks, p.2 = [(c.1 : Int), (c.2 : Int)]) ∧ ks.length = hs.length
  | _, _, .nil => ⟨[], rfl, fun p hp => (by cases hp), fun p hp => (by cases hp), rfl⟩
  | _, _, .cons (b := c) h t => by
    obtain ⟨ks, h1, h2, h3, h4⟩ := hid_keys t
    obtain ⟨a, rfl, ha⟩ := h
    refine ⟨(a, [(c.1 : Int), (c.2 : Int)]) :: ks, by rw [h1]; rfl, fun p hp => ?_, fun d hd => ?_, by simp [h4]⟩
    · rcases List.mem_cons.mp hp with rfl | hp
      · exact ⟨c, List.mem_cons_self .., rfl, ha⟩
      · obtain ⟨d, hd, k⟩ := h2 p hp
        exact ⟨d, List.mem_cons_of_mem _ hd, k⟩
    · rcases List.mem_cons.mp hd with rfl | hd
      · exact ⟨_, List.mem_cons_self .., rfl⟩
      · obtain ⟨p, hp, k⟩ := h3 d hd
        exact ⟨p, List.mem_cons_of_mem _ hp, k⟩
theorem keys_hid {H : Hp} {hs : List (Nat × Nat)} : ∀ {L : List (Addr × List Int)}, (∀ p ∈ L, ∃ c ∈ hs, p.2 = [(c.1 : Int), (c.2 : Int)] ∧ H p.1 = some (.tup (p.2.map V.int))) → ∃ hs', Paired (CellAt H) (L.map fun q => V.ref q.1) hs' ∧ (∀ c, c ∈ hs' ↔ c ∈ hs ∧ [(c.1 : Int), (c.2 : Int)] ∈ L.map (·.2)) ∧ hs'.length = L.length ∧ hs'.map (fun c => [(c.1 : Int), (c.2 : Int)]) = L.map (·.2)
  | [], _ => ⟨[], .nil, fun c => by simp, rfl, rfl⟩
  | p :: L, h => by
    obtain ⟨hs', h1, h2, h3, h4⟩ := keys_hid (L := L) fun q hq => h q (List.mem_cons_of_mem _ hq)
    obtain ⟨c, hc, e, ha⟩ := h p (List.mem_cons_self ..)
    rw [e] at ha
    refine ⟨c :: hs', .cons ⟨_, rfl, ha⟩ h1, fun d => ?_, by simp [h3], by rw [List.map_cons, List.map_cons, h4, e]⟩
    rw [List.mem_cons, h2, List.map_cons, List.mem_cons, e]
    constructor
    · rintro (rfl | ⟨a, b⟩)
      · exact ⟨hc, .inl rfl⟩
      · exact ⟨a, .inr b⟩
    · rintro ⟨a, b | b⟩
      · refine .inl ?_
        obtain ⟨d1, d2⟩ := d
        obtain ⟨c1, c2⟩ := c
        simp at b
        obtain ⟨b1, b2⟩ := b
        obtain rfl : d1 = c1 := by omega
        obtain rfl : d2 = c2 := by omega
        rfl
      · exact .inr ⟨a, b⟩
theorem cell_eqv (a b : Nat × Nat) : PyData.eqv (cellD a) (cellD b) = decide (a = b) := by
  unfold cellD
  obtain ⟨a1, a2⟩ := a
  obtain ⟨b1, b2⟩ := b
  rw [Bool.eq_iff_iff]
  simp [PyData.eqv, PyData.eqvAll]
  omega
theorem cell_shaped (c : Nat × Nat) : SeqAt.shaped (cellD c) = true := by
  unfold SeqAt.shaped cellD
  simp [PyData.canLay0, PyData.canLayAll0, PyData.depth, PyData.depthAll]
def tbRead (K : PySem.W.Frag) : TS := tSeq (tDrop (tCall (spRefuse K) [] E0 (tCons (tVar 0) (tCons (tVar 2) tNil)))) (tIfS (tTest (tOp (rEqD K) (tVar 2) (tCall (spLast K) [] E0 (tCons (tVar 0) tNil)))) (fun _ _ _ => False) tNext)
section
variable {P : Program} {w : World} {K : PySem.W.Frag} {mg : Str → Option Value} {base : Heap}
theorem sc_read_hidden : FnScope ["grid", "hidden", "cell"] ["grid", "hidden"] (defScope s_read_hidden) := ⟨rfl, rfl, rfl, by decide +kernel, rfl, by decide +kernel, by decide +kernel⟩
theorem ok_read_hidden (T : Tx K mg) : Ok P w K mg base 2 (He.ga K "read_hidden") ["grid", "hidden"] (spReadH K) := by
  obtain ⟨fd, F⟩ := T.f_read_hidden
  have Orefuse_no_cell := ok_refuse_no_cell (P := P) (w := w) (base := base) T
  have Olast_cell := ok_last_cell (P := P) (w := w) (base := base) T
  refine ⟨fd, F.ok (k := 1) sc_read_hidden (fun vs H Q E h => ?_) (fun cdv A outer s' H vs Q E hr h => ?_), F.bindsN fun _ _ _ _ _ _ us hl => match us, hl with | [_, _], _ => rfl, F.kp⟩
  · obtain ⟨g, v, rs, t, m, n, hs, rfl, _⟩ := h
    rfl
  obtain ⟨g, v, rs, t, m, n, hs, rfl, ht, hR, m1, n1, m2, n2, ⟨p, ws, rfl, hp, hw, hmem, hlen⟩, q⟩ := h
  have rrefuse_no_cell : Room 1 _ := hr
  have rlast_cell : Room 1 _ := hr
  have hu65 := K3.Room.units65 hr
  have hu64 := Nat.lt_of_succ_lt hu65
  refine ⟨_, pss_cons (ps_for (passes_of rfl) rfl (pi_or (pi_list (pv 1)) (pi_tup (pv 1))) (pg_name (i := 2) sc_read_hidden.nd rfl (Or.inl rfl)) (pss_cons (ps_expr (pe_f Orefuse_no_cell rrefuse_no_cell T.g_refuse_no_cell (pa_cons (pv 0) (pa_cons (pv 2) pa_nil))))
      (pss_one (ps_if (pt_cmpR (op_eqD hu64) (pv 2) (pe_f Olast_cell rlast_cell T.g_last_cell (pa_cons (pv 0) pa_nil)) (nomark _)) (pss_one ps_dead) pss_nil))))
      (pss_one (ps_ret (pe_callB (cr_sortedT (by rfl)) (by rfl) T.z_sorted (by decide +kernel) (pa_cons (pe_callTy (cr_or (cr_setOfT (by rfl) hu64) (cr_setTT (by rfl) hu64)) (by rfl) T.z_set (by decide +kernel) (pa_cons (pv 1) pa_nil)) pa_nil)))), ?_⟩
  walk_at "go"
  have hstep : ∀ (D : L2.Ends) (i : Nat) (x : V) (σ : L2.St) (H1 H2 : Hp), i < ws.length → (∃ o2 : Option V, σ = [some (.ref g), some (.ref p), o2] ∧ Same H H1) → YAt ws i H1 x H2 → gName 2 x σ H2 fun σ2 H3 => tbRead K { D with nx := fun σ H1 => ∃ o2 : Option V, σ = [some (.ref g), some (.ref p), o2] ∧ Same H H1, ct := fun σ H1 => ∃ o2 : Option V, σ = [some (.ref g), some (.ref p), o2] ∧ Same H H1, bk := D.nx } σ2 H3 := by
    rintro D i x σ H1 H2 hi ⟨o2, rfl, e1⟩ ⟨rfl, hx⟩
    obtain ⟨c, hc, hxc⟩ := K3.Paired.get hw hx
    obtain ⟨c1, c2, c3⟩ := drop_mem m1 n1 (hmem c (List.mem_of_getElem? hc))
    walk_at "go"
    unfold tbRead
    walk_at "go"
    refine ⟨g, x, rs, t, m, n, c.1, c.2, rfl, ht.same e1, hR, hxc.same e1, c1, c2, ?_⟩
    walk_at "go"
    refine ⟨g, rs, t, m, n, rfl, ht.same e1, hR, m1, n1, fun a H3 e3 ha => ?_⟩
    refine ⟨cellD c, cellD (m - 1, n - 1), cell_dp ((hxc.same e1).same e3), cell_dp ha, cell_shaped _, cell_shaped _, ?_⟩
    rw [cell_eqv, decide_eq_false c3]
    walk_at "go"
    exact ⟨_, rfl, e1.trans e3⟩
  have fin : ∀ (o2 : Option V) (H1 : Hp) (D : L2.Ends), D.rt = Q → Same H H1 → tRet (tCB (rSortedT K P w) (tCons (tCB (fun xs H Q => rSetOfT K P w xs H Q ∨ rSetTT K P w xs H Q) (tCons (tVar 1) tNil)) tNil)) D [some (.ref g), some (.ref p), o2] H1 := by
    intro o2 H1 D eD e1
    have hw1 := L2.Paired.mapP hw fun _ _ z => z.same e1
    obtain ⟨ks, k1, k2, k3, k4⟩ := hid_keys hw1
    have hk : ∀ p ∈ ks, SqT K H1 p.1 (p.2.map V.int) := fun p hp => by
      obtain ⟨c, _, _, ha⟩ := k2 p hp
      exact SqT.of ha
    have rest : ∀ a L, H1 a = none → (∀ p ∈ L, p ∈ ks) → (∀ p ∈ ks, p.2 ∈ L.map (·.2)) → rSortedT K P w [.ref a] (upd H1 a (SetTO P w a L)) D.rt := by
      intro a L ha hs1 hs2
      have e2 := Same.new ha (SetTO P w a L)
      have kb : ∀ p ∈ L, ∃ c ∈ hs, p.2 = [(c.1 : Int), (c.2 : Int)] ∧ H1 p.1 = some (.tup (p.2.map V.int)) := fun p hp => k2 p (hs1 p hp)
      refine ⟨a, L, 2, 64, rfl, upd_same, fun p hp => e2.sqt (hk p (hs1 p hp)), by decide, fun p hp => ?_, fun L' p' pm nd few pw hp' => ?_⟩
      · obtain ⟨c, hc, e, _⟩ := kb p hp
        obtain ⟨c1, c2, _⟩ := drop_mem m1 n1 (hmem c hc)
        rw [e]
        refine ⟨rfl, fun z hz => ?_⟩
        simp only [List.mem_cons, List.not_mem_nil, or_false] at hz
        rcases hz with rfl | rfl <;> omega
      · have e3 := Same.new hp' (.lst (L'.map fun q => V.ref q.1))
        have e23 := e2.trans e3
        obtain ⟨hs', h1, h2, h3, h4⟩ := keys_hid (H := upd (upd H1 a (SetTO P w a L)) p' (.lst (L'.map fun q => V.ref q.1))) (hs := hs) (L := L') fun q hq => by
          obtain ⟨c, hc, e, hx⟩ := kb q (pm.mem_iff.mp hq)
          exact ⟨c, hc, e, e23 _ _ hx⟩
        rw [eD]
        refine q p' _ _ hs' (e1.trans e23) upd_same h1 (fun c => ?_) (by omega) (srt_of m2 n2 (fun c hc => ⟨(drop_mem m1 n1 (hmem c ((h2 c).mp hc).1)).1, (drop_mem m1 n1 (hmem c ((h2 c).mp hc).1)).2.1⟩) (by rw [h4]; exact nd) (by rw [h4]; exact List.pairwise_map.mpr pw))
        rw [h2]
        refine ⟨fun z => z.1, fun z => ⟨z, ?_⟩⟩
        obtain ⟨x, hx, e⟩ := k3 c z
        rw [← e, (pm.map (·.2)).mem_iff]
        exact hs2 x hx
    walk_at "go"
    rcases hp with hp | hp
    · refine .inl ⟨_, ks, rfl, by rw [← k1]; exact e1.seq hp, hk, by omega, fun a L ha h1 h2 => ?_⟩
      walk_at "go"
      exact rest a L ha h1 h2
    · refine .inr ⟨_, ks, rfl, by rw [← k1]; exact e1.sqt hp, hk, by omega, fun a L ha h1 h2 => ?_⟩
      walk_at "go"
      exact rest a L ha h1 h2
  rcases hp with hp' | hp'
  · refine Or.inl ⟨_, rfl, p, rfl, ⟨ws, hp'⟩, ?_⟩
    refine for_it walk_list (fun _ σ H1 => ∃ o2 : Option V, σ = [some (.ref g), some (.ref p), o2] ∧ Same H H1) ⟨none, rfl, Same.refl _⟩ (fun i σ H1 _ ⟨_, _, e⟩ => e.seq hp') (hstep _) ?_
    rintro σ H1 ⟨o2, rfl, e1⟩
    exact fin o2 H1 _ rfl e1
  · refine Or.inr ⟨_, rfl, p, rfl, ⟨ws, hp'⟩, ?_⟩
    refine for_it walk_tup (fun _ σ H1 => ∃ o2 : Option V, σ = [some (.ref g), some (.ref p), o2] ∧ Same H H1) ⟨none, rfl, Same.refl _⟩ (fun i σ H1 _ ⟨_, _, e⟩ => e.sqt hp') (hstep _) ?_
    rintro σ H1 ⟨o2, rfl, e1⟩
    exact fin o2 H1 _ rfl e1
end
end K3
end C4_part
section C5_part
set_option Elab.async false
set_option linter.all false
set_option maxRecDepth 100000
set_option maxHeartbeats 1000000
set_option pp.deepTerms.threshold 5
open PySem PySem.Spec PyProof.Rows L2
/-- go on as far as nothing is open -/
local macro_rules | `(tactic| walk_at "go") => `(tactic| repeat (first
  | with_reducible refine w_seq ?_ | with_reducible refine w_next ?_ | with_reducible refine w_set ?_ | with_reducible refine w_drop ?_ | with_reducible refine w_ret ?_ | with_reducible refine w_retN ?_
  | with_reducible refine w_if ?_ | ((with_reducible refine' w_var ?hv ?_); (case hv => exact rfl)) | with_reducible refine w_c ?_ | with_reducible refine w_nil ?_ | with_reducible refine w_cons ?_ | with_reducible refine w_op ?_ | with_reducible refine w_un ?_
  | with_reducible refine w_test ?_ | with_reducible refine w_tB ?_ | with_reducible refine w_not ?_ | with_reducible refine w_and ?_ | with_reducible refine w_or ?_ | with_reducible refine w_bl ?_
  | with_reducible refine w_andV ?_ | with_reducible refine w_orV ?_ | with_reducible refine w_notV ?_ | with_reducible refine w_ifE ?_ | with_reducible refine w_chain ?_ | with_reducible refine w_i0 ?_
  | with_reducible refine w_call ?_ | with_reducible refine w_callS ?_ | with_reducible refine w_cB ?_ | with_reducible refine w_tup ?_ | with_reducible refine w_lst ?_ | with_reducible refine w_fldV ?_
  | with_reducible refine w_neF ?_ | with_reducible refine w_neT ?_ | with_reducible refine w_notN ?_ | with_reducible refine w_isN ?_ | with_reducible refine w_gname ?_ | with_reducible refine w_gsub ?_ | with_reducible refine w_asg ?_ | with_reducible refine w_sl ?_ | with_reducible refine w_noP ?_ | with_reducible refine w_int1 ?_ | with_reducible refine w_part ?_ | with_reducible refine w_yes ?_ | with_reducible refine w_nT ?_ | with_reducible refine w_nF ?_ | with_reducible refine w_iteT ?_ | with_reducible refine w_iteF ?_))
namespace L2
open PySem PySem.Spec PyProof.Rows
def LcAt (J : It) (D : Addr) (g : TG) (tt : TT) (te : TE) (vs : List Nat) (σ : L2.St) (H1 : Hp) (Qd : Hp → Prop) : Prop :=
  ∃ W : Nat → Nat → Hp → Prop, (∃ m, W 0 m (upd H1 D (.lst []))) ∧ ∀ i m H, W i m H →
    (J.stop i H ∧ Qd H) ∨ (J.go i H ∧ ∃ Nx : Hp → Prop, (∀ H', Nx H' → ∃ m', m' < m ∧ W (i + 1) m' H') ∧ ∀ x H', J.yld i H x H' → g x (wipe σ vs) H' fun σ2 H2 =>
      wipe σ2 vs = wipe σ vs ∧ tt σ2 H2 fun b H3 => if b = true then te σ2 H3 fun y H4 => ∃ acc, H4 D = some (.lst acc) ∧ acc.length < sizeLine ∧ Nx (upd H4 D (.lst (acc ++ [y]))) else Nx H3)
/-- a comprehension over items of which something is known: each gives a value of its own -/
theorem items_at {K : PySem.W.Frag} {α : Type} {F : Hp → V → α → Prop} (mono : ∀ {H H' : Hp} {v : V} {y : α}, Same H H' → F H v y → F H' v y) {a D : Addr} {xs : List V} {ys : List α} {te : TE} {vs : List Nat} {σ : L2.St} {j : Nat} {H1 : Hp} {Qd : Hp → Prop} (f : α → V)
    (hs : SqL K H1 a xs) (hp : Paired (F H1) xs ys) (hD : H1 D = none) (hlen : xs.length ≤ 10000) (hw : ∀ x, wipe ((wipe σ vs).set j (some x)) vs = wipe σ vs)
    (he : ∀ (v : V) (y : α) (H' : Hp), Same H1 H' → y ∈ ys → F H' v y → ∀ Q : VK, (∀ H'', Same H' H'' → Q (f y) H'') → te ((wipe σ vs).set j (some v)) H' Q)
    (hd : ∀ H', Same H1 H' → H' D = some (.lst (ys.map f)) → Qd H') : LcAt (Itl K a) D (gName j) tYes te vs σ H1 Qd := by
  refine lc_list (xs := xs) (fun i H' => Same H1 H' ∧ H' D = some (.lst ((ys.take i).map f))) ⟨Same.new hD _, upd_same⟩ (fun i H' _ z => z.1.seq hs) ?_ ?_
  · rintro i x H2 hx ⟨e2, hD2⟩
    obtain ⟨y, hy, hF⟩ := K3.Paired.get hp hx
    refine ⟨hw x, ?_⟩
    refine w_yes ?_
    refine iteT ?_
    refine he x y H2 e2 (List.mem_of_getElem? hy) (mono e2 hF) _ fun H3 e3 => ?_
    refine ⟨_, e3 _ _ hD2, ?_, (e2.trans e3).mut hD, ?_⟩
    · refine Nat.lt_of_le_of_lt (show _ ≤ 10000 from ?_) (by decide)
      rw [List.length_map, List.length_take, ← hp.length]
      omega
    · rw [upd_same, List.take_add_one, hy, List.map_append]
      rfl
  · rintro H2 ⟨e2, hD2⟩
    refine hd H2 e2 ?_
    rw [hD2, hp.length, List.take_length]
/-- .. those that pass a test are kept -/
theorem items_keep {K : PySem.W.Frag} {α : Type} {F : Hp → V → α → Prop} (mono : ∀ {H H' : Hp} {v : V} {y : α}, Same H H' → F H v y → F H' v y) {a D : Addr} {xs : List V} {ys : List α} {tt : TT} {te : TE} {vs : List Nat} {σ : L2.St} {j : Nat} {H1 : Hp} {Qd : Hp → Prop} (b : α → Bool)
    (hs : SqL K H1 a xs) (hp : Paired (F H1) xs ys) (hD : H1 D = none) (hlen : xs.length ≤ 10000) (hw : ∀ x, wipe ((wipe σ vs).set j (some x)) vs = wipe σ vs)
    (ht : ∀ (v : V) (y : α) (H' : Hp), Same H1 H' → y ∈ ys → F H' v y → ∀ Q : Bool → Hp → Prop, (∀ H'', Same H' H'' → Q (b y) H'') → tt ((wipe σ vs).set j (some v)) H' Q)
    (he : ∀ (v : V) (H' : Hp) (Q : VK), Q v H' → te ((wipe σ vs).set j (some v)) H' Q)
    (hd : ∀ H' zs, Same H1 H' → H' D = some (.lst zs) → Paired (F H') zs (ys.filter b) → Qd H') : LcAt (Itl K a) D (gName j) tt te vs σ H1 Qd := by
  refine lc_list (xs := xs) (fun i H' => Same H1 H' ∧ ∃ zs, H' D = some (.lst zs) ∧ Paired (F H1) zs ((ys.take i).filter b)) ⟨Same.new hD _, [], upd_same, .nil⟩ (fun i H' _ z => z.1.seq hs) ?_ ?_
  · rintro i x H2 hx ⟨e2, zs, hD2, hp2⟩
    obtain ⟨y, hy, hF⟩ := K3.Paired.get hp hx
    refine ⟨hw x, ?_⟩
    refine ht x y H2 e2 (List.mem_of_getElem? hy) (mono e2 hF) _ fun H3 e3 => ?_
    have hD3 := e3 _ _ hD2
    have hl : (ys.take (i + 1)).filter b = (ys.take i).filter b ++ (if b y = true then [y] else []) := by
      rw [List.take_add_one, hy, List.filter_append]
      congr 1
      cases hb : b y <;> simp [hb]
    cases hb : b y with
    | true =>
      rw [hb] at hl
      refine iteT ?_
      refine he x H3 _ ?_
      refine ⟨zs, hD3, ?_, (e2.trans e3).mut hD, zs ++ [x], upd_same, ?_⟩
      · refine Nat.lt_of_le_of_lt (show _ ≤ 10000 from ?_) (by decide)
        rw [hp2.length]
        refine Nat.le_trans (List.length_filter_le _ _) ?_
        rw [List.length_take, ← hp.length]
        omega
      · rw [hl, if_pos rfl]
        exact K3.Paired.app hp2 (.cons hF .nil)
    | false =>
      rw [hb] at hl
      refine iteF ?_
      refine ⟨e2.trans e3, zs, hD3, ?_⟩
      rw [hl, if_neg (by decide), List.append_nil]
      exact hp2
  · rintro H2 ⟨e2, zs, hD2, hp2⟩
    rw [hp.length, List.take_length] at hp2
    exact hd H2 zs e2 hD2 (L2.Paired.mapP hp2 fun _ _ z => mono e2 z)
theorem lcAt_open {wi : TI} {g : TG} {tt : TT} {te : TE} {vs : List Nat} {σ : L2.St} {H : Hp} {Q : VK} (h : wi σ H fun J H1 => ∀ D, H1 D = none → LcAt J D g tt te vs σ H1 (Q (.ref D))) : tLc wi g tt te vs σ H Q := h
end L2
namespace K3
def RowV (H : Hp) (v : V) (r : List Int) : Prop := ∃ a, v = .ref a ∧ H a = some (.lst (r.map V.int))
theorem RowV.same {H H' : Hp} (e : Same H H') {v : V} {r : List Int} (h : RowV H v r) : RowV H' v r := let ⟨a, h1, h2⟩ := h; ⟨a, h1, e _ _ h2⟩
theorem rowV_of {H : Hp} : ∀ {rs : List Addr} {t : List (List Int)}, Paired (RowAt H) rs t → Paired (RowV H) (rs.map V.ref) t
  | _, _, .nil => .nil
  | _, _, .cons h t => .cons ⟨_, rfl, h⟩ (rowV_of t)
theorem CellAt.muts {H : Hp} {v : V} {c : Nat × Nat} {p : Addr} {zs ws : List V} (hp : H p = some (.lst zs)) (h : CellAt H v c) : CellAt (upd H p (.lst ws)) v c := by
  obtain ⟨a, h1, h2⟩ := h
  exact ⟨a, h1, by rw [upd_ne (fun z => by rw [z, hp] at h2; cases h2)]; exact h2⟩
theorem rows_at {K : PySem.W.Frag} {a D : Addr} {rs : List Addr} {t : List (List Int)} {te : TE} {vs : List Nat} {σ : L2.St} {j : Nat} {H1 : Hp} {Qd : Hp → Prop} (f : List Int → V) (ht : Tab H1 a rs t) (hlen : t.length ≤ 10000) (hD : H1 D = none) (hw : ∀ x, wipe ((wipe σ vs).set j (some x)) vs = wipe σ vs)
    (he : ∀ (b : Addr) (r : List Int) (H' : Hp), Same H1 H' → r ∈ t → RowAt H' b r → ∀ Q : VK, (∀ H'', Same H' H'' → Q (f r) H'') → te ((wipe σ vs).set j (some (.ref b))) H' Q)
    (hd : ∀ H', Same H1 H' → H' D = some (.lst (t.map f)) → Qd H') : LcAt (Itl K a) D (gName j) tYes te vs σ H1 Qd := by
  refine items_at (F := RowV) (fun e h => RowV.same e h) f (SqL.of ht.at_) (rowV_of ht.rows) hD (by rw [List.length_map, ht.rows.length]; exact hlen) hw ?_ hd
  rintro v r H' e1 hr ⟨b, rfl, hb⟩ Q q
  exact he b r H' e1 hr hb Q q
theorem rows_keep {K : PySem.W.Frag} {a D : Addr} {rs : List Addr} {t : List (List Int)} {tt : TT} {te : TE} {vs : List Nat} {σ : L2.St} {j : Nat} {H1 : Hp} {Qd : Hp → Prop} (b : List Int → Bool) (ht : Tab H1 a rs t) (hlen : t.length ≤ 10000) (hD : H1 D = none) (hw : ∀ x, wipe ((wipe σ vs).set j (some x)) vs = wipe σ vs)
    (htt : ∀ (c : Addr) (r : List Int) (H' : Hp), Same H1 H' → r ∈ t → RowAt H' c r → ∀ Q : Bool → Hp → Prop, (∀ H'', Same H' H'' → Q (b r) H'') → tt ((wipe σ vs).set j (some (.ref c))) H' Q)
    (he : ∀ (v : V) (H' : Hp) (Q : VK), Q v H' → te ((wipe σ vs).set j (some v)) H' Q)
    (hd : ∀ H' zs, Same H1 H' → H' D = some (.lst zs) → Paired (RowV H') zs (t.filter b) → Qd H') : LcAt (Itl K a) D (gName j) tt te vs σ H1 Qd := by
  refine items_keep (F := RowV) (fun e h => RowV.same e h) b (SqL.of ht.at_) (rowV_of ht.rows) hD (by rw [List.length_map, ht.rows.length]; exact hlen) hw ?_ he hd
  rintro v r H' e1 hr ⟨c, rfl, hc⟩ Q q
  exact htt c r H' e1 hr hc Q q
theorem ints_dp {K : PySem.W.Frag} {H : Hp} : ∀ {xs : List Int}, DpAll K H (xs.map V.int) (xs.map PyData.int)
  | [] => .nil
  | x :: xs => .cons (.int x) ints_dp
theorem lst_dp {K : PySem.W.Frag} {H : Hp} {p : Addr} {xs : List Int} (h : H p = some (.lst (xs.map V.int))) : Dp K H (.ref p) (.list (xs.map PyData.int)) := .lst (SqL.of h) ints_dp
theorem eqvAll_ints : ∀ (a b : List Int), PyData.eqvAll (a.map PyData.int) (b.map PyData.int) = decide (a = b)
  | [], [] => rfl
  | [], b :: bs => rfl
  | a :: as, [] => rfl
  | a :: as, b :: bs => by
    simp only [List.map_cons, PyData.eqvAll, PyData.eqv, eqvAll_ints as bs]
    rw [Bool.eq_iff_iff]
    simp
theorem lay_ints : ∀ xs : List Int, PyData.canLayAll0 (xs.map PyData.int) = true ∧ PyData.depthAll (xs.map PyData.int) ≤ 1
  | [] => by simp [PyData.canLayAll0, PyData.depthAll]
  | x :: xs => by
    obtain ⟨a, b⟩ := lay_ints xs
    simp only [List.map_cons, PyData.canLayAll0, PyData.depthAll, PyData.canLay0, PyData.depth]
    exact ⟨by rw [a]; rfl, by omega⟩
theorem shaped_ints (xs : List Int) : SeqAt.shaped (.list (xs.map PyData.int)) = true := by
  obtain ⟨a, b⟩ := lay_ints xs
  have d : (PyData.list (xs.map PyData.int)).depth ≤ 64 := by
    simp only [PyData.depth]
    omega
  unfold SeqAt.shaped
  rw [decide_eq_true d]
  simp only [PyData.canLay0, a, Bool.true_and]
def spWide (K : PySem.W.Frag) : Sp := fun vs H Q _ => ∃ (g p : Addr) (rs rs' : List Addr) (t u : List (List Int)), vs = [.ref g, .ref p] ∧ GT K H g rs t ∧ GT K H p rs' u ∧ t.length ≤ 100 ∧ u.length ≤ 100 ∧ ∀ H', Same H H' → Q (.bl (decide (u.map List.length = t.map List.length))) H'
theorem lens_inj {a b : List (List Int)} : ((a.map fun r => (r.length : Int)) = b.map fun r => (r.length : Int)) ↔ a.map List.length = b.map List.length := by
  induction a generalizing b with
  | nil => cases b <;> simp
  | cons x a ih =>
    cases b with
    | nil => simp
    | cons y b =>
      simp only [List.map_cons, List.cons.injEq]
      rw [ih]
      constructor
      · rintro ⟨h1, h2⟩; exact ⟨by omega, h2⟩
      · rintro ⟨h1, h2⟩; exact ⟨by omega, h2⟩
def RightCol (u : List (List Int)) (c : Nat) : Prop := (colOf u c).getLastD 0 = (colOf u c).dropLast.sum
def Right (u : List (List Int)) (n : Nat) : Prop := (∀ r ∈ u, r.getLastD 0 = r.dropLast.sum) ∧ ∀ c < n, RightCol u c
def spRight (K : PySem.W.Frag) : Sp := fun vs H Q _ => ∃ (p : Addr) (rs : List Addr) (u : List (List Int)) (m n : Nat), vs = [.ref p] ∧ GT K H p rs u ∧ Rect u m n ∧ 1 ≤ m ∧ 1 ≤ n ∧ m ≤ 100 ∧ n ≤ 100 ∧ ∀ b H', Same H H' → (b = true ↔ Right u n) → Q (.bl b) H'
def rSlE (K : PySem.W.Frag) : V → Option Int → Option Int → Hp → VK → Prop := fun x lo hi H Q => rSlL K x lo hi H Q ∨ rSlT K x lo hi H Q
theorem sl_e {X : Cx} : SlR X (rSlE X.K) := SlR.or sl_list sl_tup
theorem w_slLast {K : PySem.W.Frag} {H : Hp} {a : Addr} {xs : List V} {Q : VK} (h : SqE K H a xs) (ne : xs ≠ []) (q : ∀ p H', H p = none → Same H H' → SqE K H' p xs.dropLast → Q (.ref p) H') : rSlE K (.ref a) none (some (-1)) H Q := by
  rcases h.either with h | h
  · refine .inl ⟨a, xs, rfl, h, fun p hp => q p _ hp (Same.new hp _) ?_⟩
    rw [cut_last]
    exact .lst upd_same
  · refine .inr ⟨a, xs, rfl, h, fun z => ?_, fun p hp => q p _ hp (Same.new hp _) ?_⟩
    · have l : 0 < xs.length := List.length_pos_iff.mpr ne
      have z := z.2
      unfold HT.sIx at z
      simp at z
      omega
    · rw [cut_last]
      exact .tup upd_same
theorem at_last {r : List Int} (h : r ≠ []) : atI (r.map V.int) (-1) = some (.int (r.getLastD 0)) := by
  obtain ⟨xs, x, rfl⟩ : ∃ xs x, r = xs ++ [x] := ⟨r.dropLast, r.getLast h, (List.dropLast_concat_getLast h).symm⟩
  rw [List.map_append, List.getLastD_concat]
  exact atI_last _ _
section
variable {P : Program} {w : World} {K : PySem.W.Frag} {mg : Str → Option Value} {base : Heap}
theorem sc_is_as_wide : FnScope ["grid", "table", "row"] ["grid", "table"] (defScope s_is_as_wide) := ⟨rfl, rfl, rfl, by decide +kernel, rfl, by decide +kernel, by decide +kernel⟩
theorem ok_is_as_wide (T : Tx K mg) : Ok P w K mg base 1 (He.ga K "is_as_wide") ["grid", "table"] (spWide K) := by
  obtain ⟨fd, F⟩ := T.f_is_as_wide
  refine ⟨fd, F.ok (k := 0) sc_is_as_wide (fun vs H Q E h => ?_) (fun cdv A outer s_ H vs Q E hr h => ?_), F.bindsN fun _ _ _ _ _ _ us hl => match us, hl with | [_, _], _ => rfl, F.kp⟩
  · obtain ⟨g, p, rs, rs', t, u, rfl, ht, hu, ht1, hu1, q⟩ := h
    rfl
  obtain ⟨g, p, rs, rs', t, u, rfl, ht, hu, ht1, hu1, q⟩ := h
  have hu65 := K3.Room.units65 hr
  have hu64 := Nat.lt_of_succ_lt hu65
  have hu0 := Nat.lt_of_le_of_lt (Nat.le_add_right _ 65) hu65
  refine ⟨_, pss_one (ps_ret (pe_cmpR (op_eqD hu64) (by exact pe_lc (own := [("row", 2)]) (g := gName 2) (tt := tYes) (te := (tCB (fun xs H Q => ∃ p ys, xs = [V.ref p] ∧ (SqL K H p ys ∨ SqT K H p ys) ∧ Q (.int ys.length) H) (tCons (tVar 2) tNil))) (by rfl) sc_is_as_wide.nd (pi_seq (pv 1)) (blkOk_by (own := [("row", 2)]) (N := ["grid", "table", "row"]) (sc := defScope s_is_as_wide) (by decide +kernel)) (fun _ _ _ _ _ => (pg_name (i := 2) sc_is_as_wide.nd rfl (Or.inl rfl))) (fun _ _ _ _ _ => pts_nil) (fun _ _ _ _ _ => (pe_callB call_len_seq (by rfl) T.z_len PySem.boot_len (pa_cons (pv 2) pa_nil)))) (by exact pe_lc (own := [("row", 2)]) (g := gName 2) (tt := tYes) (te := (tCB (fun xs H Q => ∃ p ys, xs = [V.ref p] ∧ (SqL K H p ys ∨ SqT K H p ys) ∧ Q (.int ys.length) H) (tCons (tVar 2) tNil))) (by rfl) sc_is_as_wide.nd (pi_seq (pv 0)) (blkOk_by (own := [("row", 2)]) (N := ["grid", "table", "row"]) (sc := defScope s_is_as_wide) (by decide +kernel)) (fun _ _ _ _ _ => (pg_name (i := 2) sc_is_as_wide.nd rfl (Or.inl rfl))) (fun _ _ _ _ _ => pts_nil) (fun _ _ _ _ _ => (pe_callB call_len_seq (by rfl) T.z_len PySem.boot_len (pa_cons (pv 2) pa_nil)))) rfl)), ?_⟩
  have lt := ht.rows.length
  have lu := hu.rows.length
  walk_at "go"
  refine lcAt_open ?_
  refine seqI_open ?_
  walk_at "go"
  obtain ⟨bu, hub⟩ := hu.at_
  obtain ⟨bt, htb⟩ := ht.at_
  refine ⟨p, bu, rfl, ⟨_, hub⟩, fun D hD => ?_⟩
  refine items_atE (F := RowE K) (fun e h => RowE.same e h) (fun r => .int r.length) hub (rowE_of hu.rows) hD (by rw [List.length_map]; omega) (fun x => rfl) ?_ ?_
  · rintro v r H1 e1 hr ⟨a, rfl, ha⟩ Q q
    walk_at "go"
    refine ⟨a, _, rfl, ha.either, ?_⟩
    rw [List.length_map]
    exact q H1 (Same.refl _)
  · intro H1 e1 hD1
    walk_at "go"
    refine lcAt_open ?_
    refine seqI_open ?_
    walk_at "go"
    refine ⟨g, bt, rfl, ⟨_, htb.same e1⟩, fun D2 hD2 => ?_⟩
    refine items_atE (F := RowE K) (fun e h => RowE.same e h) (fun r => .int r.length) (htb.same e1) (rowE_of (ht.same e1).rows) hD2 (by rw [List.length_map]; omega) (fun x => rfl) ?_ ?_
    · rintro v r H2 e2 hr ⟨a, rfl, ha⟩ Q q
      walk_at "go"
      refine ⟨a, _, rfl, ha.either, ?_⟩
      rw [List.length_map]
      exact q H2 (Same.refl _)
    · intro H2 e2 hD22
      have k1 : H2 D = some (.lst ((u.map fun r => (r.length : Int)).map V.int)) := by rw [e2 _ _ hD1, List.map_map]; rfl
      have k2 : H2 D2 = some (.lst ((t.map fun r => (r.length : Int)).map V.int)) := by rw [hD22, List.map_map]; rfl
      refine ⟨_, _, lst_dp k1, lst_dp k2, shaped_ints _, shaped_ints _, ?_⟩
      rw [show PyData.eqv (.list _) (.list _) = PyData.eqvAll _ _ from rfl, eqvAll_ints]
      rw [decide_eq_decide.mpr lens_inj]
      exact q H2 (e1.trans e2)
theorem sc_has_right_sums : FnScope ["table", "columns", "at", "row", "line"] ["table"] (defScope s_has_right_sums) := ⟨rfl, rfl, rfl, by decide +kernel, rfl, by decide +kernel, by decide +kernel⟩
theorem ok_has_right_sums (T : Tx K mg) : Ok P w K mg base 1 (He.ga K "has_right_sums") ["table"] (spRight K) := by
  obtain ⟨fd, F⟩ := T.f_has_right_sums
  refine ⟨fd, F.ok (k := 0) sc_has_right_sums (fun vs H Q E h => ?_) (fun cdv A outer s_ H vs Q E hr h => ?_), F.bindsN fun _ _ _ _ _ _ us hl => match us, hl with | [_], _ => rfl, F.kp⟩
  · obtain ⟨p, rs, u, m, n, rfl, hu, ⟨um, un⟩, m1, n1, m2, n2, q⟩ := h
    rfl
  obtain ⟨p, rs, u, m, n, rfl, hu, ⟨um, un⟩, m1, n1, m2, n2, q⟩ := h
  have hu65 := K3.Room.units65 hr
  have hu64 := Nat.lt_of_succ_lt hu65
  have hu0 := Nat.lt_of_le_of_lt (Nat.le_add_right _ 65) hu65
  refine ⟨_, pss_cons (by exact ps_setLc (i := 1) (own := [("at", 2)]) (g := gName 2) (tt := tYes) (te := (tLc (iSeq K (tVar 0)) (gName 3) tYes (tOp (rIxE K) (tVar 3) (tVar 2)) [3])) (by rfl) sc_has_right_sums.nd rfl rfl (by rfl) (pi_range1 rfl T.z_range (pa_cons (pe_callB call_len_seq (by rfl) T.z_len PySem.boot_len (pa_cons (pe_ix ix_e (pv 0) pe_int (fun _ _ => rfl)) pa_nil)) pa_nil)) (blkOk_by (own := [("at", 2)]) (N := ["table", "columns", "at", "row", "line"]) (sc := defScope s_has_right_sums) (by decide +kernel)) (fun _ _ _ _ _ => (pg_name (i := 2) sc_has_right_sums.nd rfl (Or.inr rfl))) (fun _ _ _ _ _ => pts_nil) (fun _ _ _ _ _ => (by exact pe_lc (own := [("row", 3)]) (g := gName 3) (tt := tYes) (te := (tOp (rIxE K) (tVar 3) (tVar 2))) (by rfl) sc_has_right_sums.nd (pi_seq (pv 0)) (blkOk_by (own := [("row", 3)]) (N := ["table", "columns", "at", "row", "line"]) (sc := { kind := .function, names := [(".0", .local), ("at", .cell), ("table", .cell)], isGenerator := false, isCoroutine := false }) (by decide +kernel)) (fun _ _ _ _ _ => (pg_name (i := 3) sc_has_right_sums.nd rfl (Or.inl rfl))) (fun _ _ _ _ _ => pts_nil) (fun _ _ _ _ _ => (pe_ix ix_e (pv 3) (pv 2) (fun _ _ => rfl))))))
      (pss_one (ps_ret (pe_callB (cr_all (by rfl)) (by rfl) T.z_all (by decide +kernel) (pa_cons (by exact pe_lc (own := [("line", 4)]) (g := gName 4) (tt := tYes) (te := (tOp rEq (tOp (rIxE K) (tVar 4) (tUn (rU fun i => .int (-i)) (tC (.int 1)))) (tCB (rSumE K) (tCons (tSl (rSlE K) (tVar 4) tNoPart (tPart (tUn (rU fun i => .int (-i)) (tC (.int 1))))) tNil)))) (by rfl) sc_has_right_sums.nd (pi_list (pe_op op_cat (pe_callTy call_list_of (by rfl) T.z_list (by decide +kernel) (pa_cons (pv 0) pa_nil)) (pv 1))) (blkOk_by (own := [("line", 4)]) (N := ["table", "columns", "at", "row", "line"]) (sc := defScope s_has_right_sums) (by decide +kernel)) (fun _ _ _ _ _ => (pg_name (i := 4) sc_has_right_sums.nd rfl (Or.inl rfl))) (fun _ _ _ _ _ => pts_nil) (fun _ _ _ _ _ => (pe_cmpR op_eq (pe_ix ix_e (pv 4) (pe_un un_neg pe_int) (fun _ _ => rfl)) (pe_callB (cr_sumE (by rfl)) (by rfl) T.z_sum (by decide +kernel) (pa_cons (pe_slice sl_e (pv 4) po_none (po_some (pe_un un_neg pe_int))) pa_nil)) rfl))) pa_nil)))), ?_⟩
  have lu := hu.rows.length
  obtain ⟨a0, r0, ha0, hr0, hx0⟩ := row_ofG hu (i := 0) (by omega)
  have ln : r0.length = n := un _ (List.mem_of_getElem? hr0)
  walk_at "go"
  refine lc_open ?_
  refine rng_open ?_
  walk_at "go"
  refine w_ixE hu.at_ (ref_at (i := 0) ha0) ?_
  walk_at "go"
  refine ⟨a0, _, rfl, hx0.either, ?_⟩
  rw [List.length_map, ln]
  refine ⟨_, rfl, by omega, by omega, fun D hD => ?_⟩
  rw [Int.toNat_natCast]
  refine lc_range (lo := 0) (n := n) (fun (i : Nat) H' => ∃ cs : List Addr, Same H H' ∧ H' D = some (.lst (cs.map V.ref)) ∧ Paired (RowAt H') cs ((List.range i).map (colOf u)) ∧ ∀ a ∈ cs, a ≠ D) ⟨[], Same.new hD _, upd_same, .nil, fun a ha => (by cases ha)⟩ ?_ ?_
  · rintro c H1 hc ⟨cs, e1, hD1, hp1, nd⟩
    rw [show (0 : Int) + (c : Int) = (c : Int) by omega]
    walk_at "go"
    refine ⟨rfl, ?_⟩
    walk_at "go"
    refine lcAt_open ?_
    refine seqI_open ?_
    walk_at "go"
    obtain ⟨bu, hub⟩ := hu.at_
    refine ⟨p, bu, rfl, ⟨_, hub.same e1⟩, fun D2 hD2 => ?_⟩
    refine items_atE (F := RowE K) (fun e h => RowE.same e h) (fun r => .int (r.getD c 0)) (hub.same e1) (rowE_of (hu.same e1).rows) hD2 (by rw [List.length_map]; omega) (fun x => rfl) ?_ ?_
    · rintro v r H2 e2 hr ⟨a, rfl, ha⟩ Q q
      walk_at "go"
      refine w_ixE ha (at_getD (by rw [un r hr]; exact hc)) ?_
      exact q H2 (Same.refl _)
    · intro H2 e2 hD22
      have lcs : cs.length ≤ 100 := by rw [hp1.length, List.length_map, List.length_range]; omega
      refine ⟨_, e2 _ _ hD1, Nat.lt_of_le_of_lt (show (cs.map V.ref).length ≤ 100 by rw [List.length_map]; exact lcs) (by decide), cs ++ [D2], (e1.trans e2).mut hD, by rw [upd_same, List.map_append]; rfl, ?_⟩
      have up : ∀ (a : Addr) (r : List Int), RowAt H1 a r → a ≠ D → RowAt (upd H2 D (.lst (cs.map V.ref ++ [.ref D2]))) a r := fun a r h ne => by
        show upd H2 D _ a = _
        rw [upd_ne ne]
        exact e2 _ _ h
      have D2D : D2 ≠ D := fun z => by rw [z, hD1] at hD2; cases hD2
      rw [List.range_succ, List.map_append]
      refine ⟨K3.Paired.app (paired_up hp1 fun a r ha h => up a r h (nd a ha)) (.cons ?_ .nil), fun a ha => ?_⟩
      · show upd H2 D _ D2 = _
        rw [upd_ne D2D, hD22]
        unfold colOf
        rw [List.map_map]
        rfl
      · rcases List.mem_append.mp ha with ha | ha
        · exact nd a ha
        · rw [List.mem_singleton.mp ha]; exact D2D
  · rintro H1 ⟨cs, e1, hD1, hp1, nd⟩
    have lcs : cs.length = n := by rw [hp1.length, List.length_map, List.length_range]
    walk_at "go"
    refine lcAt_open ?_
    refine list_open ?_
    walk_at "go"
    refine ⟨p, _, rfl, (hu.at_.same e1).either, fun l hl => ?_⟩
    have e2 := Same.new hl (.lst (rs.map V.ref))
    walk_at "go"
    refine ⟨l, D, rs.map V.ref, cs.map V.ref, rfl, rfl, upd_same, e2 _ _ hD1, Nat.le_trans (show _ ≤ 200 by rw [List.length_map, List.length_map]; omega) (by decide), fun l2 hl2 => ?_⟩
    have e3 := Same.new hl2 (.lst (rs.map V.ref ++ cs.map V.ref))
    have e13 := e1.trans (e2.trans e3)
    have ht4 : GT K (upd (upd H1 l (.lst (rs.map V.ref))) l2 (.lst (rs.map V.ref ++ cs.map V.ref))) l2 (rs ++ cs) (u ++ (List.range n).map (colOf u)) := ⟨.lst (by rw [upd_same, List.map_append]), K3.Paired.app (hu.same e13).rows (L2.Paired.mapP hp1 fun _ _ z => .lst ((e2.trans e3) _ _ z))⟩
    have h42 : SqL K (upd (upd H1 l (.lst (rs.map V.ref))) l2 (.lst (rs.map V.ref ++ cs.map V.ref))) l2 ((rs ++ cs).map V.ref) := SqL.of (by rw [upd_same, List.map_append])
    refine ⟨l2, rfl, ⟨_, h42⟩, fun D2 hD2 => ?_⟩
    refine items_at (F := RowE K) (fun e h => RowE.same e h) (fun r => .bl (decide (r.getLastD 0 = r.dropLast.sum))) h42 (rowE_of ht4.rows) hD2 (by rw [List.length_map, List.length_append]; omega) (fun x => rfl) ?_ ?_
    · rintro v r H2 e4 hr ⟨a, rfl, ha⟩ Q q
      have rne : r ≠ [] := by
        intro z
        rw [z] at hr
        rcases List.mem_append.mp hr with hr | hr
        · have := un _ hr
          simp at this
          omega
        · obtain ⟨c, _, hc⟩ := List.mem_map.mp hr
          unfold colOf at hc
          have := List.map_eq_nil_iff.mp hc
          rw [this] at um
          simp at um
          omega
      walk_at "go"
      refine ⟨1, rfl, ?_⟩
      refine w_ixE ha (at_last rne) ?_
      walk_at "go"
      refine ⟨1, rfl, ?_⟩
      walk_at "go"
      refine w_slLast ha (by simpa using rne) fun l3 H5 hl3 e5 h5 => ?_
      refine ⟨l3, r.dropLast, rfl, by rw [List.map_dropLast]; exact h5, ?_⟩
      refine w_eqI ?_
      rw [decV]
      exact q _ e5
    · intro H2 e4 hD3
      refine ⟨D2, (u ++ (List.range n).map (colOf u)).map fun r => decide (r.getLastD 0 = r.dropLast.sum), rfl, SqL.of (by rw [hD3, List.map_map]; rfl), ?_⟩
      refine q _ H2 (e13.trans (( Same.refl _).trans e4)) ?_
      rw [List.all_eq_true]
      unfold Right RightCol
      constructor
      · intro h
        have h' : ∀ r ∈ u ++ (List.range n).map (colOf u), r.getLastD 0 = r.dropLast.sum := fun r hr => of_decide_eq_true (h _ (List.mem_map.mpr ⟨r, hr, rfl⟩))
        exact ⟨fun r hr => h' r (List.mem_append_left _ hr), fun c hc => h' _ (List.mem_append_right _ (List.mem_map.mpr ⟨c, List.mem_range.mpr hc, rfl⟩))⟩
      · rintro ⟨h1, h2⟩ b hb
        obtain ⟨r, hr, rfl⟩ := List.mem_map.mp hb
        refine decide_eq_true ?_
        rcases List.mem_append.mp hr with hr | hr
        · exact h1 r hr
        · obtain ⟨c, hc, rfl⟩ := List.mem_map.mp hr
          exact h2 c (List.mem_range.mp hc)
end
end K3
end C5_part
section C6_part
set_option Elab.async false
set_option linter.all false
set_option maxRecDepth 100000
set_option maxHeartbeats 1000000
set_option pp.deepTerms.threshold 5
open PySem PySem.Spec PyProof.Rows L2
/-- go on as far as nothing is open -/
local macro_rules | `(tactic| walk_at "go") => `(tactic| repeat (first
  | with_reducible refine w_seq ?_ | with_reducible refine w_next ?_ | with_reducible refine w_set ?_ | with_reducible refine w_drop ?_ | with_reducible refine w_ret ?_ | with_reducible refine w_retN ?_
  | with_reducible refine w_if ?_ | ((with_reducible refine' w_var ?hv ?_); (case hv => exact rfl)) | with_reducible refine w_c ?_ | with_reducible refine w_nil ?_ | with_reducible refine w_cons ?_ | with_reducible refine w_op ?_ | with_reducible refine w_un ?_
  | with_reducible refine w_test ?_ | with_reducible refine w_tB ?_ | with_reducible refine w_not ?_ | with_reducible refine w_and ?_ | with_reducible refine w_or ?_ | with_reducible refine w_bl ?_
  | with_reducible refine w_andV ?_ | with_reducible refine w_orV ?_ | with_reducible refine w_notV ?_ | with_reducible refine w_ifE ?_ | with_reducible refine w_chain ?_ | with_reducible refine w_i0 ?_
  | with_reducible refine w_call ?_ | with_reducible refine w_callS ?_ | with_reducible refine w_cB ?_ | with_reducible refine w_tup ?_ | with_reducible refine w_lst ?_ | with_reducible refine w_fldV ?_
  | with_reducible refine w_neF ?_ | with_reducible refine w_neT ?_ | with_reducible refine w_notN ?_ | with_reducible refine w_isN ?_ | with_reducible refine w_gname ?_ | with_reducible refine w_gsub ?_ | with_reducible refine w_asg ?_ | with_reducible refine w_sl ?_ | with_reducible refine w_noP ?_ | with_reducible refine w_int1 ?_ | with_reducible refine w_part ?_ | with_reducible refine w_yes ?_ | with_reducible refine w_nT ?_ | with_reducible refine w_nF ?_ | with_reducible refine w_iteT ?_ | with_reducible refine w_iteF ?_))
namespace K3
/-- the table u fits the grid t, whose hidden cells are hs -/
def Fit (t : List (List Int)) (hs : List (Nat × Nat)) (u : List (List Int)) (m n : Nat) : Prop :=
  Rect u m n ∧ (∀ r ∈ u, ∀ x ∈ r, 0 ≤ x) ∧ Right u n ∧ ∀ i < m, ∀ j < n, (i, j) ∉ hs → at2 u i j = at2 t i j
def spFits (K : PySem.W.Frag) : Sp := fun vs H Q _ => ∃ (g p : Addr) (v : V) (rs rs' : List Addr) (t u : List (List Int)) (m n m' n' : Nat) (hs : List (Nat × Nat)), vs = [.ref g, v, .ref p] ∧ GT K H g rs t ∧ Rect t m n ∧ 1 ≤ m ∧ 1 ≤ n ∧ m ≤ 60 ∧ n ≤ 60 ∧ HidIn K H v hs m n ∧ GT K H p rs' u ∧ Rect u m' n' ∧ 1 ≤ m' ∧ 1 ≤ n' ∧ m' ≤ 60 ∧ n' ≤ 60 ∧
  ∀ b H', Same H H' → (b = true ↔ Fit t hs u m n) → Q (.bl b) H'
theorem wide_iff {t u : List (List Int)} {m n m' n' : Nat} (ht : Rect t m n) (hu : Rect u m' n') (m1 : 1 ≤ m') : u.map List.length = t.map List.length ↔ Rect u m n := by
  have e1 : ∀ {t : List (List Int)} {m n : Nat}, Rect t m n → t.map List.length = List.replicate m n := by
    intro t m n h
    rw [← h.1]
    exact List.eq_replicate_iff.mpr ⟨by rw [List.length_map], fun b hb => by
      obtain ⟨r, hr, rfl⟩ := List.mem_map.mp hb
      exact h.2 r hr⟩
  constructor
  · intro h
    have l : u.length = t.length := by simpa using congrArg List.length h
    refine ⟨by rw [l, ht.1], fun r hr => ?_⟩
    have : r.length ∈ t.map List.length := by rw [← h]; exact List.mem_map.mpr ⟨r, hr, rfl⟩
    rw [e1 ht] at this
    exact (List.mem_replicate.mp this).2
  · intro h
    rw [e1 h, e1 ht]
theorem flat_len {α : Type} {f : Int → α} {k : Nat} : ∀ {u : List (List Int)}, (∀ r ∈ u, r.length ≤ k) → (u.flatMap fun r => r.map f).length ≤ u.length * k
  | [], _ => Nat.zero_le _
  | r :: u, h => by
    have i := flat_len (f := f) (u := u) fun r hr => h r (List.mem_cons_of_mem _ hr)
    have j := h r (List.mem_cons_self ..)
    simp only [List.flatMap_cons, List.length_append, List.length_map, List.length_cons, Nat.succ_mul]
    omega
theorem cellV_at {K : PySem.W.Frag} {D a : Addr} {ws : List V} {cs : List (Nat × Nat)} {te : TE} {vs : List Nat} {σ : L2.St} {j : Nat} {H1 : Hp} {Qd : Hp → Prop} (f : Nat × Nat → V) (ha : H1 a = some (.lst ws)) (hp : Paired (CellAt H1) ws cs) (hlen : ws.length ≤ 10000) (hD : H1 D = none) (hw : ∀ x, wipe ((wipe σ vs).set j (some x)) vs = wipe σ vs)
    (he : ∀ (v : V) (c : Nat × Nat) (H' : Hp), Same H1 H' → c ∈ cs → CellAt H' v c → ∀ Q : VK, (∀ H'', Same H' H'' → Q (f c) H'') → te ((wipe σ vs).set j (some v)) H' Q)
    (hd : ∀ H', Same H1 H' → H' D = some (.lst (cs.map f)) → Qd H') : LcAt (Itl K a) D (gName j) tYes te vs σ H1 Qd :=
  items_at (F := CellAt) (fun e h => CellAt.same e h) f (SqL.of ha) hp hD hlen hw he hd
theorem cells_keep {K : PySem.W.Frag} {D a : Addr} {ws : List V} {cs : List (Nat × Nat)} {tt : TT} {te : TE} {vs : List Nat} {σ : L2.St} {j : Nat} {H1 : Hp} {Qd : Hp → Prop} (b : Nat × Nat → Bool) (ha : H1 a = some (.lst ws)) (hp : Paired (CellAt H1) ws cs) (hlen : ws.length ≤ 10000) (hD : H1 D = none) (hw : ∀ x, wipe ((wipe σ vs).set j (some x)) vs = wipe σ vs)
    (ht : ∀ (v : V) (c : Nat × Nat) (H' : Hp), Same H1 H' → c ∈ cs → CellAt H' v c → ∀ Q : Bool → Hp → Prop, (∀ H'', Same H' H'' → Q (b c) H'') → tt ((wipe σ vs).set j (some v)) H' Q)
    (he : ∀ (v : V) (H' : Hp) (Q : VK), Q v H' → te ((wipe σ vs).set j (some v)) H' Q)
    (hd : ∀ H' zs, Same H1 H' → H' D = some (.lst zs) → Paired (CellAt H') zs (cs.filter b) → Qd H') : LcAt (Itl K a) D (gName j) tt te vs σ H1 Qd :=
  items_keep (F := CellAt) (fun e h => CellAt.same e h) b (SqL.of ha) hp hD hlen hw ht he hd
theorem CellAt.list {H : Hp} {p : Addr} {ws : List V} {hs : List (Nat × Nat)} (h : Paired (CellAt H) ws hs) : ∀ {i : Nat} {v : V}, ws[i]? = some v → ∃ c, hs[i]? = some c ∧ CellAt H v c := fun e => K3.Paired.get h e
section
variable {P : Program} {w : World} {K : PySem.W.Frag} {mg : Str → Option Value} {base : Heap}
theorem sc_fits : FnScope ["grid", "hidden", "table", "cells", "shown", "cell", "row", "number"] ["grid", "hidden", "table"] (defScope s_fits) := ⟨rfl, rfl, rfl, by decide +kernel, rfl, by decide +kernel, by decide +kernel⟩
theorem ok_fits (T : Tx K mg) : Ok P w K mg base 3 (He.ga K "fits") ["grid", "hidden", "table"] (spFits K) := by
  obtain ⟨fd, F⟩ := T.f_fits
  have Onumber_at := ok_number_at (P := P) (w := w) (base := base) T
  have Ocells_of := ok_cells_of (P := P) (w := w) (base := base) T
  have Ohas_right_sums := ok_has_right_sums (P := P) (w := w) (base := base) T
  have Ois_as_wide := ok_is_as_wide (P := P) (w := w) (base := base) T
  have Oread_hidden := ok_read_hidden (P := P) (w := w) (base := base) T
  refine ⟨fd, F.ok (k := 2) sc_fits (fun vs H Q E h => ?_) (fun cdv A outer s_ H vs Q E hr h => ?_), F.bindsN fun _ _ _ _ _ _ us hl => match us, hl with | [_, _, _], _ => rfl, F.kp⟩
  · obtain ⟨g, p, v, rs, rs', t, u, m, n, m', n', hs, rfl, ht, hR, m1, n1, m2, n2, hh, hu, hU, m1', n1', m2', n2', q⟩ := h
    rfl
  obtain ⟨g, p, v, rs, rs', t, u, m, n, m', n', hs, rfl, ht, hR, m1, n1, m2, n2, hh, hu, hU, m1', n1', m2', n2', q⟩ := h
  have hu65 := K3.Room.units65 hr
  have hu64 := Nat.lt_of_succ_lt hu65
  have hu0 := Nat.lt_of_le_of_lt (Nat.le_add_right _ 65) hu65
  have rnumber_at : Room 1 _ := hr.mono (by decide)
  have rcells_of : Room 1 _ := hr.mono (by decide)
  have rhas_right_sums : Room 1 _ := hr.mono (by decide)
  have ris_as_wide : Room 1 _ := hr.mono (by decide)
  have rread_hidden : Room 2 _ := hr.mono (by decide)
  refine ⟨_, pss_cons (ps_set (i := 3) sc_fits.nd rfl (Or.inr rfl) (pe_f Oread_hidden rread_hidden T.g_read_hidden (pa_cons (pv 0) (pa_cons (pv 1) pa_nil))))
      (pss_cons (ps_if (pt_not (pt_val (pe_f Ois_as_wide ris_as_wide T.g_is_as_wide (pa_cons (pv 0) (pa_cons (pv 2) pa_nil))))) (pss_one (ps_ret pe_bl)) pss_nil)
      (pss_cons (ps_if (pw_or (pt_val (pe_callB (cr_any (by rfl)) (by rfl) T.z_any (by decide +kernel) (pa_cons (by exact pe_lc2 (own := [("row", 6), ("number", 7)]) (vs1 := [7]) (g := gName 6) (tt := tYes) (wi1 := (iSeq K (tVar 6))) (g1 := gName 7) (tt1 := tYes) (te := (tOp (rI0 fun i j => .bl (decide (i < j))) (tVar 7) (tC (.int 0)))) (by rfl) sc_fits.nd (pi_seq (pv 2)) (blkOk_by (own := [("row", 6), ("number", 7)]) (N := ["grid", "hidden", "table", "cells", "shown", "cell", "row", "number"]) (sc := defScope s_fits) (by decide +kernel)) (by decide) (fun _ _ _ _ _ => (pg_name (i := 6) sc_fits.nd rfl (Or.inl rfl))) (fun _ _ _ _ _ => pts_nil) (fun _ _ _ _ _ => (pi_seq (pv 6))) (fun _ _ _ _ _ => (pg_name (i := 7) sc_fits.nd rfl (Or.inl rfl))) (fun _ _ _ _ _ => pts_nil) (fun _ _ _ _ _ => (pe_cmpR op_lt (pv 7) pe_int rfl))) pa_nil))) (pw_or1 (pt_not (pt_val (pe_f Ohas_right_sums rhas_right_sums T.g_has_right_sums (pa_cons (pv 2) pa_nil)))))).pt (pss_one (ps_ret pe_bl)) pss_nil)
      (pss_cons (by exact ps_setLc (i := 4) (own := [("cell", 5)]) (g := gName 5) (tt := (tTest (tOp (rNotInC K) (tVar 5) (tVar 3)))) (te := (tVar 5)) (by rfl) sc_fits.nd rfl rfl (by rfl) (pi_list (pe_f Ocells_of rcells_of T.g_cells_of (pa_cons (pv 0) pa_nil))) (blkOk_by (own := [("cell", 5)]) (N := ["grid", "hidden", "table", "cells", "shown", "cell", "row", "number"]) (sc := defScope s_fits) (by decide +kernel)) (fun _ _ _ _ _ => (pg_name (i := 5) sc_fits.nd rfl (Or.inl rfl))) (fun _ _ _ _ _ => (pts_one (pt_cmpR (op_notInC hu65) (pv 5) (pv 3) (by rfl)))) (fun _ _ _ _ _ => (pv 5)))
      (pss_one (ps_ret (pe_callB (cr_all (by rfl)) (by rfl) T.z_all (by decide +kernel) (pa_cons (by exact pe_lc (own := [("cell", 5)]) (g := gName 5) (tt := tYes) (te := (tOp rEq (tCall (spNum K) [] E0 (tCons (tVar 2) (tCons (tVar 5) tNil))) (tCall (spNum K) [] E0 (tCons (tVar 0) (tCons (tVar 5) tNil))))) (by rfl) sc_fits.nd (pi_list (pv 4)) (blkOk_by (own := [("cell", 5)]) (N := ["grid", "hidden", "table", "cells", "shown", "cell", "row", "number"]) (sc := defScope s_fits) (by decide +kernel)) (fun _ _ _ _ _ => (pg_name (i := 5) sc_fits.nd rfl (Or.inl rfl))) (fun _ _ _ _ _ => pts_nil) (fun _ _ _ _ _ => (pe_cmpR op_eq (pe_f Onumber_at rnumber_at T.g_number_at (pa_cons (pv 2) (pa_cons (pv 5) pa_nil))) (pe_f Onumber_at rnumber_at T.g_number_at (pa_cons (pv 0) (pa_cons (pv 5) pa_nil))) rfl))) pa_nil))))))), ?_⟩
  walk_at "go"
  refine ⟨g, v, rs, t, m, n, hs, rfl, ht, hR, m1, n1, m2, n2, hh, fun p1 H1 ws1 hs1 e1 h1 hw1 hs1m hl1 _ => ?_⟩
  walk_at "go"
  have lt : t.length = m := hR.1
  have lu : u.length = m' := hU.1
  refine ⟨g, p, rs, rs', t, u, rfl, ht.same e1, hu.same e1, by omega, by omega, fun H2 e2 => ?_⟩
  walk_at "go"
  have e02 := e1.trans e2
  by_cases c0 : u.map List.length = t.map List.length
  · have hRu : Rect u m n := (wide_iff hR hU m1').mp c0
    rw [decide_eq_true c0]
    walk_at "go"
    refine lc2_open ?_
    refine seqI_open ?_
    walk_at "go"
    have hu2 := hu.same e02
    have lru := hu2.rows.length
    obtain ⟨bu, hub⟩ := hu2.at_
    refine ⟨p, bu, rfl, ⟨_, hub⟩, fun D hD => ?_⟩
    refine lc2_it (n := (rs'.map V.ref).length) (walk_B (b := bu)) (fun (i : Nat) H' => Same H2 H' ∧ H' D = some (.lst (((u.take i).flatMap fun r => r.map fun x => decide (x < 0)).map V.bl))) ⟨Same.new hD _, upd_same⟩ (fun i H' _ z => hub.same z.1) ?_ ?_
    · rintro i x H3 H4 hi ⟨e3, hD3⟩ ⟨rfl, hx⟩
      obtain ⟨a, ha, rfl⟩ := map_ref hx
      obtain ⟨r, hr, hra⟩ := K3.Paired.get hu2.rows ha
      obtain ⟨br, hrb0⟩ := hra
      have hrb := hrb0.same e3
      have lr : r.length = n := hRu.2 r (List.mem_of_getElem? hr)
      walk_at "go"
      refine ⟨rfl, ?_⟩
      walk_at "go"
      refine seqI_open ?_
      walk_at "go"
      refine ⟨a, br, rfl, ⟨_, hrb⟩, ?_⟩
      refine in1_it (n := (r.map V.int).length) (walk_B (b := br)) (fun (j : Nat) H' => Same H2 H' ∧ H' D = some (.lst ((((u.take i).flatMap fun r => r.map fun x => decide (x < 0)) ++ (r.take j).map fun x => decide (x < 0)).map V.bl))) ⟨e3, by rw [hD3, List.take_zero]; simp⟩ (fun j H' _ z => hrb0.same z.1) ?_ ?_
      · rintro j x H5 H6 hj ⟨e5, hD5⟩ ⟨rfl, hx5⟩
        rw [List.getElem?_map] at hx5
        cases hy : r[j]? with
        | none => rw [hy] at hx5; cases hx5
        | some y =>
          rw [hy] at hx5
          obtain rfl := (Option.some.inj hx5).symm
          walk_at "go"
          refine ⟨rfl, ?_⟩
          walk_at "go"
          refine ⟨_, hD5, Nat.lt_of_le_of_lt (show _ ≤ 100000 from ?_) (by decide), e5.mut hD, ?_⟩
          · have f1 := flat_len (f := fun x => decide (x < 0)) (k := n) (u := u.take i) fun r hr => Nat.le_of_eq (hRu.2 r (List.mem_of_mem_take hr))
            have f2 : (u.take i).length * n ≤ 60 * 60 := Nat.mul_le_mul (by rw [List.length_take]; omega) n2
            rw [List.length_map, List.length_append, List.length_map, List.length_take]
            omega
          · rw [upd_same, List.take_add_one, hy]
            simp
      · rintro H5 ⟨e5, hD5⟩
        refine ⟨e5, ?_⟩
        rw [hD5, List.length_map, List.take_length, List.take_add_one, hr]
        simp
    · rintro H3 ⟨e3, hD3⟩
      rw [List.length_map, lru, List.take_length] at hD3
      walk_at "go"
      refine ⟨D, _, rfl, SqL.of hD3, ?_⟩
      have e03 := e02.trans e3
      have any_iff : ((u.flatMap fun r => r.map fun x => decide (x < 0)).any id = true) ↔ ∃ r ∈ u, ∃ x ∈ r, x < 0 := by
        rw [List.any_eq_true]
        simp only [List.mem_flatMap, List.mem_map, id]
        constructor
        · rintro ⟨b, ⟨r, hr, x, hx, rfl⟩, hb⟩
          exact ⟨r, hr, x, hx, of_decide_eq_true hb⟩
        · rintro ⟨r, hr, x, hx, hb⟩
          exact ⟨_, ⟨r, hr, x, hx, rfl⟩, decide_eq_true hb⟩
      walk_at "go"
      by_cases c1 : ∃ r ∈ u, ∃ x ∈ r, x < 0
      · rw [any_iff.mpr c1]
        walk_at "go"
        refine q false H3 e03 ⟨fun h => (by cases h), fun h => ?_⟩
        obtain ⟨r, hr, x, hx, hb⟩ := c1
        have := h.2.1 r hr x hx
        omega
      · rw [Bool.eq_false_iff.mpr (fun z => c1 (any_iff.mp z))]
        have nonneg : ∀ r ∈ u, ∀ x ∈ r, 0 ≤ x := fun r hr x hx => by
          by_cases c : 0 ≤ x
          · exact c
          · exact absurd ⟨r, hr, x, hx, by omega⟩ c1
        walk_at "go"
        refine ⟨p, rs', u, m, n, rfl, hu.same e03, hRu, m1, n1, by omega, by omega, fun b H4 e4 hb => ?_⟩
        have e04 := e03.trans e4
        walk_at "go"
        cases b with
        | false =>
          walk_at "go"
          refine q false H4 e04 ⟨fun h => (by cases h), fun h => hb.mpr h.2.2.1⟩
        | true =>
          have right := hb.mp rfl
          walk_at "go"
          refine lcAt_open ?_
          refine list_open ?_
          walk_at "go"
          refine ⟨g, rs, t, m, n, rfl, ht.same e04, hR, m1, by omega, by omega, fun p5 H5 ws5 e5 hp5 h5 hw5 => ?_⟩
          refine ⟨p5, rfl, ⟨_, SqL.of h5⟩, fun D6 hD6 => ?_⟩
          have l5 : ws5.length ≤ 3600 := by
            rw [hw5.length, cells_len]
            exact Nat.mul_le_mul m2 n2
          have e15 := e2.trans (e3.trans (e4.trans e5))
          have lim : ∀ c ∈ hs1, c.1 < 1000 ∧ c.2 < 1000 := fun c hc => by
            obtain ⟨pp, wss, _, _, _, hmem, _⟩ := hh
            have := drop_mem m1 n1 (hmem c ((hs1m c).mp hc))
            omega
          refine cells_keep (fun c => !decide (c ∈ hs1)) h5 hw5 (by omega) hD6 (fun x => rfl) ?_ ?_ ?_
          · intro v c H6 e6 hc hv Q q
            have hcb := cells_mem.mp hc
            walk_at "go"
            have e16 := e15.trans e6
            refine ⟨p1, ws1, hs1, c, hv, rfl, .inl (SqL.of (e16 _ _ h1)), L2.Paired.mapP hw1 fun _ _ z => z.same e16, by omega, lim, ⟨by omega, by omega⟩, ?_⟩
            exact ⟨_, rfl, q H6 (Same.refl _)⟩
          · intro v H6 Q q
            walk_at "go"
            exact q
          · intro H6 zs e6 hD66 hz
            walk_at "go"
            refine lcAt_open ?_
            refine list_open ?_
            walk_at "go"
            refine ⟨D6, rfl, ⟨_, SqL.of hD66⟩, fun D7 hD7 => ?_⟩
            have e06 := e04.trans (e5.trans e6)
            refine cellV_at (fun c => .bl (decide (at2 u c.1 c.2 = at2 t c.1 c.2))) hD66 hz ?_ hD7 (fun x => rfl) ?_ ?_
            · rw [hz.length]
              refine Nat.le_trans (List.length_filter_le _ _) ?_
              rw [← hw5.length]
              omega
            · intro v c H7 e7 hc hv Q q
              have hcb := cells_mem.mp (List.mem_filter.mp hc).1
              have e07 := e06.trans e7
              walk_at "go"
              refine ⟨p, v, rs', u, m, n, c.1, c.2, rfl, hu.same e07, hRu, hv, hcb.1, hcb.2, ?_⟩
              walk_at "go"
              refine ⟨g, v, rs, t, m, n, c.1, c.2, rfl, ht.same e07, hR, hv, hcb.1, hcb.2, ?_⟩
              refine w_eqI ?_
              rw [decV]
              exact q H7 (Same.refl _)
            · intro H7 e7 hD77
              refine ⟨D7, ((cellsOf m n).filter fun c => !decide (c ∈ hs1)).map fun c => decide (at2 u c.1 c.2 = at2 t c.1 c.2), rfl, SqL.of (by rw [hD77, List.map_map]; rfl), ?_⟩
              refine q _ H7 (e06.trans e7) ?_
              rw [List.all_eq_true]
              constructor
              · intro h
                refine ⟨hRu, nonneg, right, fun i hi j hj hn => ?_⟩
                exact of_decide_eq_true (h _ (List.mem_map.mpr ⟨(i, j), List.mem_filter.mpr ⟨cells_mem.mpr ⟨hi, hj⟩, by simpa using fun z => hn ((hs1m _).mp z)⟩, rfl⟩))
              · rintro ⟨_, _, _, h⟩ b hb
                obtain ⟨c, hc, rfl⟩ := List.mem_map.mp hb
                obtain ⟨c1, c2⟩ := List.mem_filter.mp hc
                obtain ⟨c3, c4⟩ := cells_mem.mp c1
                refine decide_eq_true (h c.1 c3 c.2 c4 fun z => ?_)
                have : c ∈ hs1 := (hs1m _).mpr z
                simp [this] at c2
  · rw [decide_eq_false c0]
    walk_at "go"
    refine q false H2 e02 ?_
    constructor
    · intro h; cases h
    · intro h
      exact absurd ((wide_iff hR hU m1').mpr h.1) c0
end
end K3
end C6_part
section C7_part
set_option Elab.async false
set_option linter.all false
set_option maxRecDepth 100000
set_option maxHeartbeats 1000000
set_option pp.deepTerms.threshold 5
open PySem PySem.Spec PyProof.Rows L2
/-- go on as far as nothing is open -/
local macro_rules | `(tactic| walk_at "go") => `(tactic| repeat (first
  | with_reducible refine w_seq ?_ | with_reducible refine w_next ?_ | with_reducible refine w_set ?_ | with_reducible refine w_drop ?_ | with_reducible refine w_ret ?_ | with_reducible refine w_retN ?_
  | with_reducible refine w_if ?_ | ((with_reducible refine' w_var ?hv ?_); (case hv => exact rfl)) | with_reducible refine w_c ?_ | with_reducible refine w_nil ?_ | with_reducible refine w_cons ?_ | with_reducible refine w_op ?_ | with_reducible refine w_un ?_
  | with_reducible refine w_test ?_ | with_reducible refine w_tB ?_ | with_reducible refine w_not ?_ | with_reducible refine w_and ?_ | with_reducible refine w_or ?_ | with_reducible refine w_bl ?_
  | with_reducible refine w_andV ?_ | with_reducible refine w_orV ?_ | with_reducible refine w_notV ?_ | with_reducible refine w_ifE ?_ | with_reducible refine w_chain ?_ | with_reducible refine w_i0 ?_
  | with_reducible refine w_call ?_ | with_reducible refine w_callS ?_ | with_reducible refine w_cB ?_ | with_reducible refine w_tup ?_ | with_reducible refine w_lst ?_ | with_reducible refine w_fldV ?_
  | with_reducible refine w_neF ?_ | with_reducible refine w_neT ?_ | with_reducible refine w_notN ?_ | with_reducible refine w_isN ?_ | with_reducible refine w_gname ?_ | with_reducible refine w_gsub ?_ | with_reducible refine w_asg ?_ | with_reducible refine w_sl ?_ | with_reducible refine w_noP ?_ | with_reducible refine w_int1 ?_ | with_reducible refine w_part ?_ | with_reducible refine w_yes ?_ | with_reducible refine w_nT ?_ | with_reducible refine w_nF ?_ | with_reducible refine w_iteT ?_ | with_reducible refine w_iteF ?_))
namespace K3
theorem w_neI {i j : Int} {H : Hp} {Q : VK} (h : Q (.bl (!decide (i = j))) H) : rNe (.int i) (.int j) H Q := ⟨rfl, by rw [decV]; exact h⟩
theorem cells_split {m n : Nat} (m1 : 1 ≤ m) (n1 : 1 ≤ n) : cellsOf m n = (cellsOf m n).dropLast ++ [(m - 1, n - 1)] := by
  obtain ⟨m, rfl⟩ : ∃ k, m = k + 1 := ⟨m - 1, by omega⟩
  obtain ⟨n, rfl⟩ : ∃ k, n = k + 1 := ⟨n - 1, by omega⟩
  rw [cells_last, Nat.add_sub_cancel, Nat.add_sub_cancel]
  unfold cellsOf rowCells
  rw [List.range_succ (n := m), List.flatMap_append, List.flatMap_cons, List.flatMap_nil, List.append_nil, List.append_assoc]
  congr 1
  rw [List.range_succ (n := n), List.map_append]
  rfl
theorem Tab.take {H : Hp} {p : Addr} {rs : List Addr} {t : List (List Int)} (h : Paired (RowAt H) rs t) : Paired (RowAt H) rs.dropLast t.dropLast := paired_drop h
theorem last_row {H : Hp} {rs : List Addr} {t : List (List Int)} (h : Paired (RowAt H) rs t) (ne : t ≠ []) : ∃ a r, rs[rs.length - 1]? = some a ∧ t = t.dropLast ++ [r] ∧ RowAt H a r ∧ atI (rs.map V.ref) (-1) = some (.ref a) := by
  have l := h.length
  have l0 : t.length ≠ 0 := fun z => ne (List.length_eq_zero_iff.mp z)
  have rne : rs ≠ [] := fun z => by rw [z] at l; exact l0 l.symm
  obtain ⟨as, a, rfl⟩ : ∃ as a, rs = as ++ [a] := ⟨rs.dropLast, rs.getLast rne, (List.dropLast_concat_getLast rne).symm⟩
  obtain ⟨ts, r, rfl⟩ : ∃ ts r, t = ts ++ [r] := ⟨t.dropLast, t.getLast ne, (List.dropLast_concat_getLast ne).symm⟩
  have hl : as.length = ts.length := by simpa using l
  obtain ⟨y, hy, hr⟩ := K3.Paired.get h (i := as.length) (x := a) (by simp)
  rw [hl] at hy
  simp at hy
  subst hy
  exact ⟨a, r, by simp, by rw [List.dropLast_concat], hr, by rw [List.map_append]; exact atI_last _ _⟩
theorem col_drop (u : List (List Int)) (c : Nat) : colOf u.dropLast c = (colOf u c).dropLast := by unfold colOf; rw [List.map_dropLast]
theorem col_last {u : List (List Int)} {r : List Int} (h : u = u.dropLast ++ [r]) (c : Nat) : (colOf u c).getLastD 0 = r.getD c 0 := by
  rw [h]
  unfold colOf
  rw [List.map_append]
  exact List.getLastD_concat ..
def rowOk (r : List Int) : Prop := (∀ x ∈ r, 0 ≤ x) ∧ r.getLastD 0 = r.dropLast.sum
end K3

namespace K3
/-! ### tables that are the def's own -/
structure Mine (s : Addr) (H0 H : Hp) (p : Addr) (rs : List Addr) (t : List (List Int)) (m n : Nat) : Prop where
  tab : Tab H p rs t
  rect : Rect t m n
  nd : rs.Nodup
  ne : p ∉ rs
  fr : ∀ r ∈ rs, H0 r = none
  p0 : H0 p = none
  bm : BM [s] H0 H
  src : Src H s
  s0 : Src H0 s
theorem Mine.notS {s : Addr} {H0 H : Hp} {p : Addr} {rs : List Addr} {t : List (List Int)} {m n : Nat} (h : Mine s H0 H p rs t m n) : p ≠ s ∧ ∀ r ∈ rs, r ≠ s := ⟨src_ne h.s0 h.p0, fun r hr => src_ne h.s0 (h.fr r hr)⟩
theorem Tab.bm {s : Addr} {H H1 : Hp} {p : Addr} {rs : List Addr} {t : List (List Int)} (h : Tab H p rs t) (e : BM [s] H H1) (hp : p ≠ s) (hr : ∀ r ∈ rs, r ≠ s) : Tab H1 p rs t :=
  ⟨e.at h.at_ (by simpa using hp), paired_up h.rows fun r row hm z => e.at z (by simpa using hr r hm)⟩
theorem Mine.draw {s : Addr} {H0 H H1 : Hp} {p : Addr} {rs : List Addr} {t : List (List Int)} {m n : Nat} (h : Mine s H0 H p rs t m n) (e : BM [s] H H1) (q : Src H1 s) : Mine s H0 H1 p rs t m n :=
  ⟨h.tab.bm e h.notS.1 h.notS.2, h.rect, h.nd, h.ne, h.fr, h.p0, h.bm.trans e, q, h.s0⟩
theorem Mine.same {s : Addr} {H0 H H1 : Hp} {p : Addr} {rs : List Addr} {t : List (List Int)} {m n : Nat} (h : Mine s H0 H p rs t m n) (e : Same H H1) : Mine s H0 H1 p rs t m n := h.draw (BM.of e) (h.src.same e)
/-- one number of it set anew -/
theorem paired_set {α β : Type} {F G : α → β → Prop} : ∀ {xs : List α} {ys : List β}, Paired F xs ys → ∀ {i : Nat} {a : α} {b : β}, xs[i]? = some a → G a b → (∀ j x y, j ≠ i → xs[j]? = some x → F x y → G x y) → Paired G xs (ys.set i b)
  | _, _, .nil, i, a, b, h, _, _ => by simp at h
  | _, _, .cons (a := x) (b := y) h t, 0, a, b, e, hb, k => by
    have : x = a := by simpa using e
    subst this
    refine .cons hb ?_
    exact go t fun j x y hx z => k (j + 1) x y (by omega) (by simpa using hx) z
  | _, _, .cons (a := x) (b := y) h t, i + 1, a, b, e, hb, k => by
    refine .cons (k 0 x y (by omega) rfl h) ?_
    exact paired_set t (by simpa using e) hb fun j x y ne hx z => k (j + 1) x y (by omega) (by simpa using hx) z
where go {α β : Type} {F G : α → β → Prop} : ∀ {xs : List α} {ys : List β}, Paired F xs ys → (∀ (j : Nat) (x : α) (y : β), xs[j]? = some x → F x y → G x y) → Paired G xs ys
  | _, _, .nil, _ => .nil
  | _, _, .cons h t, k => .cons (k 0 _ _ rfl h) (go t fun j x y hx z => k (j + 1) x y (by simpa using hx) z)
theorem nodup_at {α : Type} : ∀ {l : List α}, l.Nodup → ∀ {i j : Nat} {a : α}, l[i]? = some a → l[j]? = some a → i = j
  | [], _, i, j, a, h, _ => by simp at h
  | x :: l, nd, 0, 0, a, _, _ => rfl
  | x :: l, nd, 0, j + 1, a, h, k => by
    have e : x = a := by simpa using h
    have m : a ∈ l := List.mem_of_getElem? (by simpa using k)
    rw [← e] at m
    exact absurd m (List.nodup_cons.mp nd).1
  | x :: l, nd, i + 1, 0, a, h, k => by
    have e : x = a := by simpa using k
    have m : a ∈ l := List.mem_of_getElem? (by simpa using h)
    rw [← e] at m
    exact absurd m (List.nodup_cons.mp nd).1
  | x :: l, nd, i + 1, j + 1, a, h, k => congrArg (· + 1) (nodup_at (List.nodup_cons.mp nd).2 (by simpa using h) (by simpa using k))
theorem Mine.put {s : Addr} {H0 H : Hp} {p : Addr} {rs : List Addr} {t : List (List Int)} {m n : Nat} (h : Mine s H0 H p rs t m n) {i j : Nat} {a : Addr} {r : List Int} (ha : rs[i]? = some a) (hr : t[i]? = some r) (x : Int) :
    Mine s H0 (upd H a (.lst ((r.set j x).map V.int))) p rs (t.set i (r.set j x)) m n := by
  have am : a ∈ rs := List.mem_of_getElem? ha
  have ap : a ≠ p := fun z => h.ne (by rw [← z]; exact am)
  refine ⟨⟨by rw [upd_ne ap.symm]; exact h.tab.at_, ?_⟩, ⟨by rw [List.length_set]; exact h.rect.1, ?_⟩, h.nd, h.ne, h.fr, h.p0, h.bm.mut (h.fr a am), h.src.upd (h.notS.2 a am) _, h.s0⟩
  · refine paired_set h.tab.rows ha upd_same fun k b row ne hb z => ?_
    show upd H a _ b = _
    rw [upd_ne (fun e => ne (nodup_at h.nd (by rw [e] at hb; exact hb) ha))]
    exact z
  · intro row hrow
    rcases List.mem_or_eq_of_mem_set hrow with z | z
    · exact h.rect.2 row z
    · rw [z, List.length_set]
      exact h.rect.2 r (List.mem_of_getElem? hr)
/-- a comprehension whose elements are new rows -/
theorem rows_new {K : PySem.W.Frag} {a D : Addr} {rs : List Addr} {t : List (List Int)} {te : TE} {vs : List Nat} {σ : L2.St} {j : Nat} {H1 : Hp} {Qd : Hp → Prop} (f : List Int → List Int) (ht : Tab H1 a rs t) (hlen : t.length ≤ 10000) (hD : H1 D = none) (hw : ∀ x, wipe ((wipe σ vs).set j (some x)) vs = wipe σ vs)
    (he : ∀ (b : Addr) (r : List Int) (H' : Hp), Same H1 H' → r ∈ t → RowAt H' b r → ∀ Q : VK, (∀ c H'', H' c = none → Same H' H'' → RowAt H'' c (f r) → Q (.ref c) H'') → te ((wipe σ vs).set j (some (.ref b))) H' Q)
    (hd : ∀ H' cs, Same H1 H' → Tab H' D cs (t.map f) → cs.Nodup → (∀ c ∈ cs, H1 c = none ∧ c ≠ D) → Qd H') : LcAt (Itl K a) D (gName j) tYes te vs σ H1 Qd := by
  have lr := ht.rows.length
  refine lc_list (xs := rs.map V.ref) (fun i H' => Same H1 H' ∧ ∃ cs : List Addr, H' D = some (.lst (cs.map V.ref)) ∧ Paired (RowAt H') cs ((t.take i).map f) ∧ cs.Nodup ∧ ∀ c ∈ cs, H1 c = none ∧ c ≠ D)
    ⟨Same.new hD _, [], upd_same, .nil, List.nodup_nil, fun c hc => (by cases hc)⟩ (fun i H' _ z => SqL.of (z.1 _ _ ht.at_)) ?_ ?_
  · rintro i x H2 hx ⟨e2, cs, hD2, hp2, nd, fr⟩
    obtain ⟨b, hb, rfl⟩ := map_ref hx
    obtain ⟨r, hr, hrb⟩ := K3.Paired.get ht.rows hb
    refine ⟨hw _, ?_⟩
    refine w_yes ?_
    refine iteT ?_
    refine he b r H2 e2 (List.mem_of_getElem? hr) (e2 _ _ hrb) _ fun c H3 hc e3 hcr => ?_
    have hD3 := e3 _ _ hD2
    have cD : c ≠ D := fun z => by rw [z, hD2] at hc; cases hc
    have lcs : cs.length ≤ 10000 := by rw [hp2.length, List.length_map, List.length_take]; omega
    refine ⟨_, hD3, Nat.lt_of_le_of_lt (show _ ≤ 10000 by rw [List.length_map]; exact lcs) (by decide), (e2.trans e3).mut hD, cs ++ [c], by rw [upd_same, List.map_append]; rfl, ?_, ?_, ?_⟩
    · rw [List.take_add_one, hr, List.map_append]
      refine K3.Paired.app (paired_up hp2 fun d row hd z => ?_) (.cons ?_ .nil)
      · show upd H3 D _ d = _
        rw [upd_ne (fr d hd).2]
        exact e3 _ _ z
      · show upd H3 D _ c = _
        rw [upd_ne cD]
        exact hcr
    · refine nodup_snoc nd fun z => ?_
      obtain ⟨row, hrow⟩ := paired_has hp2 z
      have hrow : H2 c = some _ := hrow
      rw [hc] at hrow
      cases hrow
    · intro d hd
      rcases List.mem_append.mp hd with hd | hd
      · exact fr d hd
      · rw [List.mem_singleton.mp hd]
        exact ⟨e2.free hc, cD⟩
  · rintro H2 ⟨e2, cs, hD2, hp2, nd, fr⟩
    rw [List.length_map, lr, List.take_length] at hp2
    exact hd H2 cs e2 ⟨hD2, hp2⟩ nd fr
theorem Mine.of {s : Addr} {H0 H1 H2 : Hp} {p : Addr} {cs : List Addr} {t : List (List Int)} {m n : Nat} (b : BM [s] H0 H1) (q0 : Src H0 s) (q : Src H1 s) (e : Same H1 H2) (hp : H1 p = none) (ht : Tab H2 p cs t) (hR : Rect t m n) (nd : cs.Nodup) (fr : ∀ c ∈ cs, H1 c = none ∧ c ≠ p) : Mine s H0 H2 p cs t m n :=
  ⟨ht, hR, nd, fun z => (fr p z).2 rfl, fun r hr => b.free (fr r hr).1, b.free hp, b.same e, q.same e, q0⟩
theorem rect_sums {t : List (List Int)} {m k : Nat} (h : Rect t m k) : Rect (withSums k t) (m + 1) (k + 1) := by
  unfold withSums
  refine ⟨by rw [List.length_append, List.length_map, h.1]; rfl, fun r hr => ?_⟩
  rcases List.mem_append.mp hr with hr | hr
  · obtain ⟨r', hr', rfl⟩ := List.mem_map.mp hr
    unfold addSum
    rw [List.length_append, h.2 r' hr']
    rfl
  · rw [List.mem_singleton.mp hr, List.length_map, List.length_range]
theorem w_par {ta : TA} {i j : Nat} {D : L2.Ends} {σ : L2.St} {H : Hp} (h : ta σ H fun vs H1 => ∃ v w, vs = [v, w] ∧ D.nx ((σ.set i (some v)).set j (some w)) H1) : tPar i j ta D σ H := h
theorem inc_go {K : PySem.W.Frag} {f : Int → Int → Int} {R I J U : Nat} {s : Addr} {H0 H : Hp} {p : Addr} {rs : List Addr} {t : List (List Int)} {m n i j : Nat} {x : Int} {σ : L2.St} {D : L2.Ends} (σR : σ[R]? = some (some (.ref p))) (σI : σ[I]? = some (some (.int (i : Int)))) (σJ : σ[J]? = some (some (.int (j : Int)))) (σU : σ[U]? = some (some (.int x)))
    (h : Mine s H0 H p rs t m n) (hi : i < m) (hj : j < n) (k : ∀ H' t', Mine s H0 H' p rs t' m n → D.nx σ H') :
    tAsg (tOp (rI0 fun i j => .int (f i j)) (tOp (rIxL K) (tOp (rIxL K) (tVar R) (tVar I)) (tVar J)) (tVar U)) (gSub (tOp (rIxL K) (tVar R) (tVar I)) (tVar J) rSetL) D σ H := by
  obtain ⟨a, r, ha, hr, hx⟩ := row_of h.tab (i := i) (by rw [h.rect.1]; exact hi)
  have lr : r.length = n := h.rect.2 r (List.mem_of_getElem? hr)
  refine w_asg (w_op (w_op (w_op (w_var σR (w_var σI (w_ixL h.tab.at_ (ref_at ha) ?_))))))
  refine w_var σJ (w_ixL hx (at_getD (by omega)) (w_var σU (w_i0 ?_)))
  refine w_gsub (w_op (w_var σR (w_var σI (w_ixL h.tab.at_ (ref_at ha) ?_))))
  refine w_var σJ (w_setL hx (j := j) ?_ ?_)
  · unfold ixN
    rw [if_pos (by omega), if_pos (by rw [List.length_map]; omega)]
    simp
  · rw [← List.map_set]
    exact k _ _ (h.put ha hr _)
def spSquare (K : PySem.W.Frag) : Sp := fun vs H Q _ => ∃ (s p : Addr) (rs : List Addr) (t : List (List Int)) (m n : Nat) (x : Int), vs = [.ref s, .ref p, .int x] ∧ Src H s ∧ Tab H p rs t ∧ (p ≠ s ∧ ∀ r ∈ rs, r ≠ s) ∧ Rect t m n ∧ 2 ≤ m ∧ 2 ≤ n ∧ m ≤ 50 ∧ n ≤ 50 ∧ ∀ p' H' rs' t', Mine s H H' p' rs' t' m n → Q (.ref p') H'
end K3

namespace K3
theorem inc2 {K : PySem.W.Frag} {f : Int → Int → Int} {R : Nat} {ei ej eu : TE} {s : Addr} {H0 H : Hp} {p : Addr} {rs : List Addr} {t : List (List Int)} {m n i j : Nat} {σ : L2.St} {D : L2.Ends} (σR : σ[R]? = some (some (.ref p)))
    (hei : ∀ H' t' (Q : VK), Mine s H0 H' p rs t' m n → Q (.int (i : Int)) H' → ei σ H' Q) (hej : ∀ H' t' (Q : VK), Mine s H0 H' p rs t' m n → Q (.int (j : Int)) H' → ej σ H' Q)
    (heu : ∀ H' t' (Q : VK), Mine s H0 H' p rs t' m n → (∀ x H'', Mine s H0 H'' p rs t' m n → Q (.int x) H'') → eu σ H' Q)
    (h : Mine s H0 H p rs t m n) (hi : i < m) (hj : j < n) (k : ∀ H' t', Mine s H0 H' p rs t' m n → D.nx σ H') :
    tAsg (tOp (rI0 fun i j => .int (f i j)) (tOp (rIxL K) (tOp (rIxL K) (tVar R) ei) ej) eu) (gSub (tOp (rIxL K) (tVar R) ei) ej rSetL) D σ H := by
  obtain ⟨a, r, ha, hr, hx⟩ := row_of h.tab (i := i) (by rw [h.rect.1]; exact hi)
  have lr : r.length = n := h.rect.2 r (List.mem_of_getElem? hr)
  refine w_asg (w_op (w_op (w_op (w_var σR (hei H t _ h (w_ixL h.tab.at_ (ref_at ha) ?_))))))
  refine hej H t _ h (w_ixL hx (at_getD (by omega)) (heu H t _ h fun x H2 h2 => w_i0 ?_))
  obtain ⟨a', r', ha', hr', hx2⟩ := row_of h2.tab (i := i) (by rw [h2.rect.1]; exact hi)
  obtain rfl : a = a' := Option.some.inj (ha.symm.trans ha')
  obtain rfl : r = r' := Option.some.inj (hr.symm.trans hr')
  refine w_gsub (w_op (w_var σR (hei H2 t _ h2 (w_ixL h2.tab.at_ (ref_at ha) ?_))))
  refine hej H2 t _ h2 (w_setL hx2 (j := j) ?_ ?_)
  · unfold ixN
    rw [if_pos (by omega), if_pos (by rw [List.length_map]; omega)]
    simp
  · rw [← List.map_set]
    exact k _ _ (h2.put ha hr _)
theorem paired_from {α β : Type} {F : α → β → Prop} : ∀ {xs : List α} {ys : List β}, Paired F xs ys → ∀ k, Paired F (xs.drop k) (ys.drop k)
  | _, _, .nil, k => by rw [List.drop_nil, List.drop_nil]; exact .nil
  | _, _, .cons h t, 0 => .cons h t
  | _, _, .cons h t, k + 1 => paired_from t k
theorem min_at {i j : Int} {H : Hp} : ∀ {Q : VK}, Q (.int (if j < i then j else i)) H → Q (.int (if j < i then j else i)) H := fun h => h
def spBroken (K : PySem.W.Frag) : Sp := fun vs H Q _ => ∃ (s g p : Addr) (rs rs' : List Addr) (t u : List (List Int)) (m n : Nat), vs = [.ref s, .ref g, .ref p] ∧ Src H s ∧ Tab H g rs t ∧ (g ≠ s ∧ ∀ r ∈ rs, r ≠ s) ∧ Rect t m n ∧ Tab H p rs' u ∧ (p ≠ s ∧ ∀ r ∈ rs', r ≠ s) ∧ Rect u m n ∧ 2 ≤ m ∧ 2 ≤ n ∧ m ≤ 50 ∧ n ≤ 50 ∧
  ∀ p' H' rs' t' m' n', BM [s] H H' → Src H' s → Tab H' p' rs' t' → Rect t' m' n' → 1 ≤ m' → 1 ≤ n' → m' ≤ 60 → n' ≤ 60 → Q (.ref p') H'
end K3

namespace K3
theorem Mine.trans {s : Addr} {H0 H1 H2 : Hp} {p : Addr} {rs : List Addr} {t : List (List Int)} {m n : Nat} (b : BM [s] H0 H1) (q0 : Src H0 s) (h : Mine s H1 H2 p rs t m n) : Mine s H0 H2 p rs t m n :=
  ⟨h.tab, h.rect, h.nd, h.ne, fun r hr => b.free (h.fr r hr), b.free h.p0, b.trans h.bm, h.src, q0⟩
/-- a list of hidden cells that is not the source -/
structure HidL (s : Addr) (H : Hp) (p : Addr) (ws : List V) (hs : List (Nat × Nat)) (m n : Nat) : Prop where
  at_ : H p = some (.lst ws)
  ne : p ≠ s
  src : Src H s
  cells : Paired (CellAt H) ws hs
  mem : ∀ h ∈ hs, h ∈ (cellsOf m n).dropLast
  len : hs.length ≤ 60
theorem HidL.draw {s : Addr} {H H1 : Hp} {p : Addr} {ws : List V} {hs : List (Nat × Nat)} {m n : Nat} (h : HidL s H p ws hs m n) (e : BM [s] H H1) (q : Src H1 s) : HidL s H1 p ws hs m n :=
  ⟨e.at h.at_ (by simpa using h.ne), h.ne, q, L2.Paired.mapP h.cells fun _ _ z => z.bm h.src e, h.mem, h.len⟩
theorem HidL.same {s : Addr} {H H1 : Hp} {p : Addr} {ws : List V} {hs : List (Nat × Nat)} {m n : Nat} (h : HidL s H p ws hs m n) (e : Same H H1) : HidL s H1 p ws hs m n := h.draw (BM.of e) (h.src.same e)
theorem HidL.inn {K : PySem.W.Frag} {s : Addr} {H : Hp} {p : Addr} {ws : List V} {hs : List (Nat × Nat)} {m n : Nat} (h : HidL s H p ws hs m n) : HidIn K H (.ref p) hs m n := ⟨p, ws, rfl, .inl (SqL.of h.at_), h.cells, h.mem, h.len⟩
def spShifted (K : PySem.W.Frag) : Sp := fun vs H Q _ => ∃ (s g h : Addr) (rs : List Addr) (t : List (List Int)) (ws : List V) (hs : List (Nat × Nat)) (m n : Nat), vs = [.ref s, .ref g, .ref h] ∧ Src H s ∧ Tab H g rs t ∧ (g ≠ s ∧ ∀ r ∈ rs, r ≠ s) ∧ Rect t m n ∧ HidL s H h ws hs m n ∧ Fit t hs t m n ∧ 2 ≤ m ∧ 2 ≤ n ∧ m ≤ 50 ∧ n ≤ 50 ∧
  ∀ p' H' rs' t', Mine s H H' p' rs' t' m n → Fit t hs t' m n → Q (.ref p') H'
/-! ### a grid with its sums fits itself -/
theorem sum_add (f g : Nat → Int) : ∀ l : List Nat, (l.map fun c => f c + g c).sum = (l.map f).sum + (l.map g).sum
  | [] => rfl
  | x :: l => by simp only [List.map_cons, List.sum_cons, sum_add f g l]; omega
theorem sum_zero : ∀ l : List Nat, (l.map fun _ => (0 : Int)).sum = 0
  | [] => rfl
  | _ :: l => by simp only [List.map_cons, List.sum_cons, sum_zero l]; rfl
theorem sum_getD (r : List Int) : ((List.range r.length).map fun c => r.getD c 0).sum = r.sum := by
  induction r with
  | nil => rfl
  | cons x r ih =>
    rw [List.length_cons, List.range_succ_eq_map, List.map_cons, List.map_map, List.sum_cons, List.sum_cons, ← ih]
    rfl
theorem fubini (k : Nat) : ∀ t : List (List Int), (∀ r ∈ t, r.length = k) → ((List.range k).map fun c => (colOf t c).sum).sum = (t.map List.sum).sum
  | [], _ => by
    show ((List.range k).map fun _ => (0 : Int)).sum = 0
    exact sum_zero _
  | r :: t, h => by
    have ih := fubini k t fun r hr => h r (List.mem_cons_of_mem _ hr)
    have e : ((List.range k).map fun c => (colOf (r :: t) c).sum) = (List.range k).map fun c => r.getD c 0 + (colOf t c).sum := rfl
    rw [e, sum_add, ih, List.map_cons, List.sum_cons, ← h r (List.mem_cons_self ..), sum_getD]
theorem fit_self {t : List (List Int)} {k m : Nat} (hk : ∀ r ∈ t, r.length = k ∧ ∀ x ∈ r, 0 ≤ x) (hm : t.length = m) (hs : List (Nat × Nat)) : Fit (withSums k t) hs (withSums k t) (m + 1) (k + 1) := by
  have sum_nn : ∀ l : List Int, (∀ x ∈ l, 0 ≤ x) → 0 ≤ l.sum := by
    intro l
    induction l with
    | nil => intro _; exact Int.le_refl 0
    | cons x l ih =>
      intro h
      have h1 := h x (List.mem_cons_self ..)
      have h2 := ih fun y hy => h y (List.mem_cons_of_mem _ hy)
      rw [List.sum_cons]
      omega
  have nnA : ∀ r ∈ t.map addSum, ∀ x ∈ r, 0 ≤ x := by
    intro r hr x hx
    obtain ⟨r', hr', rfl⟩ := List.mem_map.mp hr
    unfold addSum at hx
    rcases List.mem_append.mp hx with hx | hx
    · exact (hk r' hr').2 x hx
    · rw [List.mem_singleton.mp hx]
      exact sum_nn _ (hk r' hr').2
  have getD_nn : ∀ (r : List Int) (c : Nat), (∀ x ∈ r, 0 ≤ x) → 0 ≤ r.getD c 0 := by
    intro r c h
    rw [List.getD_eq_getElem?_getD]
    cases e : r[c]? with
    | none => exact Int.le_refl 0
    | some x => exact h x (List.mem_of_getElem? e)
  refine ⟨rect_sums ⟨hm, fun r hr => (hk r hr).1⟩, ?_, ⟨?_, ?_⟩, fun i _ j _ _ => rfl⟩
  · intro r hr x hx
    unfold withSums at hr
    rcases List.mem_append.mp hr with hr | hr
    · exact nnA r hr x hx
    · rw [List.mem_singleton.mp hr] at hx
      obtain ⟨c, _, rfl⟩ := List.mem_map.mp hx
      refine sum_nn _ fun y hy => ?_
      obtain ⟨r', hr', rfl⟩ := List.mem_map.mp hy
      exact getD_nn r' c (nnA r' hr')
  · intro r hr
    unfold withSums at hr
    rcases List.mem_append.mp hr with hr | hr
    · obtain ⟨r', hr', rfl⟩ := List.mem_map.mp hr
      unfold addSum
      rw [List.getLastD_concat, List.dropLast_concat]
    · rw [List.mem_singleton.mp hr, List.range_succ, List.map_append]
      rw [show ((List.range k).map (fun c => (colOf (t.map addSum) c).sum)) ++ [k].map (fun c => (colOf (t.map addSum) c).sum) = ((List.range k).map fun c => (colOf (t.map addSum) c).sum) ++ [(colOf (t.map addSum) k).sum] from rfl, List.getLastD_concat, List.dropLast_concat]
      have c1 : ∀ c ∈ List.range k, (colOf (t.map addSum) c).sum = (colOf t c).sum := by
        intro c hc
        congr 1
        unfold colOf
        rw [List.map_map]
        refine List.map_congr_left fun r hr => ?_
        have := (hk r hr).1
        have hc := List.mem_range.mp hc
        show (addSum r).getD c 0 = r.getD c 0
        unfold addSum
        rw [List.getD_eq_getElem?_getD, List.getD_eq_getElem?_getD, List.getElem?_append_left (by omega)]
      rw [List.map_congr_left c1, fubini k t fun r hr => (hk r hr).1]
      congr 1
      unfold colOf
      rw [List.map_map]
      refine List.map_congr_left fun r hr => ?_
      have := (hk r hr).1
      show (addSum r).getD k 0 = r.sum
      unfold addSum
      rw [List.getD_eq_getElem?_getD, List.getElem?_append_right (by omega), this]
      simp
  · intro c hc
    unfold RightCol
    have e : colOf (withSums k t) c = colOf (t.map addSum) c ++ [(colOf (t.map addSum) c).sum] := by
      unfold withSums
      show (t.map addSum ++ [_]).map _ = _
      rw [List.map_append]
      congr 1
      show [((List.range (k + 1)).map fun c => (colOf (t.map addSum) c).sum).getD c 0] = _
      rw [List.getD_eq_getElem?_getD, List.getElem?_map, List.getElem?_range hc]
      rfl
    rw [e, List.getLastD_concat, List.dropLast_concat]
end K3

namespace K3
def spLaw (K : PySem.W.Frag) : Sp := fun vs H Q _ => ∃ (a : Addr) (ns : List Int), vs = [.ref a] ∧ SqL K H a (ns.map V.int) ∧ ns.length ≤ 63 ∧ ∀ H', Q (.bl true) H'
theorem fit_same {t u : List (List Int)} {hs hs' : List (Nat × Nat)} {m n : Nat} (h : ∀ c, c ∈ hs ↔ c ∈ hs') : Fit t hs u m n ↔ Fit t hs' u m n := by
  unfold Fit
  simp only [h]
theorem paired_rev {α β : Type} {F : α → β → Prop} : ∀ {xs : List α} {ys : List β}, Paired F xs ys → Paired F xs.reverse ys.reverse
  | _, _, .nil => .nil
  | _, _, .cons h t => by
    rw [List.reverse_cons, List.reverse_cons]
    exact K3.Paired.app (paired_rev t) (.cons h .nil)
theorem same_new {s : Addr} {H H1 H2 : Hp} (h0 : H s = none) (e : Same H H1) (b : BM [s] H1 H2) : Same H H2 := fun c o h => b.at (e _ _ h) (by simpa using fun z => by rw [z, h0] at h; cases h)
/-! ### tables as data -/
def tabD (t : List (List Int)) : PyData := .list (t.map fun r => .list (r.map PyData.int))
theorem rows_dp {K : PySem.W.Frag} {H : Hp} : ∀ {rs : List Addr} {t : List (List Int)}, Paired (RowAt H) rs t → DpAll K H (rs.map V.ref) (t.map fun r => .list (r.map PyData.int))
  | _, _, .nil => .nil
  | _, _, .cons h t => .cons (lst_dp h) (rows_dp t)
theorem tab_dp {K : PySem.W.Frag} {H : Hp} {p : Addr} {rs : List Addr} {t : List (List Int)} (h : Tab H p rs t) : Dp K H (.ref p) (tabD t) := .lst (SqL.of h.at_) (rows_dp h.rows)
theorem lay_rows : ∀ t : List (List Int), PyData.canLayAll0 (t.map fun r => .list (r.map PyData.int)) = true ∧ PyData.depthAll (t.map fun r => .list (r.map PyData.int)) ≤ 2
  | [] => by simp [PyData.canLayAll0, PyData.depthAll]
  | r :: t => by
    obtain ⟨a, b⟩ := lay_rows t
    obtain ⟨c, d⟩ := lay_ints r
    simp only [List.map_cons, PyData.canLayAll0, PyData.depthAll, PyData.canLay0, PyData.depth]
    exact ⟨by rw [a, c]; rfl, by omega⟩
theorem lay_cells : ∀ hs : List (Nat × Nat), PyData.canLayAll0 (hs.map cellD) = true ∧ PyData.depthAll (hs.map cellD) ≤ 5
  | [] => by simp [PyData.canLayAll0, PyData.depthAll]
  | c :: hs => by
    obtain ⟨a, b⟩ := lay_cells hs
    have d : (cellD c).canLay0 = true ∧ (cellD c).depth ≤ 5 := by
      unfold cellD
      exact ⟨rfl, by simp [PyData.depth, PyData.depthAll]⟩
    simp only [List.map_cons, PyData.canLayAll0, PyData.depthAll]
    exact ⟨by rw [a, d.1]; rfl, by omega⟩
def allD (t : List (List Int)) (hs : List (Nat × Nat)) (u : List (List Int)) : PyData := .tuple [tabD t, .list (hs.map cellD), tabD u]
theorem all_lay (t : List (List Int)) (hs : List (Nat × Nat)) (u : List (List Int)) : SeqAt.shaped (allD t hs u) = true ∧ PyData.eqv (allD t hs u) (allD t hs u) = true := by
  obtain ⟨a1, a2⟩ := lay_rows t
  obtain ⟨b1, b2⟩ := lay_cells hs
  obtain ⟨c1, c2⟩ := lay_rows u
  have c : (allD t hs u).canLay0 = true := by
    unfold allD tabD
    simp only [PyData.canLay0, PyData.canLayAll0, a1, b1, c1]
    rfl
  have d : (allD t hs u).depth ≤ 64 := by
    unfold allD tabD
    simp only [PyData.depth, PyData.depthAll]
    omega
  refine ⟨?_, SeqAt.eqv_refl _ c⟩
  unfold SeqAt.shaped
  rw [c, decide_eq_true d]
  rfl
theorem w_rev {K : PySem.W.Frag} {te : TE} {σ : L2.St} {H : Hp} {Q : VK} (h : te σ H fun x H1 => ∃ a xs, x = .ref a ∧ SqL K H1 a xs ∧ ∀ p, H1 p = none → Q (.ref p) (upd H1 p (.lst xs.reverse))) : tRevL K te σ H Q := h
theorem cut_mem {xs : List V} {lo hi : Option Int} {x : V} (h : x ∈ cutV xs lo hi) : x ∈ xs := by
  unfold cutV at h
  exact List.mem_of_mem_drop (List.mem_of_mem_take h)
end K3
end C7_part
section E2_part
set_option Elab.async false
set_option linter.all false
set_option maxRecDepth 100000
set_option maxHeartbeats 1000000
set_option pp.deepTerms.threshold 5
open PySem PySem.Spec PyProof.Rows L2
/-- go on as far as nothing is open -/
local macro_rules | `(tactic| walk_at "go") => `(tactic| repeat (first
  | with_reducible refine w_seq ?_ | with_reducible refine w_next ?_ | with_reducible refine w_set ?_ | with_reducible refine w_drop ?_ | with_reducible refine w_ret ?_ | with_reducible refine w_retN ?_
  | with_reducible refine w_if ?_ | ((with_reducible refine' w_var ?hv ?_); (case hv => exact rfl)) | with_reducible refine w_c ?_ | with_reducible refine w_nil ?_ | with_reducible refine w_cons ?_ | with_reducible refine w_op ?_ | with_reducible refine w_un ?_
  | with_reducible refine w_test ?_ | with_reducible refine w_tB ?_ | with_reducible refine w_not ?_ | with_reducible refine w_and ?_ | with_reducible refine w_or ?_ | with_reducible refine w_bl ?_
  | with_reducible refine w_andV ?_ | with_reducible refine w_orV ?_ | with_reducible refine w_notV ?_ | with_reducible refine w_ifE ?_ | with_reducible refine w_chain ?_ | with_reducible refine w_i0 ?_
  | with_reducible refine w_call ?_ | with_reducible refine w_callS ?_ | with_reducible refine w_cB ?_ | with_reducible refine w_tup ?_ | with_reducible refine w_lst ?_ | with_reducible refine w_fldV ?_
  | with_reducible refine w_neF ?_ | with_reducible refine w_neT ?_ | with_reducible refine w_notN ?_ | with_reducible refine w_isN ?_ | with_reducible refine w_gname ?_ | with_reducible refine w_gsub ?_ | with_reducible refine w_asg ?_ | with_reducible refine w_sl ?_ | with_reducible refine w_noP ?_ | with_reducible refine w_int1 ?_ | with_reducible refine w_part ?_ | with_reducible refine w_yes ?_ | with_reducible refine w_nT ?_ | with_reducible refine w_nF ?_ | with_reducible refine w_iteT ?_ | with_reducible refine w_iteF ?_))
namespace K3
/-- a comprehension over a grid's rows whose elements are new rows -/
theorem rows_newE {K : PySem.W.Frag} {a D : Addr} {rs : List Addr} {t : List (List Int)} {te : TE} {vs : List Nat} {σ : L2.St} {j : Nat} {H1 : Hp} {b : Bool} {Qd : Hp → Prop} (f : List Int → List Int) (hs : SqB K H1 b a (rs.map V.ref)) (hr : Paired (fun r row => SqE K H1 r (row.map V.int)) rs t) (hlen : t.length ≤ 10000) (hD : H1 D = none) (hw : ∀ x, wipe ((wipe σ vs).set j (some x)) vs = wipe σ vs)
    (he : ∀ (c : Addr) (r : List Int) (H' : Hp), Same H1 H' → r ∈ t → SqE K H' c (r.map V.int) → ∀ Q : VK, (∀ d H'', H' d = none → Same H' H'' → RowAt H'' d (f r) → Q (.ref d) H'') → te ((wipe σ vs).set j (some (.ref c))) H' Q)
    (hd : ∀ H' cs, Same H1 H' → Tab H' D cs (t.map f) → cs.Nodup → (∀ c ∈ cs, H1 c = none ∧ c ≠ D) → Qd H') : LcAt (ItB K b a) D (gName j) tYes te vs σ H1 Qd := by
  have lr := hr.length
  refine lc_it (walk_B (K := K) (a := a) (xs := rs.map V.ref) (b := b)) (fun i H' => Same H1 H' ∧ ∃ cs : List Addr, H' D = some (.lst (cs.map V.ref)) ∧ Paired (RowAt H') cs ((t.take i).map f) ∧ cs.Nodup ∧ ∀ c ∈ cs, H1 c = none ∧ c ≠ D)
    ⟨Same.new hD _, [], upd_same, .nil, List.nodup_nil, fun c hc => (by cases hc)⟩ (fun i H' _ z => hs.same z.1) ?_ ?_
  · rintro i x H2 H2' _ ⟨e2, cs, hD2, hp2, nd, fr⟩ ⟨rfl, hx⟩
    obtain ⟨c0, hb, rfl⟩ := map_ref hx
    obtain ⟨r, hr', hrb⟩ := K3.Paired.get hr hb
    refine ⟨hw _, ?_⟩
    refine w_yes ?_
    refine iteT ?_
    refine he c0 r H2' e2 (List.mem_of_getElem? hr') (hrb.same e2) _ fun c H3 hc e3 hcr => ?_
    have hD3 := e3 _ _ hD2
    have cD : c ≠ D := fun z => by rw [z, hD2] at hc; cases hc
    have lcs : cs.length ≤ 10000 := by rw [hp2.length, List.length_map, List.length_take]; omega
    refine ⟨_, hD3, Nat.lt_of_le_of_lt (show _ ≤ 10000 by rw [List.length_map]; exact lcs) (by decide), (e2.trans e3).mut hD, cs ++ [c], by rw [upd_same, List.map_append]; rfl, ?_, ?_, ?_⟩
    · rw [List.take_add_one, hr', List.map_append]
      refine K3.Paired.app (paired_up hp2 fun d row hd z => ?_) (.cons ?_ .nil)
      · show upd H3 D _ d = _
        rw [upd_ne (fr d hd).2]
        exact e3 _ _ z
      · show upd H3 D _ c = _
        rw [upd_ne cD]
        exact hcr
    · refine nodup_snoc nd fun z => ?_
      obtain ⟨row, hrow⟩ := paired_has hp2 z
      have hrow : H2' c = some _ := hrow
      rw [hc] at hrow
      cases hrow
    · intro d hd
      rcases List.mem_append.mp hd with hd | hd
      · exact fr d hd
      · rw [List.mem_singleton.mp hd]
        exact ⟨e2.free hc, cD⟩
  · rintro H2 ⟨e2, cs, hD2, hp2, nd, fr⟩
    rw [List.length_map, lr, List.take_length] at hp2
    exact hd H2 cs e2 ⟨hD2, hp2⟩ nd fr
end K3
end E2_part
section F1_part
set_option Elab.async false
set_option linter.all false
set_option maxRecDepth 100000
set_option maxHeartbeats 1000000
set_option pp.deepTerms.threshold 5
open PySem PySem.Spec PyProof.Rows L2
/-- go on as far as nothing is open -/
local macro_rules | `(tactic| walk_at "go") => `(tactic| repeat (first
  | with_reducible refine w_seq ?_ | with_reducible refine w_next ?_ | with_reducible refine w_set ?_ | with_reducible refine w_drop ?_ | with_reducible refine w_ret ?_ | with_reducible refine w_retN ?_
  | with_reducible refine w_if ?_ | ((with_reducible refine' w_var ?hv ?_); (case hv => exact rfl)) | with_reducible refine w_c ?_ | with_reducible refine w_nil ?_ | with_reducible refine w_cons ?_ | with_reducible refine w_op ?_ | with_reducible refine w_un ?_
  | with_reducible refine w_test ?_ | with_reducible refine w_tB ?_ | with_reducible refine w_not ?_ | with_reducible refine w_and ?_ | with_reducible refine w_or ?_ | with_reducible refine w_bl ?_
  | with_reducible refine w_andV ?_ | with_reducible refine w_orV ?_ | with_reducible refine w_notV ?_ | with_reducible refine w_ifE ?_ | with_reducible refine w_chain ?_ | with_reducible refine w_i0 ?_
  | with_reducible refine w_call ?_ | with_reducible refine w_callS ?_ | with_reducible refine w_cB ?_ | with_reducible refine w_tup ?_ | with_reducible refine w_lst ?_ | with_reducible refine w_fldV ?_
  | with_reducible refine w_neF ?_ | with_reducible refine w_neT ?_ | with_reducible refine w_notN ?_ | with_reducible refine w_isN ?_ | with_reducible refine w_gname ?_ | with_reducible refine w_gsub ?_ | with_reducible refine w_asg ?_ | with_reducible refine w_sl ?_ | with_reducible refine w_noP ?_ | with_reducible refine w_int1 ?_ | with_reducible refine w_part ?_ | with_reducible refine w_yes ?_ | with_reducible refine w_nT ?_ | with_reducible refine w_nF ?_ | with_reducible refine w_iteT ?_ | with_reducible refine w_iteF ?_))
namespace L2
open PySem PySem.Spec PyProof.Rows
section
variable {X : Cx} {pins : List (Addr × Obj)} {σ : L2.St} {H : Hp} {s : Shared} {a b : Addr} {r : Value} {z : V} {ks : List L2.Key} {A : Around} {E : Value → Shared → Prop}
/-- d.setdefault(t, z), t a tuple of ints and texts -/
theorem d_setdT {kvs : List (List L2.Key × V)} {Q : Value → Shared → Prop} (hu : A.units + 1 < cLine) (I : Inv X pins σ H s) (e : H a = some (.dT kvs)) (eb : H b = some (.tup (ks.map kV))) (rd : RelV z r) (hl : kvs.length < sizeLine)
    (h1 : ∀ v, valV kvs ks = some v → ∀ w' s', Inv X pins σ H s' → RelV v w' → Q w' s') (h2 : valV kvs ks = none → ∀ w' s', Inv X pins σ (upd H a (.dT (putK kvs ks z))) s' → RelV z w' → Q w' s') :
    wpAny (model X.prog X.w) A (call (.builtin "dict.setdefault") [.ref a, .ref b, r]) Q E s := by
  obtain ⟨z1, z2, xs, rel, dd⟩ := dt_of I.hok e
  have lx : xs.length ≤ sizeLine := by
    have := Paired.length rel
    omega
  refine call_setdefault_heap (hsz := lx) (tupleKind_room_in1 hu) (key_of I.hok eb) z2 dd (fun p hp => ?_) fun hn h' dd' hs => ?_
  · have q := rel.val ks
    rw [hp] at q
    cases q0 : valV kvs ks with
    | none => rw [q0] at q; exact (show False from q).elim
    | some v => rw [q0] at q; exact h1 v q0 _ _ (I.tok _) q
  · have q := rel.val ks
    rw [hn] at q
    cases q0 : valV kvs ks with
    | some v => rw [q0] at q; exact (show False from q).elim
    | none =>
      have l2 : (putK kvs ks z).length ≤ sizeLine := by
        have := length_putK kvs ks z
        omega
      obtain ⟨o, es, ep, g1, g2, g3, g4, _, g5⟩ := dd'
      refine h2 q0 _ _ (d_write I (by rw [e]; exact True.intro) hs ⟨o, g1⟩ ⟨l2, z2, _, (rel.put ks eb rd).keeps fun c ys ec => ?_, o, es, ep, g1, g2, g3, g4, g5⟩) rd
      rw [upd_ne (ne_of ec e (fun z => nomatch z))]
      exact ec
end
def tSetdT (td ty tx : TE) : TE := fun σ H Q => td σ H fun x H1 => ∃ a, x = .ref a ∧ IsD H1 a ∧ ty σ H1 fun y H2 => tx σ H2 fun z H3 => ∃ (kvs : List (List L2.Key × V)) (ks : List L2.Key) (b : Addr), H3 a = some (.dT kvs) ∧ y = .ref b ∧ H3 b = some (.tup (ks.map kV)) ∧ kvs.length < sizeLine ∧
  (∀ v, valV kvs ks = some v → Q v H3) ∧ (valV kvs ks = none → Q z (upd H3 a (.dT (putK kvs ks z))))
section
variable {X : Cx} {o e f : Expr} {td ty tx : TE} {apos cpos : Pos}
theorem pe_setdT (hu : X.A.units + 1 < cLine) (ho : PE X o td) (he : PE X e ty) (hf : PE X f tx) (m : M2 X o "setdefault" apos e f cpos) : PE X (.Call (.Attribute o "setdefault" apos) [e, f] [] cpos) (tSetdT td ty tx) := by
  refine ⟨fun pins s σ H Q I h => ?_⟩
  refine wpAny_Call_method m.base m.few m.line PySem.F.plainAttrs_dict PySem.F.slot_dict_setdefault PySem.F.type_dict_setdefault ?_
  refine thn (ho.run pins s σ H _ I h) fun u s1 ⟨x, H1, I1, rx, a, ex, d, q1⟩ => ?_
  subst ex
  obtain rfl : u = Value.ref a := rx
  obtain ⟨t1, t2, _⟩ := isD_at I1 d
  refine ⟨t1, t2, ?_⟩
  rw [m.trees]
  refine Calls.callWith_builtin rfl (Calls.evalArgs_plain (Calls.spliced_cons ?_))
  refine thn (he.run pins s1 σ H1 _ I1 q1) fun iv s2 ⟨y, H2, I2, ry, q2⟩ => Calls.spliced_cons ?_
  refine thn (hf.run pins s2 σ H2 _ I2 q2) fun fv s3 ⟨z, H3, I3, rz, kvs, ks, b, ea, ey, eb, hl, q3, q4⟩ => Calls.spliced_nil ?_
  subst ey
  obtain rfl : iv = Value.ref b := ry
  exact d_setdT hu I3 ea eb rz hl (fun v hv w' s4 I4 rw' => ⟨v, _, I4, rw', q3 v hv⟩) fun hn w' s4 I4 rw' => ⟨z, _, I4, rw', q4 hn⟩
end
end L2
namespace K3
/-! ### places, steps, ways: the model -/
abbrev Pl := Bool × Nat
structure Stp where
  to : Pl
  c : Nat × Nat
  up : Bool
deriving DecidableEq
def plName (p : Pl) : Str := if p.1 then "row" else "column"
def plKey (p : Pl) : List L2.Key := [.inr (plName p), .inl (p.2 : Int)]
theorem plKey_inj {p q : Pl} (h : plKey p = plKey q) : p = q := by
  obtain ⟨a, i⟩ := p
  obtain ⟨b, j⟩ := q
  unfold plKey plName at h
  simp only [List.cons.injEq, Sum.inr.injEq, Sum.inl.injEq, and_true] at h
  obtain ⟨h1, h2⟩ := h
  have e : i = j := by omega
  subst e
  cases a with
  | true =>
    cases b with
    | true => rfl
    | false => exact absurd h1 (show ¬ (("row" : Str) = "column") by decide)
  | false =>
    cases b with
    | true => exact absurd h1 (show ¬ (("column" : Str) = "row") by decide)
    | false => rfl
def PlAt (H : Hp) (v : V) (p : Pl) : Prop := ∃ a, v = .ref a ∧ H a = some (.tup ((plKey p).map kV))
theorem PlAt.same {H H' : Hp} (e : Same H H') {v : V} {p : Pl} (h : PlAt H v p) : PlAt H' v p := let ⟨a, h1, h2⟩ := h; ⟨a, h1, e _ _ h2⟩
def sgn (b : Bool) : Int := if b then 1 else -1
def StAt (H : Hp) (v : V) (s : Stp) : Prop := ∃ a vg vc, v = .ref a ∧ H a = some (.tup [vg, vc, .int (sgn s.up)]) ∧ PlAt H vg s.to ∧ CellAt H vc s.c
theorem StAt.same {H H' : Hp} (e : Same H H') {v : V} {s : Stp} (h : StAt H v s) : StAt H' v s := let ⟨a, vg, vc, h1, h2, h3, h4⟩ := h; ⟨a, vg, vc, h1, e _ _ h2, h3.same e, h4.same e⟩
def arcF (m n : Nat) (c : Nat × Nat) : Pl × Pl := if decide (c.1 = m - 1) = decide (c.2 = n - 1) then ((true, c.1), (false, c.2)) else ((false, c.2), (true, c.1))
theorem arc_ne (m n : Nat) (c : Nat × Nat) : (arcF m n c).1 ≠ (arcF m n c).2 := by
  unfold arcF
  split <;> simp
def stepsF (m n : Nat) (cs : List (Nat × Nat)) (p : Pl) : List Stp := cs.filterMap fun c => if (arcF m n c).1 = p then some ⟨(arcF m n c).2, c, true⟩ else if (arcF m n c).2 = p then some ⟨(arcF m n c).1, c, false⟩ else none
theorem stepsF_snoc (m n : Nat) (cs : List (Nat × Nat)) (c : Nat × Nat) (p : Pl) : stepsF m n (cs ++ [c]) p = stepsF m n cs p ++ (if (arcF m n c).1 = p then [⟨(arcF m n c).2, c, true⟩] else if (arcF m n c).2 = p then [⟨(arcF m n c).1, c, false⟩] else []) := by
  unfold stepsF
  rw [List.filterMap_append]
  congr 1
  simp only [List.filterMap_cons, List.filterMap_nil]
  by_cases h1 : (arcF m n c).1 = p
  · rw [if_pos h1, if_pos h1]
  · rw [if_neg h1, if_neg h1]
    by_cases h2 : (arcF m n c).2 = p
    · rw [if_pos h2, if_pos h2]
    · rw [if_neg h2, if_neg h2]
def spArc (K : PySem.W.Frag) : Sp := fun vs H Q _ => ∃ (g : Addr) (v : V) (rs : List Addr) (t : List (List Int)) (m n : Nat) (c : Nat × Nat), vs = [.ref g, v] ∧ GT K H g rs t ∧ Rect t m n ∧ 1 ≤ m ∧ 1 ≤ n ∧ CellAt H v c ∧
  ∀ a H' v1 v2, Same H H' → H' a = some (.tup [v1, v2]) → PlAt H' v1 (arcF m n c).1 → PlAt H' v2 (arcF m n c).2 → Q (.ref a) H'
section
variable {P : Program} {w : World} {K : PySem.W.Frag} {mg : Str → Option Value} {base : Heap}
theorem sc_arc_of : FnScope ["grid", "cell", "row", "column", "last_row", "last_column"] ["grid", "cell"] (defScope s_arc_of) := ⟨rfl, rfl, rfl, by decide +kernel, rfl, by decide +kernel, by decide +kernel⟩
theorem ok_arc_of (T : Tx K mg) : Ok P w K mg base 2 (He.ga K "arc_of") ["grid", "cell"] (spArc K) := by
  obtain ⟨fd, F⟩ := T.f_arc_of
  have Olast_cell := ok_last_cell (P := P) (w := w) (base := base) T
  refine ⟨fd, F.ok (k := 1) sc_arc_of (fun vs H Q E h => ?_) (fun cdv A outer s_ H vs Q E hr h => ?_), F.bindsN fun _ _ _ _ _ _ us hl => match us, hl with | [_, _], _ => rfl, F.kp⟩
  · obtain ⟨g, v, rs, t, m, n, c, rfl, ht, hR, m1, n1, ⟨a, rfl, ha⟩, q⟩ := h
    rfl
  obtain ⟨g, v, rs, t, m, n, c, rfl, ht, hR, m1, n1, ⟨a, rfl, ha⟩, q⟩ := h
  have hu65 := K3.Room.units65 hr
  have hu64 := Nat.lt_of_succ_lt hu65
  have hu0 := Nat.lt_of_le_of_lt (Nat.le_add_right _ 65) hu65
  have hu1 := Nat.lt_of_le_of_lt (Nat.add_le_add_left (show 1 ≤ 65 by decide) _) hu65
  have rlast_cell : Room 1 _ := hr.mono (by decide)
  refine ⟨_, pss_cons (ps_asg (pv 1) (pg_tup (by rfl) (pgs_cons (pg_name (i := 2) sc_arc_of.nd rfl (Or.inl rfl)) (pgs_cons (pg_name (i := 3) sc_arc_of.nd rfl (Or.inl rfl)) pgs_nil))))
      (pss_cons (ps_asg (pe_f Olast_cell rlast_cell T.g_last_cell (pa_cons (pv 0) pa_nil)) (pg_tup (by rfl) (pgs_cons (pg_name (i := 4) sc_arc_of.nd rfl (Or.inl rfl)) (pgs_cons (pg_name (i := 5) sc_arc_of.nd rfl (Or.inl rfl)) pgs_nil))))
      (pss_cons (ps_if (pt_cmpR op_ne (pe_cmpR op_eq (pv 2) (pv 4) rfl) (pe_cmpR op_eq (pv 3) (pv 5) rfl) (nomark _)) (pss_one (ps_ret (pe_tup (pa_cons (pe_tup (pa_cons pe_str (pa_cons (pv 3) pa_nil))) (pa_cons (pe_tup (pa_cons pe_str (pa_cons (pv 2) pa_nil))) pa_nil))))) pss_nil)
      (pss_one (ps_ret (pe_tup (pa_cons (pe_tup (pa_cons pe_str (pa_cons (pv 2) pa_nil))) (pa_cons (pe_tup (pa_cons pe_str (pa_cons (pv 3) pa_nil))) pa_nil))))))), ?_⟩
  walk_at "go"
  refine ⟨a, _, rfl, SqT.of ha, rfl, _, _, rfl, _, _, rfl, rfl, ?_⟩
  walk_at "go"
  refine ⟨g, rs, t, m, n, rfl, ht, hR, m1, n1, fun b H1 e1 ⟨b', eb, hb⟩ => ?_⟩
  cases eb
  refine ⟨b, _, rfl, SqT.of hb, rfl, _, _, rfl, _, _, rfl, rfl, ?_⟩
  walk_at "go"
  refine w_eqI ?_
  rw [decV]
  walk_at "go"
  refine w_eqI ?_
  rw [decV]
  rw [show decide ((c.1 : Int) = (((m - 1, n - 1) : Nat × Nat).1 : Int)) = decide (c.1 = m - 1) from decide_eq_decide.mpr (by simp only; omega), show decide ((c.2 : Int) = (((m - 1, n - 1) : Nat × Nat).2 : Int)) = decide (c.2 = n - 1) from decide_eq_decide.mpr (by simp only; omega)]
  refine ⟨rfl, ?_⟩
  walk_at "go"
  have tup2 : ∀ (H2 : Hp) (b1 b2 : Bool) (i1 i2 : Nat), Same H H2 → arcF m n c = ((b1, i1), (b2, i2)) → ∀ t1, H2 t1 = none → ∀ t2, (upd H2 t1 (.tup [.str (plName (b1, i1)), .int (i1 : Int)])) t2 = none → ∀ t3, (upd (upd H2 t1 (.tup [.str (plName (b1, i1)), .int (i1 : Int)])) t2 (.tup [.str (plName (b2, i2)), .int (i2 : Int)])) t3 = none → Q (.ref t3) (upd (upd (upd H2 t1 (.tup [.str (plName (b1, i1)), .int (i1 : Int)])) t2 (.tup [.str (plName (b2, i2)), .int (i2 : Int)])) t3 (.tup [V.ref t1, .ref t2])) := by
    intro H2 b1 b2 i1 i2 e2 ea t1 ht1 t2 ht2 t3 ht3
    have f1 := Same.new ht1 (.tup [.str (plName (b1, i1)), .int (i1 : Int)])
    have f2 := Same.new ht2 (.tup [.str (plName (b2, i2)), .int (i2 : Int)])
    have f3 := Same.new ht3 (.tup [V.ref t1, .ref t2])
    refine q t3 _ (.ref t1) (.ref t2) (e2.trans (f1.trans (f2.trans f3))) upd_same ?_ ?_
    · rw [ea]
      exact ⟨t1, rfl, (f2.trans f3) _ _ upd_same⟩
    · rw [ea]
      exact ⟨t2, rfl, f3 _ _ upd_same⟩
  by_cases hc : decide (c.1 = m - 1) = decide (c.2 = n - 1)
  · have ea : arcF m n c = ((true, c.1), (false, c.2)) := by unfold arcF; rw [if_pos hc]
    rw [decide_eq_true (by rw [hc] : V.bl (decide (c.1 = m - 1)) = V.bl (decide (c.2 = n - 1)))]
    walk_at "go"
    refine ⟨(by show 2 ≤ sizeLine; decide), fun t1 ht1 => ?_⟩
    walk_at "go"
    refine ⟨(by show 2 ≤ sizeLine; decide), fun t2 ht2 => ?_⟩
    refine ⟨(by show 2 ≤ sizeLine; decide), fun t3 ht3 => ?_⟩
    exact tup2 H1 true false c.1 c.2 e1 ea t1 ht1 t2 ht2 t3 ht3
  · have ea : arcF m n c = ((false, c.2), (true, c.1)) := by unfold arcF; rw [if_neg hc]
    rw [decide_eq_false (fun z => hc (V.bl.inj z) : ¬ V.bl (decide (c.1 = m - 1)) = V.bl (decide (c.2 = n - 1)))]
    walk_at "go"
    refine ⟨(by show 2 ≤ sizeLine; decide), fun t1 ht1 => ?_⟩
    walk_at "go"
    refine ⟨(by show 2 ≤ sizeLine; decide), fun t2 ht2 => ?_⟩
    refine ⟨(by show 2 ≤ sizeLine; decide), fun t3 ht3 => ?_⟩
    exact tup2 H1 false true c.2 c.1 e1 ea t1 ht1 t2 ht2 t3 ht3
end
end K3
end F1_part
section F2_part
set_option Elab.async false
set_option linter.all false
set_option maxRecDepth 100000
set_option maxHeartbeats 1000000
set_option pp.deepTerms.threshold 5
open PySem PySem.Spec PyProof.Rows L2
/-- go on as far as nothing is open -/
local macro_rules | `(tactic| walk_at "go") => `(tactic| repeat (first
  | with_reducible refine w_seq ?_ | with_reducible refine w_next ?_ | with_reducible refine w_set ?_ | with_reducible refine w_drop ?_ | with_reducible refine w_ret ?_ | with_reducible refine w_retN ?_
  | with_reducible refine w_if ?_ | ((with_reducible refine' w_var ?hv ?_); (case hv => exact rfl)) | with_reducible refine w_c ?_ | with_reducible refine w_nil ?_ | with_reducible refine w_cons ?_ | with_reducible refine w_op ?_ | with_reducible refine w_un ?_
  | with_reducible refine w_test ?_ | with_reducible refine w_tB ?_ | with_reducible refine w_not ?_ | with_reducible refine w_and ?_ | with_reducible refine w_or ?_ | with_reducible refine w_bl ?_
  | with_reducible refine w_andV ?_ | with_reducible refine w_orV ?_ | with_reducible refine w_notV ?_ | with_reducible refine w_ifE ?_ | with_reducible refine w_chain ?_ | with_reducible refine w_i0 ?_
  | with_reducible refine w_call ?_ | with_reducible refine w_callS ?_ | with_reducible refine w_cB ?_ | with_reducible refine w_tup ?_ | with_reducible refine w_lst ?_ | with_reducible refine w_fldV ?_
  | with_reducible refine w_neF ?_ | with_reducible refine w_neT ?_ | with_reducible refine w_notN ?_ | with_reducible refine w_isN ?_ | with_reducible refine w_gname ?_ | with_reducible refine w_gsub ?_ | with_reducible refine w_asg ?_ | with_reducible refine w_sl ?_ | with_reducible refine w_noP ?_ | with_reducible refine w_int1 ?_ | with_reducible refine w_part ?_ | with_reducible refine w_yes ?_ | with_reducible refine w_nT ?_ | with_reducible refine w_nF ?_ | with_reducible refine w_iteT ?_ | with_reducible refine w_iteF ?_))
namespace K3
/-! ### the dict of steps -/
def Tk (H H' : Hp) : Prop := ∀ a xs, H a = some (.tup xs) → H' a = some (.tup xs)
theorem Tk.of {H H' : Hp} (e : Same H H') : Tk H H' := fun a xs h => e _ _ h
theorem Tk.refl (H : Hp) : Tk H H := fun _ _ h => h
theorem Tk.trans {H H1 H2 : Hp} (a : Tk H H1) (b : Tk H1 H2) : Tk H H2 := fun x xs h => b x xs (a x xs h)
theorem Tk.upd {H : Hp} {p : Addr} {o u : HO} (h : H p = some o) (n : ∀ xs, o ≠ .tup xs) : Tk H (L2.upd H p u) := fun a xs e => by
  rw [upd_ne (fun z => by rw [z, h] at e; exact n xs (Option.some.inj e))]
  exact e
theorem PlAt.tk {H H' : Hp} (e : Tk H H') {v : V} {p : Pl} (h : PlAt H v p) : PlAt H' v p := let ⟨a, h1, h2⟩ := h; ⟨a, h1, e _ _ h2⟩
theorem CellAt.tk {H H' : Hp} (e : Tk H H') {v : V} {c : Nat × Nat} (h : CellAt H v c) : CellAt H' v c := let ⟨a, h1, h2⟩ := h; ⟨a, h1, e _ _ h2⟩
theorem StAt.tk {H H' : Hp} (e : Tk H H') {v : V} {s : Stp} (h : StAt H v s) : StAt H' v s := let ⟨a, vg, vc, h1, h2, h3, h4⟩ := h; ⟨a, vg, vc, h1, e _ _ h2, h3.tk e, h4.tk e⟩
/-- d has at each place a list of its own of the steps that f tells -/
structure Sx (H0 H : Hp) (d : Addr) (kvs : List (List L2.Key × V)) (f : Pl → List Stp) : Prop where
  at_ : H d = some (.dT kvs)
  d0 : H0 d = none
  get : ∀ p, (valV kvs (plKey p) = none ∧ f p = []) ∨ ∃ l xs, valV kvs (plKey p) = some (.ref l) ∧ H l = some (.lst xs) ∧ H0 l = none ∧ Paired (StAt H) xs (f p)
  inj : ∀ p q l, valV kvs (plKey p) = some (.ref l) → valV kvs (plKey q) = some (.ref l) → p = q
  same : Same H0 H
theorem Sx.more {H0 H H1 : Hp} {d : Addr} {kvs : List (List L2.Key × V)} {f : Pl → List Stp} (S : Sx H0 H d kvs f) (e : Same H H1) : Sx H0 H1 d kvs f :=
  ⟨e _ _ S.at_, S.d0, fun p => (S.get p).imp id fun ⟨l, xs, h1, h2, h3, h4⟩ => ⟨l, xs, h1, e _ _ h2, h3, L2.Paired.mapP h4 fun _ _ z => z.same e⟩, S.inj, S.same.trans e⟩
/-- a new key with an empty list -/
theorem Sx.key {H0 H : Hp} {d z : Addr} {kvs : List (List L2.Key × V)} {f : Pl → List Stp} (S : Sx H0 H d kvs f) {p : Pl} (hn : valV kvs (plKey p) = none) (hz : H z = some (.lst [])) (z0 : H0 z = none) (zl : ∀ q l, valV kvs (plKey q) = some (.ref l) → l ≠ z) :
    Sx H0 (upd H d (.dT (putK kvs (plKey p) (.ref z)))) d (putK kvs (plKey p) (.ref z)) f := by
  have tk : Tk H (upd H d (.dT (putK kvs (plKey p) (.ref z)))) := Tk.upd S.at_ fun xs e => by cases e
  have zd : z ≠ d := fun e => by rw [e, S.at_] at hz; cases hz
  have keep : ∀ {l : Addr} {xs : List V}, H l = some (.lst xs) → (upd H d (.dT (putK kvs (plKey p) (.ref z)))) l = some (.lst xs) := fun h => by
    rw [upd_ne (fun e => by rw [e, S.at_] at h; cases h)]
    exact h
  refine ⟨upd_same, S.d0, fun q => ?_, fun q r l h1 h2 => ?_, S.same.mut S.d0⟩
  · by_cases c : q = p
    · subst c
      refine .inr ⟨z, [], ?_, keep hz, z0, ?_⟩
      · rw [valV_put, if_pos rfl]
      · rcases S.get q with ⟨_, h⟩ | ⟨l, xs, h, _⟩
        · rw [h]; exact .nil
        · rw [hn] at h; cases h
    · have ne : plKey q ≠ plKey p := fun e => c (plKey_inj e)
      rw [valV_put, if_neg ne]
      exact (S.get q).imp id fun ⟨l, xs, h1, h2, h3, h4⟩ => ⟨l, xs, h1, keep h2, h3, L2.Paired.mapP h4 fun _ _ y => y.tk tk⟩
  · rw [valV_put] at h1 h2
    by_cases c1 : plKey q = plKey p
    · by_cases c2 : plKey r = plKey p
      · exact plKey_inj (c1.trans c2.symm)
      · rw [if_pos c1] at h1
        rw [if_neg c2] at h2
        cases h1
        exact absurd rfl (zl r _ h2)
    · rw [if_neg c1] at h1
      by_cases c2 : plKey r = plKey p
      · rw [if_pos c2] at h2
        cases h2
        exact absurd rfl (zl q _ h1)
      · rw [if_neg c2] at h2
        exact S.inj q r l h1 h2
/-- a step more at a place -/
theorem Sx.app {H0 H : Hp} {d l : Addr} {kvs : List (List L2.Key × V)} {f : Pl → List Stp} {xs : List V} {v : V} {s : Stp} (S : Sx H0 H d kvs f) {p : Pl} (hv : valV kvs (plKey p) = some (.ref l)) (hl : H l = some (.lst xs)) (hs : StAt H v s) :
    Sx H0 (upd H l (.lst (xs ++ [v]))) d kvs (fun q => if q = p then f q ++ [s] else f q) := by
  have tk : Tk H (upd H l (.lst (xs ++ [v]))) := Tk.upd hl fun xs e => by cases e
  have dl : d ≠ l := fun e => by rw [← e, S.at_] at hl; cases hl
  have l0 : H0 l = none := by
    rcases S.get p with ⟨h, _⟩ | ⟨l', xs', h1, h2, h3, h4⟩
    · rw [hv] at h; cases h
    · rw [hv] at h1; cases h1; exact h3
  refine ⟨by rw [upd_ne dl]; exact S.at_, S.d0, fun q => ?_, S.inj, S.same.mut l0⟩
  by_cases c : q = p
  · subst c
    rw [if_pos rfl]
    rcases S.get q with ⟨h, _⟩ | ⟨l', xs', h1, h2, h3, h4⟩
    · rw [hv] at h; cases h
    · rw [hv] at h1
      cases h1
      rw [hl] at h2
      cases h2
      exact .inr ⟨l, _, hv, upd_same, l0, K3.Paired.app (L2.Paired.mapP h4 fun _ _ y => y.tk tk) (.cons (hs.tk tk) .nil)⟩
  · rw [if_neg c]
    refine (S.get q).imp id fun ⟨l', xs', h1, h2, h3, h4⟩ => ⟨l', xs', h1, ?_, h3, L2.Paired.mapP h4 fun _ _ y => y.tk tk⟩
    rw [upd_ne (fun e => c (S.inj q p l (by rw [← e]; exact h1) hv))]
    exact h2
theorem Sx.eq {H0 H : Hp} {d : Addr} {kvs : List (List L2.Key × V)} {f g : Pl → List Stp} (S : Sx H0 H d kvs f) (h : ∀ p, f p = g p) : Sx H0 H d kvs g := by
  have e : f = g := funext h
  rw [← e]
  exact S
theorem setd_go {K : PySem.W.Frag} {H0 H : Hp} {d : Addr} {kvs : List (List L2.Key × V)} {f : Pl → List Stp} (S : Sx H0 H d kvs f) {p : Pl} {v1 : V} (hp : PlAt H v1 p) {σ : L2.St} {J I : Nat} (σd : σ[J]? = some (some (.ref d))) (σp : σ[I]? = some (some v1)) (hk : kvs.length ≤ 1000) {ta : TA} {D : L2.Ends} (s : Stp)
    (hf : (f p).length ≤ 1000) (hta : ∀ H1 (Q : List V → Hp → Prop), Tk H H1 → (∀ v H2, Same H1 H2 → StAt H2 v s → Q [v] H2) → ta σ H1 Q)
    (k : ∀ H' kvs', Sx H0 H' d kvs' (fun q => if q = p then f q ++ [s] else f q) → kvs'.length ≤ kvs.length + 1 → Tk H H' → D.nx σ H') :
    tDrop (tBM K "list" rAppend (tSetdT (tVar J) (tVar I) (tLst tNil)) ta) D σ H := by
  obtain ⟨b, rfl, hb⟩ := hp
  have app : ∀ (H2 : Hp) (kvs2 : List (List L2.Key × V)) (l : Addr), Sx H0 H2 d kvs2 f → valV kvs2 (plKey p) = some (.ref l) → kvs2.length ≤ kvs.length + 1 → Tk H H2 → tyV K "list" (.ref l) H2 ∧ ta σ H2 fun xs H3 => rAppend (.ref l) xs H3 fun _ H4 => D.nx σ H4 := by
    intro H2 kvs2 l S2 hv hk2 tk2
    obtain ⟨xs, hl, hx⟩ : ∃ xs, H2 l = some (.lst xs) ∧ Paired (StAt H2) xs (f p) := by
      rcases S2.get p with ⟨h, _⟩ | ⟨l', xs, h1, h2, h3, h4⟩
      · rw [hv] at h; cases h
      · rw [hv] at h1; cases h1; exact ⟨xs, h2, h4⟩
    refine ⟨.inl ⟨rfl, _, SqL.of hl⟩, hta H2 _ tk2 fun v H3 e3 hs => ?_⟩
    have S3 := S2.more e3
    have hl3 := e3 _ _ hl
    refine ⟨l, xs, v, rfl, rfl, hl3, Nat.lt_of_le_of_lt (show xs.length ≤ 1000 by rw [hx.length]; exact hf) (by decide), ?_⟩
    exact k _ kvs2 (S3.app hv hl3 hs) hk2 (tk2.trans ((Tk.of e3).trans (Tk.upd hl3 fun xs e => by cases e)))
  refine w_drop ?_
  refine ⟨_, σd, d, rfl, .inr ⟨kvs, .inl S.at_⟩, b_var σp ?_⟩
  refine w_lst (w_nil ⟨Nat.zero_le _, fun z hz => ?_⟩)
  have e1 := Same.new hz (.lst [])
  have S1 := S.more e1
  refine ⟨kvs, plKey p, b, S1.at_, rfl, e1 _ _ hb, Nat.lt_of_le_of_lt hk (by decide), fun v hv => ?_, fun hn => ?_⟩
  · obtain ⟨l, rfl⟩ : ∃ l, v = .ref l := by
      rcases S1.get p with ⟨h, _⟩ | ⟨l', xs, h1, _⟩
      · rw [hv] at h; cases h
      · rw [hv] at h1; cases h1; exact ⟨_, rfl⟩
    exact app _ kvs l S1 hv (Nat.le_succ _) (Tk.of e1)
  · have zl : ∀ q l, valV kvs (plKey q) = some (.ref l) → l ≠ z := fun q l h e => by
      rcases S.get q with ⟨h0, _⟩ | ⟨l', xs, h1, h2, _⟩
      · rw [h] at h0; cases h0
      · rw [h] at h1; cases h1; rw [e, hz] at h2; cases h2
    have S2 := S1.key hn upd_same (S.same.free hz) zl
    have lk : (putK kvs (plKey p) (.ref z)).length ≤ kvs.length + 1 := by
      have := length_putK kvs (plKey p) (.ref z)
      omega
    exact app _ _ z S2 (by rw [valV_put, if_pos rfl]) lk ((Tk.of e1).trans (Tk.upd S1.at_ fun xs e => by cases e))
where b_var {σ : L2.St} {i : Nat} {v : V} {H : Hp} {Q : VK} (h : σ[i]? = some (some v)) (q : Q v H) : tVar i σ H Q := ⟨v, h, q⟩
def StepsAt (H : Hp) (d : Addr) (f : Pl → List Stp) : Prop := ∃ kvs, H d = some (.dT kvs) ∧ ∀ p, (valV kvs (plKey p) = none ∧ f p = []) ∨ ∃ l xs, valV kvs (plKey p) = some (.ref l) ∧ H l = some (.lst xs) ∧ Paired (StAt H) xs (f p)
def spSteps (K : PySem.W.Frag) : Sp := fun vs H Q _ => ∃ (g l : Addr) (rs : List Addr) (t : List (List Int)) (m n : Nat) (ws : List V) (cs : List (Nat × Nat)), vs = [.ref g, .ref l] ∧ GT K H g rs t ∧ Rect t m n ∧ 1 ≤ m ∧ 1 ≤ n ∧ H l = some (.lst ws) ∧ Paired (CellAt H) ws cs ∧ cs.length ≤ 100 ∧
  ∀ d H', Same H H' → H d = none → StepsAt H' d (stepsF m n cs) → (∀ kvs p l, H' d = some (.dT kvs) → valV kvs (plKey p) = some (.ref l) → H l = none) → Q (.ref d) H'
theorem steps_len (m n : Nat) (cs : List (Nat × Nat)) (p : Pl) : (stepsF m n cs p).length ≤ cs.length := List.length_filterMap_le _ _
section
variable {P : Program} {w : World} {K : PySem.W.Frag} {mg : Str → Option Value} {base : Heap}
theorem sc_steps_of : FnScope ["grid", "cells", "steps", "cell", "start", "goal"] ["grid", "cells"] (defScope s_steps_of) := ⟨rfl, rfl, rfl, by decide +kernel, rfl, by decide +kernel, by decide +kernel⟩
theorem ok_steps_of (T : Tx K mg) : Ok P w K mg base 3 (He.ga K "steps_of") ["grid", "cells"] (spSteps K) := by
  obtain ⟨fd, F⟩ := T.f_steps_of
  have Oarc_of := ok_arc_of (P := P) (w := w) (base := base) T
  refine ⟨fd, F.ok (k := 2) sc_steps_of (fun vs H Q E h => ?_) (fun cdv A outer s_ H vs Q E hr h => ?_), F.bindsN fun _ _ _ _ _ _ us hl => match us, hl with | [_, _], _ => rfl, F.kp⟩
  · obtain ⟨g, l, rs, t, m, n, ws, cs, rfl, ht, hR, m1, n1, hl, hw, hlen, q⟩ := h
    rfl
  obtain ⟨g, l, rs, t, m, n, ws, cs, rfl, ht, hR, m1, n1, hl, hw, hlen, q⟩ := h
  have hu65 := K3.Room.units65 hr
  have hu64 := Nat.lt_of_succ_lt hu65
  have hu0 := Nat.lt_of_le_of_lt (Nat.le_add_right _ 65) hu65
  have hu1 := Nat.lt_of_le_of_lt (Nat.add_le_add_left (show 1 ≤ 65 by decide) _) hu65
  have rarc_of : Room 2 _ := hr.mono (by decide)
  refine ⟨_, pss_cons (ps_set (i := 2) sc_steps_of.nd rfl (Or.inl rfl) pe_dnewT)
      (pss_cons (ps_for (passes_of rfl) (by rfl) (pi_list (pv 1)) (pg_name (i := 3) sc_steps_of.nd rfl (Or.inl rfl)) (pss_cons (ps_asg (pe_f Oarc_of rarc_of T.g_arc_of (pa_cons (pv 0) (pa_cons (pv 3) pa_nil))) (pg_tup (by rfl) (pgs_cons (pg_name (i := 4) sc_steps_of.nd rfl (Or.inl rfl)) (pgs_cons (pg_name (i := 5) sc_steps_of.nd rfl (Or.inl rfl)) pgs_nil))))
      (pss_cons (ps_expr (pe_bm PySem.F.plainAttrs_list PySem.F.slot_list_append PySem.F.type_list_append mt_append (pe_setdT hu1 (pv 2) (pv 4) (pe_lst pa_nil) ⟨rfl, rfl, rfl, rfl⟩) (pa_cons (pe_tup (pa_cons (pv 5) (pa_cons (pv 3) (pa_cons pe_int pa_nil)))) pa_nil)))
      (pss_one (ps_expr (pe_bm PySem.F.plainAttrs_list PySem.F.slot_list_append PySem.F.type_list_append mt_append (pe_setdT hu1 (pv 2) (pv 5) (pe_lst pa_nil) ⟨rfl, rfl, rfl, rfl⟩) (pa_cons (pe_tup (pa_cons (pv 4) (pa_cons (pv 3) (pa_cons (pe_un un_neg pe_int) pa_nil)))) pa_nil)))))))
      (pss_one (ps_ret (pv 2)))), ?_⟩
  have lw := hw.length
  walk_at "go"
  refine fun D hD => ?_
  have eD := Same.new hD (.dT [])
  walk_at "go"
  refine list_open ?_
  walk_at "go"
  refine ⟨l, rfl, ⟨_, SqL.of (eD _ _ hl)⟩, ?_⟩
  refine for_list (xs := ws) (fun (i : Nat) σ H' => ∃ (o3 o4 o5 : Option V) (kvs : List (List L2.Key × V)), σ = [some (.ref g), some (.ref l), some (.ref D), o3, o4, o5] ∧ Sx H H' D kvs (stepsF m n (cs.take i)) ∧ kvs.length ≤ 2 * i)
    ⟨none, none, none, [], rfl, ⟨upd_same, hD, fun p => .inl ⟨rfl, rfl⟩, fun p q l h => (by cases h), eD⟩, Nat.le_refl 0⟩ (fun i σ H' _ ⟨_, _, _, _, _, S, _⟩ => SqL.of (S.same _ _ hl)) ?_ ?_
  · rintro i x σ H1 hx ⟨o3, o4, o5, kvs, rfl, S, hk⟩
    obtain ⟨c, hc, hxc⟩ := K3.Paired.get hw hx
    have ic : i < cs.length := (List.getElem?_eq_some_iff.mp hc).1
    walk_at "go"
    refine ⟨g, x, rs, t, m, n, c, rfl, ht.same S.same, hR, m1, n1, hxc.same S.same, fun a H2 v1 v2 e2 ha p1 p2 => ?_⟩
    refine ⟨a, _, rfl, SqT.of ha, rfl, _, _, rfl, _, _, rfl, rfl, ?_⟩
    walk_at "go"
    have S2 := S.more e2
    have lf : ∀ p, (stepsF m n (cs.take i) p).length ≤ 1000 := fun p => by
      have := steps_len m n (cs.take i) p
      rw [List.length_take] at this
      omega
    refine setd_go S2 p1 (J := 2) (I := 4) rfl rfl (by omega) ⟨(arcF m n c).2, c, true⟩ (lf _) (fun H3 Q tk k => ?_) fun H3 kvs3 S3 hk3 tk3 => ?_
    · walk_at "go"
      refine ⟨(by show 3 ≤ sizeLine; decide), fun b hb => k (.ref b) _ (Same.new hb _) ?_⟩
      have eb := Same.new hb (.tup [v2, x, .int 1])
      exact ⟨b, v2, x, rfl, upd_same, (p2.tk tk).same eb, (((hxc.same S.same).same e2).tk tk).same eb⟩
    walk_at "go"
    refine setd_go S3 (p2.tk tk3) (J := 2) (I := 5) rfl rfl (by omega) ⟨(arcF m n c).1, c, false⟩ ?_ (fun H4 Q tk k => ?_) fun H4 kvs4 S4 hk4 tk4 => ?_
    · have := lf (arcF m n c).2
      split
      · rename_i h
        exact absurd h.symm (arc_ne m n c)
      · exact this
    · walk_at "go"
      refine ⟨1, rfl, ?_⟩
      walk_at "go"
      refine ⟨(by show 3 ≤ sizeLine; decide), fun b hb => k (.ref b) _ (Same.new hb _) ?_⟩
      have eb := Same.new hb (.tup [v1, x, .int (-1)])
      exact ⟨b, v1, x, rfl, upd_same, ((p1.tk tk3).tk tk).same eb, ((((hxc.same S.same).same e2).tk tk3).tk tk).same eb⟩
    refine ⟨_, _, _, kvs4, rfl, S4.eq fun p => ?_, by omega⟩
    rw [List.take_add_one, hc]
    show _ = stepsF m n (cs.take i ++ [c]) p
    rw [stepsF_snoc]
    have ne := arc_ne m n c
    by_cases h1 : (arcF m n c).1 = p
    · rw [if_pos h1.symm, if_neg (fun z => ne (h1.trans z)), if_pos h1]
    · rw [if_neg h1]
      by_cases h2 : (arcF m n c).2 = p
      · rw [if_pos h2.symm, if_neg (fun z => h1 z.symm), if_pos h2]
      · rw [if_neg (fun z => h2 z.symm), if_neg (fun z => h1 z.symm), if_neg h2, List.append_nil]
  · rintro σ H1 ⟨o3, o4, o5, kvs, rfl, S, hk⟩
    rw [lw, List.take_length] at S
    walk_at "go"
    refine q D H1 S.same hD ⟨kvs, S.at_, fun p => (S.get p).imp id fun ⟨l, xs, h1, h2, h3, h4⟩ => ⟨l, xs, h1, h2, h4⟩⟩ fun kvs' p l' h1 h2 => ?_
    rw [S.at_] at h1
    cases h1
    rcases S.get p with ⟨h, _⟩ | ⟨l2, xs, h, _, h3, _⟩
    · rw [h2] at h; cases h
    · rw [h2] at h; cases h; exact h3
end
end K3
end F2_part
section F3_part
set_option Elab.async false
set_option linter.all false
set_option maxRecDepth 100000
set_option maxHeartbeats 1000000
set_option pp.deepTerms.threshold 5
open PySem PySem.Spec PyProof.Rows L2
/-- go on as far as nothing is open -/
local macro_rules | `(tactic| walk_at "go") => `(tactic| repeat (first
  | with_reducible refine w_seq ?_ | with_reducible refine w_next ?_ | with_reducible refine w_set ?_ | with_reducible refine w_drop ?_ | with_reducible refine w_ret ?_ | with_reducible refine w_retN ?_
  | with_reducible refine w_if ?_ | ((with_reducible refine' w_var ?hv ?_); (case hv => exact rfl)) | with_reducible refine w_c ?_ | with_reducible refine w_nil ?_ | with_reducible refine w_cons ?_ | with_reducible refine w_op ?_ | with_reducible refine w_un ?_
  | with_reducible refine w_test ?_ | with_reducible refine w_tB ?_ | with_reducible refine w_not ?_ | with_reducible refine w_and ?_ | with_reducible refine w_or ?_ | with_reducible refine w_bl ?_
  | with_reducible refine w_andV ?_ | with_reducible refine w_orV ?_ | with_reducible refine w_notV ?_ | with_reducible refine w_ifE ?_ | with_reducible refine w_chain ?_ | with_reducible refine w_i0 ?_
  | with_reducible refine w_call ?_ | with_reducible refine w_callS ?_ | with_reducible refine w_cB ?_ | with_reducible refine w_tup ?_ | with_reducible refine w_lst ?_ | with_reducible refine w_fldV ?_
  | with_reducible refine w_neF ?_ | with_reducible refine w_neT ?_ | with_reducible refine w_notN ?_ | with_reducible refine w_isN ?_ | with_reducible refine w_gname ?_ | with_reducible refine w_gsub ?_ | with_reducible refine w_asg ?_ | with_reducible refine w_sl ?_ | with_reducible refine w_noP ?_ | with_reducible refine w_int1 ?_ | with_reducible refine w_part ?_ | with_reducible refine w_yes ?_ | with_reducible refine w_nT ?_ | with_reducible refine w_nF ?_ | with_reducible refine w_iteT ?_ | with_reducible refine w_iteF ?_))
namespace L2
open PySem PySem.Spec PyProof.Rows
/-- {k: v}, k a tuple of ints and texts; the new dict stands empty while the pair is made -/
def tDisp1 (tk tv : TE) : TE := fun σ H Q => ∀ p, H p = none → tk σ (upd H p (.dT [])) fun x H1 => tv σ H1 fun y H2 => ∃ (ks : List L2.Key) (b : Addr), x = .ref b ∧ H2 p = some (.dT []) ∧ H2 b = some (.tup (ks.map kV)) ∧ Q (.ref p) (upd H2 p (.dT [(ks, y)]))
theorem pe_disp1 {X : Cx} {pos : Pos} {k v : Expr} {tk tv : TE} (hu : X.A.units + 1 < cLine) (hk : PE X k tk) (hv : PE X v tv) : PE X (.Dict [some k] [v] pos) (tDisp1 tk tv) := by
  refine ⟨fun pins s σ H Q I q => ?_⟩
  have hn := I.hok.fresh (Nat.le_refl s.heap.objs.size)
  have I1 := I.laid (t' := s.toks) (fun _ _ z => Heap.get?_push_of_some _ z) (Nat.le_refl _) (dt_empty (P := X.prog) (w := X.w) s.heap I.big)
  have sh := zip_pairTrees [some k] [v] X.env pos rfl rfl
  have ln : (pairTrees [some k] [v] X.env pos).length = 1 := pairTrees_length [some k] [v] X.env pos rfl rfl
  rw [arm_eval_Dict, sh, dictDisplay_pairs _ (fun e => by rw [e] at ln; cases ln) (by rw [ln]; decide)]
  refine wpAny_bind (wpAny_standAt (wpAny_bind ?_))
  refine wpAny_subDictH (knd := tupleKind (mixKind X.prog X.w)) (Q := fun d s' => wpAny (model X.prog X.w) X.A (pure (Value.ref d)) (EP X pins σ Q) X.xe s') ?_ (by rw [ln]; decide) ?_
  · exact Nat.lt_of_succ_lt hu
  refine pairTrees_cons_walk (thn (hk.run pins _ σ _ _ I1 (q _ hn)) fun kv s1 ⟨x, H1, J1, r1, q1⟩ => thn (hv.run pins s1 σ H1 _ J1 q1) fun vv s2 ⟨y, H2, J2, r2, ks, b, ex, e2, eb, q2⟩ => pairTrees_nil_walk ?_)
  subst ex
  obtain rfl : kv = Value.ref b := r1
  obtain ⟨z1, z2, xs, rel, dd⟩ := dt_of J2.hok e2
  cases rel
  refine ⟨[(ks, b, vv)], ⟨rfl, rfl, key_of J2.hok eb, trivial⟩, dd, fun h' tk' dd' hs => wpAny_pure ⟨.ref s.heap.objs.size, _, ?_, rfl, q2⟩⟩
  obtain ⟨o, es, ep, g1, g2, g3, g4, _, g5⟩ := dd'
  refine d_write J2 (by rw [e2]; exact True.intro) hs ⟨o, g1⟩ ⟨by show 1 ≤ sizeLine; decide, z2, _, .cons ⟨rfl, ?_, r2⟩ .nil, o, es, ep, g1, g2, g3, g4, g5⟩
  rw [upd_ne (ne_of eb e2 (fun z => nomatch z))]
  exact eb
end L2
end F3_part
section F4_part
set_option Elab.async false
set_option linter.all false
set_option maxRecDepth 100000
set_option maxHeartbeats 1000000
set_option pp.deepTerms.threshold 5
open PySem PySem.Spec PyProof.Rows L2
/-- go on as far as nothing is open -/
local macro_rules | `(tactic| walk_at "go") => `(tactic| repeat (first
  | with_reducible refine w_seq ?_ | with_reducible refine w_next ?_ | with_reducible refine w_set ?_ | with_reducible refine w_drop ?_ | with_reducible refine w_ret ?_ | with_reducible refine w_retN ?_
  | with_reducible refine w_if ?_ | ((with_reducible refine' w_var ?hv ?_); (case hv => exact rfl)) | with_reducible refine w_c ?_ | with_reducible refine w_nil ?_ | with_reducible refine w_cons ?_ | with_reducible refine w_op ?_ | with_reducible refine w_un ?_
  | with_reducible refine w_test ?_ | with_reducible refine w_tB ?_ | with_reducible refine w_not ?_ | with_reducible refine w_and ?_ | with_reducible refine w_or ?_ | with_reducible refine w_bl ?_
  | with_reducible refine w_andV ?_ | with_reducible refine w_orV ?_ | with_reducible refine w_notV ?_ | with_reducible refine w_ifE ?_ | with_reducible refine w_chain ?_ | with_reducible refine w_i0 ?_
  | with_reducible refine w_call ?_ | with_reducible refine w_callS ?_ | with_reducible refine w_cB ?_ | with_reducible refine w_tup ?_ | with_reducible refine w_lst ?_ | with_reducible refine w_fldV ?_
  | with_reducible refine w_neF ?_ | with_reducible refine w_neT ?_ | with_reducible refine w_notN ?_ | with_reducible refine w_isN ?_ | with_reducible refine w_gname ?_ | with_reducible refine w_gsub ?_ | with_reducible refine w_asg ?_ | with_reducible refine w_sl ?_ | with_reducible refine w_noP ?_ | with_reducible refine w_int1 ?_ | with_reducible refine w_part ?_ | with_reducible refine w_yes ?_ | with_reducible refine w_nT ?_ | with_reducible refine w_nF ?_ | with_reducible refine w_iteT ?_ | with_reducible refine w_iteF ?_))
namespace K3
abbrev Came := List (Pl × Option Stp)
def keysOf (c : Came) : List Pl := c.map (·.1)
def visit1 (u : List (List Int)) (p : Pl) (came : Came) (s : Stp) : Came := if s.to ∉ keysOf came ∧ (s.up = true ∨ 0 < at2 u s.c.1 s.c.2) then came ++ [(s.to, some ⟨p, s.c, s.up⟩)] else came
def visit (u : List (List Int)) (p : Pl) (came : Came) (ss : List Stp) : Came := ss.foldl (visit1 u p) came
def bfs (u : List (List Int)) (f : Pl → List Stp) : Nat → Nat → Came → Came
  | 0, _, came => came
  | k + 1, i, came => match came[i]? with
    | none => came
    | some (p, _) => bfs u f k (i + 1) (visit u p came (f p))
def waysF (u : List (List Int)) (f : Pl → List Stp) (N : Nat) (start : Pl) : Came := bfs u f N 0 [(start, none)]
/-! ### in the heap -/
def CEv (H : Hp) (v : V) : Option Stp → Prop
  | none => v = .non
  | some s => StAt H v s
theorem CEv.tk {H H' : Hp} (e : Tk H H') {v : V} : ∀ {o : Option Stp}, CEv H v o → CEv H' v o
  | none, h => h
  | some _, h => StAt.tk e h
def CE (H : Hp) (kv : List L2.Key × V) (q : Pl × Option Stp) : Prop := kv.1 = plKey q.1 ∧ CEv H kv.2 q.2
def CameAt (H : Hp) (d : Addr) (came : Came) : Prop := ∃ kvs, H d = some (.dT kvs) ∧ Paired (CE H) kvs came
theorem came_get {H : Hp} : ∀ {kvs : List (List L2.Key × V)} {came : Came}, Paired (CE H) kvs came → ∀ p, (p ∉ keysOf came ∧ valV kvs (plKey p) = none) ∨ ∃ i o v, came[i]? = some (p, o) ∧ (∀ (j : Nat) (q : Pl × Option Stp), j < i → came[j]? = some q → q.1 ≠ p) ∧ valV kvs (plKey p) = some v ∧ CEv H v o
  | _, _, .nil, p => .inl ⟨fun h => (by cases h), rfl⟩
  | _, _, .cons (a := kv) (b := q) h t, p => by
    by_cases e : q.1 = p
    · refine .inr ⟨0, q.2, kv.2, ?_, fun j r hj => absurd hj (Nat.not_lt_zero _), ?_, h.2⟩
      · rw [← e]; rfl
      · rw [valV_pos (by rw [h.1, e])]
    · have ne : ¬ kv.1 = plKey p := fun z => e (plKey_inj (h.1.symm.trans z))
      rw [valV_neg ne]
      rcases came_get t p with ⟨h1, h2⟩ | ⟨i, o, v, h1, h2, h3, h4⟩
      · refine .inl ⟨fun z => ?_, h2⟩
        rcases List.mem_cons.mp z with z | z
        · exact e z.symm
        · exact h1 z
      · refine .inr ⟨i + 1, o, v, h1, fun j r hj hr => ?_, h3, h4⟩
        cases j with
        | zero =>
          have : q = r := by simpa using hr
          rw [← this]
          exact e
        | succ j => exact h2 j r (by omega) (by simpa using hr)
theorem CE.tk {H H' : Hp} (e : Tk H H') {kv : List L2.Key × V} {q : Pl × Option Stp} (h : CE H kv q) : CE H' kv q := ⟨h.1, h.2.tk e⟩
theorem came_len {H : Hp} {kvs : List (List L2.Key × V)} {came : Came} (h : Paired (CE H) kvs came) : kvs.length = came.length := h.length
theorem put_new {kvs : List (List L2.Key × V)} {k : List L2.Key} {v : V} (h : valV kvs k = none) : putK kvs k v = kvs ++ [(k, v)] := by
  unfold putK
  rw [if_neg]
  rw [valV_any, h]
  simp
/-- a flow: its cell, its numbers (a table), its steps -/
structure FlowAt (K : PySem.W.Frag) (H : Hp) (F : Addr) (c : Nat × Nat) (np : Addr) (rs : List Addr) (u : List (List Int)) (m n : Nat) (f : Pl → List Stp) : Prop where
  ob : ∃ dx vc d kvs, H F = some (.ins (He.ga K "Flow") dx [("cell", vc), ("numbers", .ref np), ("steps", .ref d)]) ∧ CellAt H vc c ∧ H d = some (.dT kvs) ∧ ∀ p, (valV kvs (plKey p) = none ∧ f p = []) ∨ ∃ l xs, valV kvs (plKey p) = some (.ref l) ∧ H l = some (.lst xs) ∧ l ∉ rs ∧ Paired (StAt H) xs (f p)
  tab : Tab H np rs u
  rect : Rect u m n
  nd : rs.Nodup
  ne : np ∉ rs
theorem FlowAt.same {K : PySem.W.Frag} {H H' : Hp} {F : Addr} {c : Nat × Nat} {np : Addr} {rs : List Addr} {u : List (List Int)} {m n : Nat} {f : Pl → List Stp} (h : FlowAt K H F c np rs u m n f) (e : Same H H') : FlowAt K H' F c np rs u m n f := by
  obtain ⟨⟨dx, vc, d, kvs, h1, h2, h3, h4⟩, h5, h6, h7, h8⟩ := h
  exact ⟨⟨dx, vc, d, kvs, e _ _ h1, h2.same e, e _ _ h3, fun p => (h4 p).imp id fun ⟨l, xs, a, b, c, d⟩ => ⟨l, xs, a, e _ _ b, c, L2.Paired.mapP d fun _ _ z => z.same e⟩⟩, h5.same e, h6, h7, h8⟩
/-- what the steps of a flow on an m by n table are like -/
structure StepsOk (m n : Nat) (f : Pl → List Stp) : Prop where
  len : ∀ p, (f p).length ≤ 100
  cell : ∀ p, ∀ s ∈ f p, s.c.1 < m ∧ s.c.2 < n
  place : ∀ p, ∀ s ∈ f p, s.to.2 < (if s.to.1 then m else n)
def spWays (K : PySem.W.Frag) : Sp := fun vs H Q _ => ∃ (F : Addr) (v : V) (c : Nat × Nat) (np : Addr) (rs : List Addr) (u : List (List Int)) (m n : Nat) (f : Pl → List Stp) (start : Pl), vs = [.ref F, v] ∧ FlowAt K H F c np rs u m n f ∧ StepsOk m n f ∧ m ≤ 60 ∧ n ≤ 60 ∧ PlAt H v start ∧ start.2 < (if start.1 then m else n) ∧
  ∀ d H', Same H H' → H d = none → CameAt H' d (waysF u f (m + n + 1) start) → Q (.ref d) H'
def slotNat (i : Nat) (σ : L2.St) : Nat := match σ[i]? with
  | some (some (V.int j)) => j.toNat
  | _ => 0
/-! ### what a search keeps -/
structure CameOk (m n : Nat) (came : Came) : Prop where
  nd : (keysOf came).Nodup
  place : ∀ p ∈ keysOf came, p.2 < (if p.1 then m else n)
def allPl (m n : Nat) : List Pl := (List.range m).map (fun i => (true, i)) ++ (List.range n).map fun j => (false, j)
theorem allPl_mem {m n : Nat} {p : Pl} (h : p.2 < (if p.1 then m else n)) : p ∈ allPl m n := by
  obtain ⟨b, i⟩ := p
  unfold allPl
  cases b with
  | true => exact List.mem_append_left _ (List.mem_map.mpr ⟨i, List.mem_range.mpr (by simpa using h), rfl⟩)
  | false => exact List.mem_append_right _ (List.mem_map.mpr ⟨i, List.mem_range.mpr (by simpa using h), rfl⟩)
theorem nodup_len {α : Type} [DecidableEq α] : ∀ {l k : List α}, l.Nodup → (∀ x ∈ l, x ∈ k) → l.length ≤ k.length
  | [], _, _, _ => Nat.zero_le _
  | x :: l, k, nd, h => by
    have hx := h x (List.mem_cons_self ..)
    obtain ⟨n1, n2⟩ := List.nodup_cons.mp nd
    have ih := nodup_len (l := l) (k := k.erase x) n2 fun y hy => (List.mem_erase_of_ne (fun z => n1 (by rw [← z]; exact hy))).mpr (h y (List.mem_cons_of_mem _ hy))
    rw [List.length_erase_of_mem hx] at ih
    have := List.length_pos_of_mem hx
    rw [List.length_cons]
    omega
theorem CameOk.len {m n : Nat} {came : Came} (h : CameOk m n came) : came.length ≤ m + n := by
  have := nodup_len (k := allPl m n) h.nd fun p hp => allPl_mem (h.place p hp)
  unfold keysOf allPl at this
  simpa using this
theorem CameOk.visit1 {m n : Nat} {u : List (List Int)} {p : Pl} {came : Came} {s : Stp} (h : CameOk m n came) (hs : s.to.2 < (if s.to.1 then m else n)) : CameOk m n (visit1 u p came s) := by
  unfold K3.visit1
  split
  · rename_i c
    have e : keysOf (came ++ [(s.to, some ⟨p, s.c, s.up⟩)]) = keysOf came ++ [s.to] := by unfold keysOf; rw [List.map_append]; rfl
    refine ⟨by rw [e]; exact nodup_snoc h.nd c.1, fun q hq => ?_⟩
    rw [e] at hq
    rcases List.mem_append.mp hq with hq | hq
    · exact h.place q hq
    · rw [List.mem_singleton.mp hq]; exact hs
  · exact h
theorem visit1_pre {u : List (List Int)} {p : Pl} {came : Came} {s : Stp} : ∃ more, visit1 u p came s = came ++ more := by
  unfold visit1
  split
  · exact ⟨_, rfl⟩
  · exact ⟨[], (List.append_nil _).symm⟩
theorem visit_pre {u : List (List Int)} {p : Pl} : ∀ {ss : List Stp} {came : Came}, ∃ more, visit u p came ss = came ++ more
  | [], came => ⟨[], (List.append_nil _).symm⟩
  | s :: ss, came => by
    obtain ⟨m1, h1⟩ := visit1_pre (u := u) (p := p) (came := came) (s := s)
    obtain ⟨m2, h2⟩ := visit_pre (u := u) (p := p) (ss := ss) (came := visit1 u p came s)
    refine ⟨m1 ++ m2, ?_⟩
    show visit u p (visit1 u p came s) ss = _
    rw [h2, h1, List.append_assoc]
theorem visit_snoc {u : List (List Int)} {p : Pl} {came : Came} {ss : List Stp} {s : Stp} : visit u p came (ss ++ [s]) = visit1 u p (visit u p came ss) s := by
  unfold visit
  rw [List.foldl_append]
  rfl
theorem CameOk.visit {m n : Nat} {u : List (List Int)} {p : Pl} {came : Came} (h : CameOk m n came) : ∀ {ss : List Stp}, (∀ s ∈ ss, s.to.2 < (if s.to.1 then m else n)) → CameOk m n (visit u p came ss) := by
  intro ss
  induction ss generalizing came with
  | nil => intro _; exact h
  | cons s ss ih =>
    intro hs
    show CameOk m n (K3.visit u p (K3.visit1 u p came s) ss)
    exact ih (h.visit1 (hs s (List.mem_cons_self ..))) fun t ht => hs t (List.mem_cons_of_mem _ ht)
section
variable {P : Program} {w : World} {K : PySem.W.Frag} {mg : Str → Option Value} {base : Heap}
theorem sc_ways_from : FnScope ["flow", "start", "came", "waiting", "at", "place", "goal", "cell", "sign"] ["flow", "start"] (defScope s_ways_from) := ⟨rfl, rfl, rfl, by decide +kernel, rfl, by decide +kernel, by decide +kernel⟩
theorem ok_ways_from (T : Tx K mg) : Ok P w K mg base 2 (He.ga K "ways_from") ["flow", "start"] (spWays K) := by
  obtain ⟨fd, F⟩ := T.f_ways_from
  have Onumber_at := ok_number_at (P := P) (w := w) (base := base) T
  refine ⟨fd, F.ok (k := 1) sc_ways_from (fun vs H Q E h => ?_) (fun cdv A outer s_ H vs Q E hr h => ?_), F.bindsN fun _ _ _ _ _ _ us hl => match us, hl with | [_, _], _ => rfl, F.kp⟩
  · obtain ⟨F, v, c, np, rs, u, m, n, f, start, rfl, hF, hS, m60, n60, hv, hst, q⟩ := h
    rfl
  obtain ⟨F, v, c, np, rs, u, m, n, f, start, rfl, hF, hS, m60, n60, hv, hst, q⟩ := h
  have hu65 := K3.Room.units65 hr
  have hu64 := Nat.lt_of_succ_lt hu65
  have hu0 := Nat.lt_of_le_of_lt (Nat.le_add_right _ 65) hu65
  have hu1 := Nat.lt_of_le_of_lt (Nat.add_le_add_left (show 1 ≤ 65 by decide) _) hu65
  have rnumber_at : Room 1 _ := hr.mono (by decide)
  refine ⟨_, pss_cons (ps_set (i := 2) sc_ways_from.nd rfl (Or.inl rfl) (pe_disp1 hu1 (pv 1) pe_non))
      (pss_cons (ps_set (i := 3) sc_ways_from.nd rfl (Or.inl rfl) (pe_lst (pa_cons (pv 1) pa_nil)))
      (pss_cons (ps_set (i := 4) sc_ways_from.nd rfl (Or.inl rfl) pe_int)
      (pss_cons (ps_while (passes_of rfl) (pt_cmpR op_lt (pv 4) (pe_callB call_len_seq (by rfl) T.z_len PySem.boot_len (pa_cons (pv 3) pa_nil)) (nomark _)) (pss_cons (ps_set (i := 5) sc_ways_from.nd rfl (Or.inl rfl) (pe_ix ix_list (pv 3) (pv 4) (fun _ _ => rfl)))
      (pss_cons (ps_aug (i := 4) sc_ways_from.nd rfl (Or.inl rfl) pe_int ip_add)
      (pss_one (ps_for (passes_of rfl) (by rfl) (pi_list (pe_dget2 hu1 (pe_fld (pv 0) rfl) (pv 5) (pe_lst pa_nil) ⟨rfl, rfl, rfl, rfl⟩)) (pg_tup (by rfl) (pgs_cons (pg_name (i := 6) sc_ways_from.nd rfl (Or.inl rfl)) (pgs_cons (pg_name (i := 7) sc_ways_from.nd rfl (Or.inl rfl)) (pgs_cons (pg_name (i := 8) sc_ways_from.nd rfl (Or.inl rfl)) pgs_nil)))) (pss_one (ps_if (pw_and (pt_cmp (pc_dnotin hu1 (pv 6) (pv 2))) (pw_and1 (pw_or (pt_cmpR op_gt (pv 8) pe_int (nomark _)) (pw_or1 (pt_cmpR op_gt (pe_f Onumber_at rnumber_at T.g_number_at (pa_cons (pe_fld (pv 0) rfl) (pa_cons (pv 7) pa_nil))) pe_int (nomark _)))).pt)).pt (pss_cons (ps_dput hu1 (pv 2) (pv 6) (pe_tup (pa_cons (pv 5) (pa_cons (pv 7) (pa_cons (pv 8) pa_nil)))) rfl)
      (pss_one (ps_expr (pe_bm PySem.F.plainAttrs_list PySem.F.slot_list_append PySem.F.type_list_append mt_append (pv 3) (pa_cons (pv 6) pa_nil))))) pss_nil)))))))
      (pss_one (ps_ret (pv 2)))))), ?_⟩
  obtain ⟨⟨dx, vc, sd, skv, hob, hvc, hsd, hget⟩, htab, hrect, hnd, hne⟩ := hF
  have hFl : FlowAt K H F c np rs u m n f := ⟨⟨dx, vc, sd, skv, hob, hvc, hsd, hget⟩, htab, hrect, hnd, hne⟩
  obtain ⟨b0, rfl, hb0⟩ := hv
  walk_at "go"
  refine fun d hd => ?_
  have e1 := Same.new hd (.dT [])
  walk_at "go"
  refine ⟨plKey start, b0, rfl, upd_same, e1 _ _ hb0, ?_⟩
  have e2 : Same H (upd (upd H d (.dT [])) d (.dT [(plKey start, .non)])) := e1.mut hd
  have h2 : (upd (upd H d (.dT [])) d (.dT [(plKey start, .non)])) d = some (.dT [(plKey start, .non)]) := upd_same
  generalize upd (upd H d (.dT [])) d (.dT [(plKey start, .non)]) = H2 at e2 h2 ⊢
  walk_at "go"
  refine ⟨(by show 1 ≤ sizeLine; decide), fun w hw => ?_⟩
  have e3 := Same.new hw (.lst [V.ref b0])
  have h3 : (upd H2 w (.lst [V.ref b0])) w = some (.lst [V.ref b0]) := upd_same
  have h3d := e3 _ _ h2
  generalize upd H2 w (.lst [V.ref b0]) = H3 at e3 h3 h3d ⊢
  have w0 : H w = none := e2.free hw
  have dw : d ≠ w := fun e => by rw [← e, h2] at hw; cases hw
  walk_at "go"
  refine while_by (fun σ H' => ∃ (i : Nat) (o5 o6 o7 o8 : Option V) (came : Came) (ws : List V), σ = [some (.ref F), some (.ref b0), some (.ref d), some (.ref w), some (.int (i : Int)), o5, o6, o7, o8] ∧ Same H H' ∧ CameAt H' d came ∧ H' w = some (.lst ws) ∧ Paired (PlAt H') ws (keysOf came) ∧ CameOk m n came ∧ i ≤ came.length ∧ bfs u f (m + n + 1 - i) i came = waysF u f (m + n + 1) start)
    (fun σ _ => m + n + 1 - slotNat 4 σ)
    ⟨0, none, none, none, none, [(start, none)], [.ref b0], rfl, e2.trans e3, ⟨_, h3d, .cons ⟨rfl, rfl⟩ .nil⟩, h3, .cons ⟨b0, rfl, (e2.trans e3) _ _ hb0⟩ .nil, ⟨by simp [keysOf], fun p hp => by rw [List.mem_singleton.mp hp]; exact hst⟩, Nat.zero_le _, rfl⟩ ?_ (fun σ H Q Q' k h => by
      obtain ⟨v, h1, w, h2, p, ys, h3, h4, i, j, h5, h6, b, h7, h8⟩ := h
      exact ⟨v, h1, w, h2, p, ys, h3, h4, i, j, h5, h6, b, h7, k _ _ h8⟩)
  rintro σ H4 ⟨i, o5, o6, o7, o8, came, ws, rfl, e4, hcame, hw4, hws, hok, hi, hb⟩
  have hlen := hok.len
  have lws : ws.length = came.length := by rw [hws.length]; unfold keysOf; rw [List.length_map]
  walk_at "go"
  refine ⟨w, ws, rfl, .inl (SqL.of hw4), ?_⟩
  walk_at "go"
  rw [lws]
  by_cases ci : (i : Int) < (came.length : Int)
  · rw [decide_eq_true ci]
    have ci' : i < came.length := by omega
    walk_at "go"
    obtain ⟨p, op, hp⟩ : ∃ p op, came[i]? = some (p, op) := ⟨_, _, List.getElem?_eq_getElem ci'⟩
    have hk : (keysOf came)[i]? = some p := by unfold keysOf; rw [List.getElem?_map, hp]; rfl
    obtain ⟨vp, hvp⟩ : ∃ vp, ws[i]? = some vp := ⟨_, List.getElem?_eq_getElem (by omega)⟩
    obtain ⟨p', hp', hvpl⟩ := K3.Paired.get hws hvp
    obtain rfl : p = p' := Option.some.inj (hk.symm.trans hp')
    refine w_ixL hw4 (atI_nat hvp) ?_
    walk_at "go"
    refine ⟨.int (i : Int), rfl, ?_⟩
    refine ⟨_, _, rfl, rfl, ?_⟩
    walk_at "go"
    dsimp only
    refine list_open ?_
    refine ⟨_, rfl, ?_⟩
    refine ⟨F, _, dx, _, _, rfl, e4 _ _ hob, T.cl_Flow, T.n_Flow_steps, rfl, ?_⟩
    refine ⟨sd, rfl, .inr ⟨skv, .inl (e4 _ _ hsd)⟩, ?_⟩
    walk_at "go"
    refine ⟨Nat.zero_le _, fun z hz => ?_⟩
    have e5 := Same.new hz (.lst [])
    have hz5 : (upd H4 z (.lst [])) z = some (.lst []) := upd_same
    generalize upd H4 z (.lst []) = H5 at e5 hz5 ⊢
    have e45 := e4.trans e5
    have hcame5 : CameAt H5 d came := by
      obtain ⟨kvs, h1, h2⟩ := hcame
      exact ⟨kvs, e5 _ _ h1, L2.Paired.mapP h2 fun _ _ y => y.tk (Tk.of e5)⟩
    have hw5 := e5 _ _ hw4
    have hws5 := L2.Paired.mapP hws fun _ _ y => PlAt.same e5 y
    obtain ⟨ap, rfl, hap⟩ := hvpl
    have hap5 := e5 _ _ hap
    obtain ⟨L, xs, hLv, hL, hLx, Ld, Lw⟩ : ∃ L xs, (valV skv (plKey p)).getD (.ref z) = .ref L ∧ H5 L = some (.lst xs) ∧ Paired (StAt H5) xs (f p) ∧ L ≠ d ∧ L ≠ w := by
      rcases hget p with ⟨h1, h2⟩ | ⟨l, xs, h1, h2, h3, h4⟩
      · refine ⟨z, [], by rw [h1]; rfl, hz5, by rw [h2]; exact .nil, fun e => ?_, fun e => ?_⟩
        · obtain ⟨kvs, k1, _⟩ := hcame
          rw [← e, hz] at k1
          cases k1
        · rw [← e, hz] at hw4; cases hw4
      · exact ⟨l, xs, by rw [h1]; rfl, e45 _ _ h2, L2.Paired.mapP h4 fun _ _ y => y.same e45, ne_of_none h2 hd, ne_of_none h2 w0⟩
    refine ⟨valV skv (plKey p), DGet.t (e45 _ _ hsd) hap5, ?_⟩
    rw [hLv]
    refine ⟨L, rfl, ⟨_, SqL.of hL⟩, ?_⟩
    refine for_list (xs := xs) (fun (j : Nat) σ H' => ∃ (o6 o7 o8 : Option V) (ws' : List V), σ = [some (.ref F), some (.ref b0), some (.ref d), some (.ref w), some (.int ((i : Int) + 1)), some (.ref ap), o6, o7, o8] ∧ Same H H' ∧ Tk H5 H' ∧ H' L = some (.lst xs) ∧ CameAt H' d (visit u p came ((f p).take j)) ∧ H' w = some (.lst ws') ∧ Paired (PlAt H') ws' (keysOf (visit u p came ((f p).take j))))
      ⟨o6, o7, o8, ws, rfl, e45, Tk.refl _, hL, hcame5, hw5, hws5⟩ (fun j σ H' _ ⟨_, _, _, _, _, _, _, h, _⟩ => SqL.of h) ?_ ?_
    · rintro j x σ H6 hx ⟨o6, o7, o8, ws', rfl, e6, tk6, hL6, hcame6, hw6, hws6⟩
      obtain ⟨s, hs, hsx⟩ := K3.Paired.get hLx hx
      have hsm : s ∈ f p := List.mem_of_getElem? hs
      obtain ⟨sc1, sc2⟩ := hS.cell p s hsm
      have hok6 : CameOk m n (visit u p came ((f p).take j)) := hok.visit fun t ht => hS.place p t (List.mem_of_mem_take ht)
      obtain ⟨a, vg, vcc, rfl, ha, hvg, hvcc⟩ := hsx.tk tk6
      obtain ⟨ag, rfl, hag⟩ := hvg
      refine ⟨a, _, rfl, SqT.of ha, rfl, _, _, rfl, _, _, rfl, _, _, rfl, rfl, ?_⟩
      have htake : (f p).take (j + 1) = (f p).take j ++ [s] := by rw [List.take_add_one, hs]; rfl
      obtain ⟨kvs, hkv, hkp⟩ := hcame6
      have lk := came_len hkp
      have ll := hok6.len
      generalize hcm : visit u p came ((f p).take j) = cm at hkp hws6 hok6 lk ll
      have next : visit u p came ((f p).take (j + 1)) = visit1 u p cm s := by rw [htake, visit_snoc, hcm]
      have stay : visit1 u p cm s = cm → ∃ (o6 o7 o8 : Option V) (ws' : List V), [some (V.ref F), some (.ref b0), some (.ref d), some (.ref w), some (.int ((i : Int) + 1)), some (.ref ap), some (.ref ag), some vcc, some (.int (sgn s.up))] = [some (.ref F), some (.ref b0), some (.ref d), some (.ref w), some (.int ((i : Int) + 1)), some (.ref ap), o6, o7, o8] ∧ Same H H6 ∧ Tk H5 H6 ∧ H6 L = some (.lst xs) ∧ CameAt H6 d (visit u p came ((f p).take (j + 1))) ∧ H6 w = some (.lst ws') ∧ Paired (PlAt H6) ws' (keysOf (visit u p came ((f p).take (j + 1)))) := fun e => by
        rw [next, e]
        exact ⟨_, _, _, ws', rfl, e6, tk6, hL6, ⟨kvs, hkv, hkp⟩, hw6, hws6⟩
      refine w_ifR (fun b H' => H' = H6 ∧ b = decide (s.to ∉ keysOf cm ∧ (s.up = true ∨ 0 < at2 u s.c.1 s.c.2))) (fun QB kQ => ?_) (fun H' hR => ?_) (fun H' hR => ?_)
      · walk_at "go"
        refine ⟨_, rfl, _, rfl, d, valV kvs (plKey s.to), rfl, DGet.t hkv hag, ?_⟩
        rcases came_get hkp s.to with ⟨hn, hv⟩ | ⟨i', o, v, h1, h2, h3, h4⟩
        · rw [hv]
          refine ⟨true, rfl, ?_⟩
          walk_at "go"
          cases hup : s.up with
          | true =>
            rw [show decide (sgn true > 0) = true from rfl]
            walk_at "go"
            exact kQ _ _ ⟨rfl, (decide_eq_true (by rw [hup]; exact ⟨hn, .inl rfl⟩)).symm⟩
          | false =>
            rw [show decide (sgn false > 0) = false from rfl]
            walk_at "go"
            refine ⟨F, _, dx, _, _, rfl, e6 _ _ hob, T.cl_Flow, T.n_Flow_numbers, rfl, ?_⟩
            walk_at "go"
            refine ⟨np, vcc, rs, u, m, n, s.c.1, s.c.2, rfl, (htab.same e6).gt, hrect, hvcc, sc1, sc2, ?_⟩
            walk_at "go"
            refine kQ _ _ ⟨rfl, decide_eq_decide.mpr ?_⟩
            constructor
            · exact fun z => ⟨hn, .inr z⟩
            · rintro ⟨_, z | z⟩
              · rw [hup] at z; cases z
              · exact z
        · rw [h3]
          refine ⟨false, rfl, ?_⟩
          walk_at "go"
          refine kQ _ _ ⟨rfl, (decide_eq_false fun z => z.1 ?_).symm⟩
          unfold keysOf
          exact List.mem_map.mpr ⟨_, List.mem_of_getElem? h1, rfl⟩
      · obtain ⟨rfl, hc⟩ := hR
        have hc := of_decide_eq_true hc.symm
        have hn : valV kvs (plKey s.to) = none := by
          rcases came_get hkp s.to with ⟨_, hv⟩ | ⟨i', o, v, h1, h2, h3, h4⟩
          · exact hv
          · refine absurd ?_ hc.1
            unfold keysOf
            exact List.mem_map.mpr ⟨_, List.mem_of_getElem? h1, rfl⟩
        have hv1 : visit1 u p cm s = cm ++ [(s.to, some ⟨p, s.c, s.up⟩)] := by
          unfold visit1
          rw [if_pos hc]
        have hks : keysOf (cm ++ [(s.to, some ⟨p, s.c, s.up⟩)]) = keysOf cm ++ [s.to] := by
          unfold keysOf
          rw [List.map_append]
          rfl
        refine w_seq ?_
        refine w_tup (w_cons (w_var rfl (w_cons (w_var rfl (w_cons (w_var rfl (w_nil ⟨by show 3 ≤ sizeLine; decide, fun t ht => ?_⟩)))))))
        have e7 := Same.new ht (.tup [V.ref ap, vcc, .int (sgn s.up)])
        have h7 : (upd H' t (.tup [V.ref ap, vcc, .int (sgn s.up)])) t = some (.tup [V.ref ap, vcc, .int (sgn s.up)]) := upd_same
        generalize upd H' t (.tup [V.ref ap, vcc, .int (sgn s.up)]) = H7 at e7 h7 ⊢
        refine ⟨_, rfl, _, rfl, d, _, rfl, DPut.t (e7 _ _ hkv) (e7 _ _ hag) (Nat.lt_of_le_of_lt (show kvs.length ≤ 200 by omega) (by decide)), ?_⟩
        rw [put_new hn]
        have tk8 : Tk H7 (upd H7 d (.dT (kvs ++ [(plKey s.to, .ref t)]))) := Tk.upd (e7 _ _ hkv) fun xs e => by cases e
        have hd8 : (upd H7 d (.dT (kvs ++ [(plKey s.to, .ref t)]))) d = some (.dT (kvs ++ [(plKey s.to, .ref t)])) := upd_same
        have hw8 : (upd H7 d (.dT (kvs ++ [(plKey s.to, .ref t)]))) w = some (.lst ws') := by rw [upd_ne dw.symm]; exact e7 _ _ hw6
        have hL8 : (upd H7 d (.dT (kvs ++ [(plKey s.to, .ref t)]))) L = some (.lst xs) := by rw [upd_ne Ld]; exact e7 _ _ hL6
        have e8 : Same H (upd H7 d (.dT (kvs ++ [(plKey s.to, .ref t)]))) := (e6.trans e7).mut hd
        generalize upd H7 d (.dT (kvs ++ [(plKey s.to, .ref t)])) = H8 at tk8 hd8 hw8 hL8 e8 ⊢
        walk_at "go"
        refine ⟨_, rfl, .inl ⟨rfl, _, SqL.of hw8⟩, ?_⟩
        walk_at "go"
        have lws' : ws'.length = cm.length := by rw [hws6.length]; unfold keysOf; rw [List.length_map]
        refine ⟨w, ws', _, rfl, rfl, hw8, Nat.lt_of_le_of_lt (show ws'.length ≤ 200 by omega) (by decide), ?_⟩
        have tk9 : Tk H8 (upd H8 w (.lst (ws' ++ [.ref ag]))) := Tk.upd hw8 fun xs e => by cases e
        have tk69 := (Tk.of e7).trans (tk8.trans tk9)
        rw [next, hv1]
        refine ⟨_, _, _, ws' ++ [.ref ag], rfl, e8.mut w0, tk6.trans tk69, by rw [upd_ne Lw]; exact hL8, ⟨_, by rw [upd_ne dw]; exact hd8, K3.Paired.app (L2.Paired.mapP hkp fun _ _ y => y.tk tk69) (.cons ⟨rfl, ?_⟩ .nil)⟩, upd_same, ?_⟩
        · exact ⟨t, .ref ap, vcc, rfl, (tk8.trans tk9) _ _ h7, ⟨ap, rfl, (tk6.trans tk69) _ _ hap5⟩, hvcc.tk tk69⟩
        · rw [hks]
          exact K3.Paired.app (L2.Paired.mapP hws6 fun _ _ y => PlAt.tk tk69 y) (.cons ⟨ag, rfl, tk69 _ _ hag⟩ .nil)
      · obtain ⟨rfl, hc⟩ := hR
        have hc := of_decide_eq_false hc.symm
        refine w_next ?_
        refine stay ?_
        unfold visit1
        rw [if_neg hc]
    · rintro σ H6 ⟨o6, o7, o8, ws', rfl, e6, tk6, hL6, hcame6, hw6, hws6⟩
      rw [hLx.length, List.take_length] at hcame6 hws6
      have hok6 : CameOk m n (visit u p came (f p)) := hok.visit fun t ht => hS.place p t ht
      obtain ⟨more, hmore⟩ := visit_pre (u := u) (p := p) (ss := f p) (came := came)
      refine ⟨⟨i + 1, _, _, _, _, visit u p came (f p), ws', rfl, e6, hcame6, hw6, hws6, hok6, by rw [hmore, List.length_append]; omega, ?_⟩, ?_⟩
      · rw [← hb]
        obtain ⟨k, hk⟩ : ∃ k, m + n + 1 - i = k + 1 := ⟨m + n - i, by omega⟩
        rw [hk, show m + n + 1 - (i + 1) = k by omega]
        show _ = bfs u f (k + 1) i came
        unfold bfs
        rw [hp]
        cases k <;> rfl
      · show m + n + 1 - ((i : Int) + 1).toNat < m + n + 1 - ((i : Int)).toNat
        omega
  · rw [decide_eq_false ci]
    walk_at "go"
    obtain rfl : i = came.length := by omega
    have : bfs u f (m + n + 1 - came.length) came.length came = came := by
      obtain ⟨k, hk⟩ : ∃ k, m + n + 1 - came.length = k + 1 := ⟨m + n - came.length, by omega⟩
      rw [hk]
      unfold bfs
      rw [List.getElem?_eq_none (Nat.le_refl _)]
    rw [this] at hb
    rw [hb] at hcame
    exact q d H4 e4 hd hcame
end
end K3
end F4_part
section F5_part
set_option Elab.async false
set_option linter.all false
set_option maxRecDepth 100000
set_option maxHeartbeats 1000000
set_option pp.deepTerms.threshold 5
open PySem PySem.Spec PyProof.Rows L2
/-- go on as far as nothing is open -/
local macro_rules | `(tactic| walk_at "go") => `(tactic| repeat (first
  | with_reducible refine w_seq ?_ | with_reducible refine w_next ?_ | with_reducible refine w_set ?_ | with_reducible refine w_drop ?_ | with_reducible refine w_ret ?_ | with_reducible refine w_retN ?_
  | with_reducible refine w_if ?_ | ((with_reducible refine' w_var ?hv ?_); (case hv => exact rfl)) | with_reducible refine w_c ?_ | with_reducible refine w_nil ?_ | with_reducible refine w_cons ?_ | with_reducible refine w_op ?_ | with_reducible refine w_un ?_
  | with_reducible refine w_test ?_ | with_reducible refine w_tB ?_ | with_reducible refine w_not ?_ | with_reducible refine w_and ?_ | with_reducible refine w_or ?_ | with_reducible refine w_bl ?_
  | with_reducible refine w_andV ?_ | with_reducible refine w_orV ?_ | with_reducible refine w_notV ?_ | with_reducible refine w_ifE ?_ | with_reducible refine w_chain ?_ | with_reducible refine w_i0 ?_
  | with_reducible refine w_call ?_ | with_reducible refine w_callS ?_ | with_reducible refine w_cB ?_ | with_reducible refine w_tup ?_ | with_reducible refine w_lst ?_ | with_reducible refine w_fldV ?_
  | with_reducible refine w_neF ?_ | with_reducible refine w_neT ?_ | with_reducible refine w_notN ?_ | with_reducible refine w_isN ?_ | with_reducible refine w_gname ?_ | with_reducible refine w_gsub ?_ | with_reducible refine w_asg ?_ | with_reducible refine w_sl ?_ | with_reducible refine w_noP ?_ | with_reducible refine w_int1 ?_ | with_reducible refine w_part ?_ | with_reducible refine w_yes ?_ | with_reducible refine w_nT ?_ | with_reducible refine w_nF ?_ | with_reducible refine w_iteT ?_ | with_reducible refine w_iteF ?_))
namespace K3
abbrev Way := List ((Nat × Nat) × Bool)
def WayAt (H : Hp) (v : V) (q : (Nat × Nat) × Bool) : Prop := ∃ a vc, v = .ref a ∧ H a = some (.tup [vc, .int (sgn q.2)]) ∧ CellAt H vc q.1
theorem WayAt.tk {H H' : Hp} (e : Tk H H') {v : V} {q : (Nat × Nat) × Bool} (h : WayAt H v q) : WayAt H' v q := let ⟨a, vc, h1, h2, h3⟩ := h; ⟨a, vc, h1, e _ _ h2, h3.tk e⟩
def lookC (came : Came) (p : Pl) : Option Stp := (came.find? fun q => decide (q.1 = p)).bind (·.2)
def wayI (came : Came) : Nat → Option Stp → Way
  | 0, _ => []
  | _ + 1, none => []
  | k + 1, some s => (s.c, s.up) :: wayI came k (lookC came s.to)
def wayF (came : Came) (g : Pl) : Way := wayI came (came.length + 1) (lookC came g)
/-- each step in came leads back to a place that came ahead -/
def Tree (came : Came) : Prop := ∀ (i : Nat) (p : Pl) (s : Stp), came[i]? = some (p, some s) → ∃ (j : Nat) (o : Option Stp), j < i ∧ came[j]? = some (s.to, o)
theorem look_at {came : Came} (nd : (keysOf came).Nodup) {i : Nat} {p : Pl} {o : Option Stp} (h : came[i]? = some (p, o)) : lookC came p = o := by
  unfold lookC
  induction came generalizing i with
  | nil => simp at h
  | cons q came ih =>
    obtain ⟨n1, n2⟩ := List.nodup_cons.mp nd
    cases i with
    | zero =>
      have e : q = (p, o) := by simpa using h
      subst e
      rw [List.find?_cons_of_pos (by simp)]
      rfl
    | succ i =>
      have h : came[i]? = some (p, o) := by simpa using h
      have ne : q.1 ≠ p := fun e => n1 (by show q.1 ∈ _; rw [e]; exact List.mem_map.mpr ⟨_, List.mem_of_getElem? h, rfl⟩)
      rw [List.find?_cons_of_neg (by simpa using ne)]
      exact ih n2 h
theorem way_fuel {came : Came} (nd : (keysOf came).Nodup) (ht : Tree came) : ∀ (i : Nat) {p : Pl} {o : Option Stp} {k k' : Nat}, came[i]? = some (p, o) → i < k → i < k' → wayI came k o = wayI came k' o := by
  intro i
  induction i using Nat.strongRecOn with
  | _ i ih =>
    intro p o k k' h hk hk'
    obtain ⟨k, rfl⟩ : ∃ j, k = j + 1 := ⟨k - 1, by omega⟩
    obtain ⟨k', rfl⟩ : ∃ j, k' = j + 1 := ⟨k' - 1, by omega⟩
    cases o with
    | none => rfl
    | some s =>
      obtain ⟨j, o, hj, hj2⟩ := ht i p s h
      show _ :: _ = _ :: _
      rw [look_at nd hj2, ih j hj hj2 (by omega) (show j < k' by omega)]
theorem came_at {H : Hp} {kvs : List (List L2.Key × V)} {came : Came} (hp : Paired (CE H) kvs came) (nd : (keysOf came).Nodup) {i : Nat} {p : Pl} {o : Option Stp} (h : came[i]? = some (p, o)) : ∃ v, valV kvs (plKey p) = some v ∧ CEv H v o := by
  rcases came_get hp p with ⟨h1, _⟩ | ⟨i', o', v, h1, h2, h3, h4⟩
  · exact absurd (List.mem_map.mpr ⟨_, List.mem_of_getElem? h, rfl⟩) h1
  · have e1 := look_at nd h
    have e2 := look_at nd h1
    rw [e1] at e2
    rw [e2]
    exact ⟨v, h3, h4⟩
def spWay (K : PySem.W.Frag) : Sp := fun vs H Q _ => ∃ (d : Addr) (v : V) (came : Came) (g : Pl), vs = [.ref d, v] ∧ CameAt H d came ∧ PlAt H v g ∧ (keysOf came).Nodup ∧ Tree came ∧ came.length ≤ 1000 ∧ g ∈ keysOf came ∧
  ∀ w H' ws, Same H H' → H w = none → H' w = some (.lst ws) → Paired (WayAt H') ws (wayF came g) → Q (.ref w) H'
def WtInv (H : Hp) (came : Came) (d ag w : Addr) (g : Pl) (k : Nat) (σ : L2.St) (H' : Hp) : Prop := ∃ (i : Nat) (p : Pl) (o : Option Stp) (v : V) (o4 o5 o6 : Option V) (ws : List V) (acc : Way), k = i + (if o.isSome then 1 else 0) ∧ σ = [some (.ref d), some (.ref ag), some (.ref w), some v, o4, o5, o6] ∧ Same H H' ∧ H' w = some (.lst ws) ∧ Paired (WayAt H') ws acc ∧ came[i]? = some (p, o) ∧ CEv H' v o ∧ acc ++ wayI came (i + 1) o = wayF came g ∧ acc.length + i ≤ came.length
section
variable {P : Program} {w : World} {K : PySem.W.Frag} {mg : Str → Option Value} {base : Heap}
theorem sc_way_to : FnScope ["came", "goal", "way", "step", "place", "cell", "sign"] ["came", "goal"] (defScope s_way_to) := ⟨rfl, rfl, rfl, by decide +kernel, rfl, by decide +kernel, by decide +kernel⟩
theorem ok_way_to (T : Tx K mg) : Ok P w K mg base 1 (He.ga K "way_to") ["came", "goal"] (spWay K) := by
  obtain ⟨fd, F⟩ := T.f_way_to
  refine ⟨fd, F.ok (k := 0) sc_way_to (fun vs H Q E h => ?_) (fun cdv A outer s_ H vs Q E hr h => ?_), F.bindsN fun _ _ _ _ _ _ us hl => match us, hl with | [_, _], _ => rfl, F.kp⟩
  · obtain ⟨d, v, came, g, rfl, ⟨kvs, hkv, hkp⟩, ⟨ag, rfl, hag⟩, nd, tree, len, hg, q⟩ := h
    rfl
  obtain ⟨d, v, came, g, rfl, ⟨kvs, hkv, hkp⟩, ⟨ag, rfl, hag⟩, nd, tree, len, hg, q⟩ := h
  have hu65 := K3.Room.units65 hr
  have hu64 := Nat.lt_of_succ_lt hu65
  have hu0 := Nat.lt_of_le_of_lt (Nat.le_add_right _ 65) hu65
  have hu1 := Nat.lt_of_le_of_lt (Nat.add_le_add_left (show 1 ≤ 65 by decide) _) hu65
  refine ⟨_, pss_cons (ps_set (i := 2) sc_way_to.nd rfl (Or.inl rfl) (pe_lst pa_nil))
      (pss_cons (ps_set (i := 3) sc_way_to.nd rfl (Or.inl rfl) (pe_dget hu1 (pv 0) (pv 1) (fun _ _ => rfl)))
      (pss_cons (ps_while (passes_of rfl) (pt_cmp (pc_notN (pv 3))) (pss_cons (ps_asg (pv 3) (pg_tup (by rfl) (pgs_cons (pg_name (i := 4) sc_way_to.nd rfl (Or.inl rfl)) (pgs_cons (pg_name (i := 5) sc_way_to.nd rfl (Or.inl rfl)) (pgs_cons (pg_name (i := 6) sc_way_to.nd rfl (Or.inl rfl)) pgs_nil)))))
      (pss_cons (ps_expr (pe_bm PySem.F.plainAttrs_list PySem.F.slot_list_append PySem.F.type_list_append mt_append (pv 2) (pa_cons (pe_tup (pa_cons (pv 5) (pa_cons (pv 6) pa_nil))) pa_nil)))
      (pss_one (ps_set (i := 3) sc_way_to.nd rfl (Or.inl rfl) (pe_dget hu1 (pv 0) (pv 4) (fun _ _ => rfl)))))))
      (pss_one (ps_ret (pv 2))))), ?_⟩
  walk_at "go"
  refine ⟨Nat.zero_le _, fun w hw => ?_⟩
  have e1 := Same.new hw (.lst [])
  have h1 : (upd H w (.lst [])) w = some (.lst []) := upd_same
  generalize upd H w (.lst []) = H1 at e1 h1 ⊢
  obtain ⟨i0, o0, hi0⟩ : ∃ i o, came[i]? = some (g, o) := by
    obtain ⟨⟨p, o⟩, hq, rfl⟩ := List.mem_map.mp hg
    obtain ⟨i, hi⟩ := List.getElem?_of_mem hq
    exact ⟨i, o, hi⟩
  obtain ⟨v0, hv0, hc0⟩ := came_at hkp nd hi0
  have hil : i0 < came.length := (List.getElem?_eq_some_iff.mp hi0).1
  walk_at "go"
  refine ⟨_, rfl, _, rfl, d, v0, rfl, by rw [← hv0]; exact DGet.t (e1 _ _ hkv) (e1 _ _ hag), ?_⟩
  walk_at "go"
  refine ⟨WtInv H came d ag w g, ⟨_, i0, g, o0, v0, none, none, none, [], [], rfl, rfl, e1, h1, .nil, hi0, hc0.tk (Tk.of e1), ?_, by show 0 + i0 ≤ came.length; omega⟩, ?_⟩
  · show wayI came (i0 + 1) o0 = wayI came (came.length + 1) (lookC came g)
    rw [look_at nd hi0]
    exact way_fuel nd tree i0 hi0 (Nat.lt_succ_self _) (by omega)
  rintro k σ H2 ⟨i, p, o, v, o4, o5, o6, ws, acc, rfl, rfl, e2, hw2, hws, hi, hc, hacc, hlen⟩
  walk_at "go"
  cases o with
  | none =>
    obtain rfl : v = .non := hc
    rw [show (!decide ((V.non : V) = V.non)) = false from rfl]
    walk_at "go"
    have e : acc = wayF came g := by rw [← hacc]; exact (List.append_nil _).symm
    rw [e] at hws
    exact q w H2 ws e2 hw hw2 hws
  | some s =>
    obtain ⟨a, vg, vc, rfl, ha, ⟨ag2, rfl, hag2⟩, hvc⟩ := hc
    rw [show (!decide (V.ref a = V.non)) = true by rw [decide_eq_false (fun z => by cases z)]; rfl]
    refine iteT ?_
    refine ⟨fun σ' H' => ∃ m', m' < i + 1 ∧ WtInv H came d ag w g m' σ' H', fun _ _ h => h, ?_⟩
    walk_at "go"
    refine ⟨a, _, rfl, SqT.of ha, rfl, _, _, rfl, _, _, rfl, _, _, rfl, rfl, ?_⟩
    walk_at "go"
    refine ⟨_, rfl, .inl ⟨rfl, _, SqL.of hw2⟩, ?_⟩
    walk_at "go"
    refine ⟨(by show 2 ≤ sizeLine; decide), fun t ht => ?_⟩
    have e3 := Same.new ht (.tup [vc, .int (sgn s.up)])
    have h3 : (upd H2 t (.tup [vc, .int (sgn s.up)])) t = some (.tup [vc, .int (sgn s.up)]) := upd_same
    generalize upd H2 t (.tup [vc, .int (sgn s.up)]) = H3 at e3 h3 ⊢
    have hw3 := e3 _ _ hw2
    have lws := hws.length
    refine ⟨w, ws, _, rfl, rfl, hw3, Nat.lt_of_le_of_lt (show ws.length ≤ 1000 by omega) (by decide), ?_⟩
    have tk4 : Tk H3 (upd H3 w (.lst (ws ++ [.ref t]))) := Tk.upd hw3 fun xs e => by cases e
    have e4 : Same H (upd H3 w (.lst (ws ++ [.ref t]))) := (e2.trans e3).mut hw
    have tk24 := (Tk.of e3).trans tk4
    have h4 : (upd H3 w (.lst (ws ++ [.ref t]))) w = some (.lst (ws ++ [.ref t])) := upd_same
    generalize upd H3 w (.lst (ws ++ [.ref t])) = H4 at tk4 e4 tk24 h4 ⊢
    obtain ⟨j, o', hj, hj2⟩ := tree i p s hi
    obtain ⟨v', hv', hc'⟩ := came_at hkp nd hj2
    walk_at "go"
    refine ⟨_, rfl, _, rfl, d, v', rfl, by rw [← hv']; exact DGet.t (e4 _ _ hkv) (tk24 _ _ hag2), ?_⟩
    refine ⟨_, ?_, j, s.to, o', v', _, _, _, _, acc ++ [(s.c, s.up)], rfl, rfl, e4, h4, K3.Paired.app (L2.Paired.mapP hws fun _ _ y => y.tk tk24) (.cons ⟨t, vc, rfl, tk4 _ _ h3, hvc.tk tk24⟩ .nil), hj2, hc'.tk (Tk.of e4), ?_, by rw [List.length_append]; show acc.length + 1 + j ≤ _; omega⟩
    · split <;> omega
    · rw [← hacc, List.append_assoc]
      congr 1
      show (s.c, s.up) :: wayI came (j + 1) o' = (s.c, s.up) :: wayI came i (lookC came s.to)
      rw [look_at nd hj2, way_fuel nd tree j hj2 (Nat.lt_succ_self _) hj]
end
end K3
end F5_part
section F6_part
set_option Elab.async false
set_option linter.all false
set_option maxRecDepth 100000
set_option maxHeartbeats 1000000
set_option pp.deepTerms.threshold 5
open PySem PySem.Spec PyProof.Rows L2
/-- go on as far as nothing is open -/
local macro_rules | `(tactic| walk_at "go") => `(tactic| repeat (first
  | with_reducible refine w_seq ?_ | with_reducible refine w_next ?_ | with_reducible refine w_set ?_ | with_reducible refine w_drop ?_ | with_reducible refine w_ret ?_ | with_reducible refine w_retN ?_
  | with_reducible refine w_if ?_ | ((with_reducible refine' w_var ?hv ?_); (case hv => exact rfl)) | with_reducible refine w_c ?_ | with_reducible refine w_nil ?_ | with_reducible refine w_cons ?_ | with_reducible refine w_op ?_ | with_reducible refine w_un ?_
  | with_reducible refine w_test ?_ | with_reducible refine w_tB ?_ | with_reducible refine w_not ?_ | with_reducible refine w_and ?_ | with_reducible refine w_or ?_ | with_reducible refine w_bl ?_
  | with_reducible refine w_andV ?_ | with_reducible refine w_orV ?_ | with_reducible refine w_notV ?_ | with_reducible refine w_ifE ?_ | with_reducible refine w_chain ?_ | with_reducible refine w_i0 ?_
  | with_reducible refine w_call ?_ | with_reducible refine w_callS ?_ | with_reducible refine w_cB ?_ | with_reducible refine w_tup ?_ | with_reducible refine w_lst ?_ | with_reducible refine w_fldV ?_
  | with_reducible refine w_neF ?_ | with_reducible refine w_neT ?_ | with_reducible refine w_notN ?_ | with_reducible refine w_isN ?_ | with_reducible refine w_gname ?_ | with_reducible refine w_gsub ?_ | with_reducible refine w_asg ?_ | with_reducible refine w_sl ?_ | with_reducible refine w_noP ?_ | with_reducible refine w_int1 ?_ | with_reducible refine w_part ?_ | with_reducible refine w_yes ?_ | with_reducible refine w_nT ?_ | with_reducible refine w_nF ?_ | with_reducible refine w_iteT ?_ | with_reducible refine w_iteF ?_))
namespace K3
/-! ### what a search finds -/
def res (u : List (List Int)) (s : Stp) : Prop := s.up = true ∨ 0 < at2 u s.c.1 s.c.2
structure WOk (m n : Nat) (u : List (List Int)) (f : Pl → List Stp) (start : Pl) (came : Came) : Prop where
  ok : CameOk m n came
  zero : came[0]? = some (start, none)
  step : ∀ (i : Nat) (p : Pl) (s : Stp), came[i]? = some (p, some s) → (∃ (j : Nat) (o : Option Stp), j < i ∧ came[j]? = some (s.to, o)) ∧ res u s ∧ (⟨p, s.c, s.up⟩ : Stp) ∈ f s.to
  first : ∀ (i : Nat) (p : Pl), came[i]? = some (p, none) → i = 0
theorem WOk.tree {m n : Nat} {u : List (List Int)} {f : Pl → List Stp} {start : Pl} {came : Came} (h : WOk m n u f start came) : Tree came := fun i p s e => (h.step i p s e).1
theorem pre_at {α : Type} {l k : List α} {i : Nat} {x : α} (h : l[i]? = some x) : (l ++ k)[i]? = some x := by
  rw [List.getElem?_append_left (List.getElem?_eq_some_iff.mp h).1]
  exact h
theorem visit1_ok {m n : Nat} {u : List (List Int)} {f : Pl → List Stp} {start p : Pl} {came : Came} {i : Nat} {o : Option Stp} {s : Stp} (h : WOk m n u f start came) (hi : came[i]? = some (p, o)) (hs : s ∈ f p) (hp : s.to.2 < (if s.to.1 then m else n)) :
    WOk m n u f start (visit1 u p came s) ∧ (res u s → s.to ∈ keysOf (visit1 u p came s)) := by
  by_cases c : s.to ∉ keysOf came ∧ (s.up = true ∨ 0 < at2 u s.c.1 s.c.2)
  · have e : visit1 u p came s = came ++ [(s.to, some ⟨p, s.c, s.up⟩)] := by unfold visit1; rw [if_pos c]
    have ok := h.ok.visit1 (u := u) (p := p) hp
    rw [e] at ok ⊢
    have last : ∀ (j : Nat) (x : Pl × Option Stp), (came ++ [(s.to, some ⟨p, s.c, s.up⟩)])[j]? = some x → came[j]? = some x ∨ (j = came.length ∧ x = (s.to, some ⟨p, s.c, s.up⟩)) := by
      intro j x hx
      by_cases q : j < came.length
      · rw [List.getElem?_append_left q] at hx
        exact .inl hx
      · rw [List.getElem?_append_right (by omega)] at hx
        have : j - came.length = 0 := by
          have := (List.getElem?_eq_some_iff.mp hx).1
          simp at this
          omega
        rw [this] at hx
        exact .inr ⟨by omega, (Option.some.inj hx).symm⟩
    refine ⟨⟨ok, pre_at h.zero, fun j q t hj => ?_, fun j q hj => ?_⟩, fun _ => ?_⟩
    · rcases last j _ hj with hj | ⟨rfl, hx⟩
      · obtain ⟨⟨j', o', h1, h2⟩, h3, h4⟩ := h.step j q t hj
        exact ⟨⟨j', o', h1, pre_at h2⟩, h3, h4⟩
      · cases hx
        exact ⟨⟨i, o, (List.getElem?_eq_some_iff.mp hi).1, pre_at hi⟩, c.2, hs⟩
    · rcases last j _ hj with hj | ⟨rfl, hx⟩
      · exact h.first j q hj
      · cases hx
    · unfold keysOf
      rw [List.map_append]
      exact List.mem_append_right _ (List.mem_singleton.mpr rfl)
  · have e : visit1 u p came s = came := by unfold visit1; rw [if_neg c]
    rw [e]
    refine ⟨h, fun r => ?_⟩
    by_cases k : s.to ∈ keysOf came
    · exact k
    · exact absurd ⟨k, r⟩ c
theorem visit_ok {m n : Nat} {u : List (List Int)} {f : Pl → List Stp} {start p : Pl} {i : Nat} {o : Option Stp} (hS : StepsOk m n f) : ∀ {ss : List Stp} {came : Came}, WOk m n u f start came → came[i]? = some (p, o) → (∀ s ∈ ss, s ∈ f p) →
    WOk m n u f start (visit u p came ss) ∧ ∀ s ∈ ss, res u s → s.to ∈ keysOf (visit u p came ss)
  | [], came, h, _, _ => ⟨h, fun s hs => (by cases hs)⟩
  | s :: ss, came, h, hi, hm => by
    have hs := hm s (List.mem_cons_self ..)
    obtain ⟨h1, h2⟩ := visit1_ok h hi hs (hS.place p s hs)
    obtain ⟨m1, e1⟩ := visit1_pre (u := u) (p := p) (came := came) (s := s)
    obtain ⟨m2, e2⟩ := visit_pre (u := u) (p := p) (ss := ss) (came := visit1 u p came s)
    obtain ⟨h3, h4⟩ := visit_ok hS (ss := ss) h1 (by rw [e1]; exact pre_at hi) fun t ht => hm t (List.mem_cons_of_mem _ ht)
    refine ⟨h3, fun t ht r => ?_⟩
    rcases List.mem_cons.mp ht with rfl | ht
    · show t.to ∈ keysOf (visit u p (visit1 u p came t) ss)
      rw [e2]
      unfold keysOf
      rw [List.map_append]
      exact List.mem_append_left _ (h2 r)
    · exact h4 t ht r
theorem bfs_ok {m n : Nat} {u : List (List Int)} {f : Pl → List Stp} {start : Pl} (hS : StepsOk m n f) : ∀ (k i : Nat) (came : Came), WOk m n u f start came → i ≤ came.length → m + n < k + i → (∀ (j : Nat) (p : Pl) (o : Option Stp), j < i → came[j]? = some (p, o) → ∀ s ∈ f p, res u s → s.to ∈ keysOf came) →
    WOk m n u f start (bfs u f k i came) ∧ ∀ p ∈ keysOf (bfs u f k i came), ∀ s ∈ f p, res u s → s.to ∈ keysOf (bfs u f k i came)
  | 0, i, came, h, hi, hk, _ => by
    have := h.ok.len
    omega
  | k + 1, i, came, h, hi, hk, hc => by
    unfold bfs
    cases e : came[i]? with
    | none =>
      show WOk m n u f start came ∧ ∀ p ∈ keysOf came, ∀ s ∈ f p, res u s → s.to ∈ keysOf came
      refine ⟨h, fun p hp s hs r => ?_⟩
      obtain ⟨⟨q, o⟩, hq, rfl⟩ := List.mem_map.mp hp
      obtain ⟨j, hj⟩ := List.getElem?_of_mem hq
      have jl := (List.getElem?_eq_some_iff.mp hj).1
      have := List.getElem?_eq_none_iff.mp e
      exact hc j q o (by omega) hj s hs r
    | some q =>
      obtain ⟨p, o⟩ := q
      obtain ⟨h1, h2⟩ := visit_ok hS h e (ss := f p) fun s hs => hs
      obtain ⟨more, em⟩ := visit_pre (u := u) (p := p) (ss := f p) (came := came)
      have il := (List.getElem?_eq_some_iff.mp e).1
      refine bfs_ok hS k (i + 1) _ h1 (by rw [em, List.length_append]; omega) (by omega) fun j q o' hj hq s hs r => ?_
      by_cases z : j = i
      · subst z
        rw [em, pre_at e] at hq
        cases hq
        exact h2 s hs r
      · have jl : j < came.length := by omega
        rw [em, List.getElem?_append_left jl] at hq
        have := hc j q o' (by omega) hq s hs r
        rw [em]
        unfold keysOf
        rw [List.map_append]
        exact List.mem_append_left _ this
theorem ways_ok {m n : Nat} {u : List (List Int)} {f : Pl → List Stp} {start : Pl} (hS : StepsOk m n f) (hst : start.2 < (if start.1 then m else n)) :
    WOk m n u f start (waysF u f (m + n + 1) start) ∧ ∀ p ∈ keysOf (waysF u f (m + n + 1) start), ∀ s ∈ f p, res u s → s.to ∈ keysOf (waysF u f (m + n + 1) start) := by
  have h0 : WOk m n u f start [(start, none)] := by
    refine ⟨⟨by simp [keysOf], fun p hp => by rw [List.mem_singleton.mp hp]; exact hst⟩, rfl, fun i p s h => ?_, fun i p h => ?_⟩
    · cases i with
      | zero => cases h
      | succ i => simp at h
    · cases i with
      | zero => rfl
      | succ i => simp at h
  exact bfs_ok hS _ 0 _ h0 (Nat.zero_le _) (by omega) fun j p o hj => absurd hj (Nat.not_lt_zero _)
/-! ### the way found -/
/-- a way from start to p along residual steps -/
inductive Path (u : List (List Int)) (f : Pl → List Stp) (start : Pl) : Pl → Way → Prop
  | nil : Path u f start start []
  | step {p : Pl} {s : Stp} {w : Way} : s ∈ f p → res u s → Path u f start p w → Path u f start s.to ((s.c, s.up) :: w)
theorem way_path {m n : Nat} {u : List (List Int)} {f : Pl → List Stp} {start : Pl} {came : Came} (h : WOk m n u f start came) : ∀ (i k : Nat) (p : Pl) (o : Option Stp), came[i]? = some (p, o) → i < k → Path u f start p (wayI came k o) := by
  intro i
  induction i using Nat.strongRecOn with
  | _ i ih =>
    intro k p o hi hk
    obtain ⟨k, rfl⟩ : ∃ j, k = j + 1 := ⟨k - 1, by omega⟩
    cases o with
    | none =>
      have := h.first i p hi
      subst this
      rw [h.zero] at hi
      cases hi
      exact .nil
    | some s =>
      obtain ⟨⟨j, o', hj, hj2⟩, hr, hm⟩ := h.step i p s hi
      show Path u f start p ((s.c, s.up) :: wayI came k (lookC came s.to))
      rw [look_at h.ok.nd hj2]
      exact Path.step (s := ⟨p, s.c, s.up⟩) hm hr (ih j hj k s.to o' hj2 (by omega))
theorem wayF_path {m n : Nat} {u : List (List Int)} {f : Pl → List Stp} {start g : Pl} {came : Came} (h : WOk m n u f start came) (hg : g ∈ keysOf came) : Path u f start g (wayF came g) := by
  obtain ⟨⟨p, o⟩, hq, rfl⟩ := List.mem_map.mp hg
  obtain ⟨i, hi⟩ := List.getElem?_of_mem hq
  unfold wayF
  rw [look_at h.ok.nd hi]
  have := (List.getElem?_eq_some_iff.mp hi).1
  exact way_path h i _ _ o hi (by omega)
theorem path_res {u : List (List Int)} {f : Pl → List Stp} {start p : Pl} {w : Way} (h : Path u f start p w) : ∀ q ∈ w, q.2 = false → 0 < at2 u q.1.1 q.1.2 := by
  induction h with
  | nil => intro q hq; cases hq
  | step hs hr _ ih =>
    intro q hq e
    rcases List.mem_cons.mp hq with rfl | hq
    · rcases hr with hr | hr
      · rw [hr] at e; cases e
      · exact hr
    · exact ih q hq e
end K3
end F6_part
section F7_part
set_option Elab.async false
set_option linter.all false
set_option maxRecDepth 100000
set_option maxHeartbeats 1000000
set_option pp.deepTerms.threshold 5
open PySem PySem.Spec PyProof.Rows L2
/-- go on as far as nothing is open -/
local macro_rules | `(tactic| walk_at "go") => `(tactic| repeat (first
  | with_reducible refine w_seq ?_ | with_reducible refine w_next ?_ | with_reducible refine w_set ?_ | with_reducible refine w_drop ?_ | with_reducible refine w_ret ?_ | with_reducible refine w_retN ?_
  | with_reducible refine w_if ?_ | ((with_reducible refine' w_var ?hv ?_); (case hv => exact rfl)) | with_reducible refine w_c ?_ | with_reducible refine w_nil ?_ | with_reducible refine w_cons ?_ | with_reducible refine w_op ?_ | with_reducible refine w_un ?_
  | with_reducible refine w_test ?_ | with_reducible refine w_tB ?_ | with_reducible refine w_not ?_ | with_reducible refine w_and ?_ | with_reducible refine w_or ?_ | with_reducible refine w_bl ?_
  | with_reducible refine w_andV ?_ | with_reducible refine w_orV ?_ | with_reducible refine w_notV ?_ | with_reducible refine w_ifE ?_ | with_reducible refine w_chain ?_ | with_reducible refine w_i0 ?_
  | with_reducible refine w_call ?_ | with_reducible refine w_callS ?_ | with_reducible refine w_cB ?_ | with_reducible refine w_tup ?_ | with_reducible refine w_lst ?_ | with_reducible refine w_fldV ?_
  | with_reducible refine w_neF ?_ | with_reducible refine w_neT ?_ | with_reducible refine w_notN ?_ | with_reducible refine w_isN ?_ | with_reducible refine w_gname ?_ | with_reducible refine w_gsub ?_ | with_reducible refine w_asg ?_ | with_reducible refine w_sl ?_ | with_reducible refine w_noP ?_ | with_reducible refine w_int1 ?_ | with_reducible refine w_part ?_ | with_reducible refine w_yes ?_ | with_reducible refine w_nT ?_ | with_reducible refine w_nF ?_ | with_reducible refine w_iteT ?_ | with_reducible refine w_iteF ?_))
namespace L2
open PySem PySem.Spec PyProof.Rows
def rGetN (K : PySem.W.Frag) : V → V → Hp → VK → Prop := fun x y H Q => ∃ (p : Addr) (xs : List V) (j : Nat) (v : V), x = .ref p ∧ y = .int (j : Int) ∧ SqL K H p xs ∧ xs[j]? = some v ∧ Q v H
theorem get_listN {X : Cx} : PGet X (rGetN X.K) := by
  intro pins s σ H x y xv yv Q I rx ry ⟨p, xs, j, v, e1, e2, hq, hv, q⟩
  subst e1
  subst e2
  cases rx
  obtain ⟨t, rfl⟩ := ry
  obtain ⟨its, r, pl, hz⟩ := I.list hq
  obtain ⟨w', ew, rw'⟩ := r.get hv
  have hl := r.length
  have hj := (List.getElem?_eq_some_iff.mp hv).1
  have hn := line63
  exact wpAny_getItem_list pl.isList (by omega) (by omega) (by simpa using ew) ⟨v, H, I, rw', q⟩
theorem w_augS {K : PySem.W.Frag} {to ti te : TE} {tip : TIp} {D : L2.Ends} {σ : L2.St} {H : Hp} (h : to σ H fun o H1 => ti σ H1 fun i H2 => rGetN K o i H2 fun x H3 => te σ H3 fun y H4 => tip x y H4 fun z H5 => rSetL o i z H5 fun H6 => D.nx σ H6) : tAugS to ti te (rGetN K) tip rSetL D σ H := h
end L2
namespace K3
def lentF (u : List (List Int)) (w : Way) : List Int := (w.filter fun q => !q.2).map fun q => at2 u q.1.1 q.1.2
def amountF (left : Int) (ls : List Int) : Int := ls.foldl (fun a b => if b < a then b else a) left
theorem amount_min : ∀ (ls : List Int) (left : Int), amountF left ls ∈ left :: ls ∧ ∀ y ∈ left :: ls, amountF left ls ≤ y
  | [], left => ⟨List.mem_singleton.mpr rfl, fun y hy => by rw [List.mem_singleton.mp hy]; exact Int.le_refl _⟩
  | b :: ls, left => by
    obtain ⟨h1, h2⟩ := amount_min ls (if b < left then b else left)
    show amountF (if b < left then b else left) ls ∈ _ ∧ ∀ y ∈ _, amountF (if b < left then b else left) ls ≤ y
    have h3 := h2 _ (List.mem_cons_self ..)
    refine ⟨?_, fun y hy => ?_⟩
    · rcases List.mem_cons.mp h1 with e | e
      · rw [e]
        split
        · exact List.mem_cons_of_mem _ (List.mem_cons_self ..)
        · exact List.mem_cons_self ..
      · exact List.mem_cons_of_mem _ (List.mem_cons_of_mem _ e)
    · rcases List.mem_cons.mp hy with rfl | hy
      · split at h3 <;> rename_i c
        · rw [if_pos c]; omega
        · rw [if_neg c]; omega
      · rcases List.mem_cons.mp hy with rfl | hy
        · split at h3 <;> rename_i c
          · rw [if_pos c]; omega
          · rw [if_neg c]; omega
        · exact h2 y (List.mem_cons_of_mem _ hy)
theorem amount_is {left x : Int} {ls : List Int} (h1 : x ∈ left :: ls) (h2 : ∀ y ∈ left :: ls, x ≤ y) : x = amountF left ls := by
  obtain ⟨h3, h4⟩ := amount_min ls left
  have := h2 _ h3
  have := h4 _ h1
  omega
def addAt (u : List (List Int)) (c : Nat × Nat) (x : Int) : List (List Int) := u.set c.1 ((u.getD c.1 []).set c.2 (at2 u c.1 c.2 + x))
def applyF (u : List (List Int)) (w : Way) (a : Int) : List (List Int) := w.foldl (fun u q => addAt u q.1 (sgn q.2 * a)) u
def pushF (f : Pl → List Stp) (N : Nat) (start goal : Pl) : Nat → Int → List (List Int) → List (List Int) × Int
  | 0, left, u => (u, left)
  | k + 1, left, u =>
    if left ≤ 0 then (u, left) else
    let came := waysF u f N start
    if goal ∈ keysOf came then
      let w := wayF came goal
      let a := amountF left (lentF u w)
      pushF f N start goal k (left - a) (applyF u w a)
    else (u, left)
theorem lent_pos {u : List (List Int)} {w : Way} (h : ∀ q ∈ w, q.2 = false → 0 < at2 u q.1.1 q.1.2) : ∀ x ∈ lentF u w, 0 < x := by
  intro x hx
  obtain ⟨q, hq, rfl⟩ := List.mem_map.mp hx
  obtain ⟨h1, h2⟩ := List.mem_filter.mp hq
  exact h q h1 (by simpa using h2)
theorem amount_pos {left : Int} {ls : List Int} (h0 : 0 < left) (h : ∀ x ∈ ls, 0 < x) : 0 < amountF left ls ∧ amountF left ls ≤ left := by
  obtain ⟨h3, h4⟩ := amount_min ls left
  refine ⟨?_, h4 _ (List.mem_cons_self ..)⟩
  rcases List.mem_cons.mp h3 with e | e
  · omega
  · exact h _ e
theorem addAt_len {u : List (List Int)} {c : Nat × Nat} {x : Int} {m n : Nat} (h : Rect u m n) : Rect (addAt u c x) m n := by
  unfold addAt
  refine ⟨by rw [List.length_set]; exact h.1, fun r hr => ?_⟩
  by_cases hc : c.1 < u.length
  · rcases List.mem_or_eq_of_mem_set hr with z | z
    · exact h.2 r z
    · rw [z, List.length_set, List.getD_eq_getElem?_getD, List.getElem?_eq_getElem hc]
      exact h.2 _ (List.getElem_mem hc)
  · rw [List.set_eq_of_length_le (by omega)] at hr
    exact h.2 r hr
theorem applyF_rect {m n : Nat} {a : Int} : ∀ {w : Way} {u : List (List Int)}, Rect u m n → Rect (applyF u w a) m n
  | [], _, h => h
  | q :: w, u, h => applyF_rect (w := w) (addAt_len h)
theorem push_fuel {m n : Nat} {f : Pl → List Stp} {start goal : Pl} (hS : StepsOk m n f) (hst : start.2 < (if start.1 then m else n)) : ∀ (k k' : Nat) (left : Int) (u : List (List Int)), left.toNat < k → left.toNat < k' → pushF f (m + n + 1) start goal k left u = pushF f (m + n + 1) start goal k' left u := by
  intro k
  induction k with
  | zero => intro k' left u h; omega
  | succ k ih =>
    intro k' left u h h'
    obtain ⟨k', rfl⟩ : ∃ j, k' = j + 1 := ⟨k' - 1, by omega⟩
    unfold pushF
    by_cases c : left ≤ 0
    · rw [if_pos c, if_pos c]
    · rw [if_neg c, if_neg c]
      simp only
      by_cases g : goal ∈ keysOf (waysF u f (m + n + 1) start)
      · rw [if_pos g, if_pos g]
        obtain ⟨w1, _⟩ := ways_ok (u := u) hS hst
        obtain ⟨a1, a2⟩ := amount_pos (left := left) (by omega) (lent_pos (path_res (wayF_path w1 g)))
        exact ih k' _ _ (by omega) (by omega)
      · rw [if_neg g, if_neg g]
theorem FlowAt.put {K : PySem.W.Frag} {H : Hp} {F : Addr} {c0 : Nat × Nat} {np : Addr} {rs : List Addr} {u : List (List Int)} {m n : Nat} {f : Pl → List Stp} (h : FlowAt K H F c0 np rs u m n f) {c : Nat × Nat} {a : Addr} {r : List Int} (ha : rs[c.1]? = some a) (hr : u[c.1]? = some r) (x : Int) :
    FlowAt K (upd H a (.lst ((r.set c.2 (at2 u c.1 c.2 + x)).map V.int))) F c0 np rs (addAt u c x) m n f ∧ Tk H (upd H a (.lst ((r.set c.2 (at2 u c.1 c.2 + x)).map V.int))) := by
  obtain ⟨⟨dx, vc, d, kvs, h1, h2, h3, h4⟩, h5, h6, h7, h8⟩ := h
  obtain ⟨r', hr', hx⟩ := K3.Paired.get h5.rows ha
  obtain rfl : r = r' := Option.some.inj (hr.symm.trans hr')
  have hx : H a = some (.lst (r.map V.int)) := hx
  have am : a ∈ rs := List.mem_of_getElem? ha
  have tk : Tk H (upd H a (.lst ((r.set c.2 (at2 u c.1 c.2 + x)).map V.int))) := Tk.upd hx fun xs e => by cases e
  have e : addAt u c x = u.set c.1 (r.set c.2 (at2 u c.1 c.2 + x)) := by
    unfold addAt
    rw [List.getD_eq_getElem?_getD, hr]
    rfl
  refine ⟨⟨⟨dx, vc, d, kvs, ?_, h2.tk tk, ?_, fun p => (h4 p).imp id fun ⟨l, xs, a1, a2, a3, a4⟩ => ⟨l, xs, a1, (by rw [upd_ne (fun z => a3 (by rw [z]; exact am))]; exact a2), a3, L2.Paired.mapP a4 fun _ _ z => z.tk tk⟩⟩, ⟨?_, ?_⟩, addAt_len h6, h7, h8⟩, tk⟩
  · rw [upd_ne (fun z => by rw [z, hx] at h1; cases h1)]; exact h1
  · rw [upd_ne (fun z => by rw [z, hx] at h3; cases h3)]; exact h3
  · rw [upd_ne (fun z => h8 (by rw [z]; exact am))]; exact h5.at_
  · rw [e]
    refine paired_set h5.rows ha upd_same fun k b row ne hb z => ?_
    show upd H a _ b = _
    rw [upd_ne (fun e => ne (nodup_at h7 (by rw [e] at hb; exact hb) ha))]
    exact z
def spPushed (K : PySem.W.Frag) : Sp := fun vs H Q _ => ∃ (F : Addr) (v1 v2 : V) (c : Nat × Nat) (np : Addr) (rs : List Addr) (u : List (List Int)) (m n : Nat) (f : Pl → List Stp) (start goal : Pl) (most : Int), vs = [.ref F, v1, v2, .int most] ∧ FlowAt K H F c np rs u m n f ∧ StepsOk m n f ∧ m ≤ 60 ∧ n ≤ 60 ∧ PlAt H v1 start ∧ PlAt H v2 goal ∧ start.2 < (if start.1 then m else n) ∧ 0 ≤ most ∧
  ∀ H', BM rs H H' → Tk H H' → FlowAt K H' F c np rs (pushF f (m + n + 1) start goal (most.toNat + 1) most u).1 m n f → Q (.int (most - (pushF f (m + n + 1) start goal (most.toNat + 1) most u).2)) H'
def PuInv (K : PySem.W.Frag) (H : Hp) (F : Addr) (v1 v2 : V) (most : Int) (c : Nat × Nat) (np : Addr) (rs : List Addr) (u0 : List (List Int)) (m n : Nat) (f : Pl → List Stp) (start goal : Pl) (k : Nat) (σ : L2.St) (H' : Hp) : Prop :=
  ∃ (left : Int) (u : List (List Int)) (o5 o6 o7 o8 o9 o10 o11 o12 : Option V), k = left.toNat ∧ σ = [some (.ref F), some v1, some v2, some (.int most), some (.int left), o5, o6, o7, o8, o9, o10, o11, o12] ∧ BM rs H H' ∧ Tk H H' ∧ FlowAt K H' F c np rs u m n f ∧ 0 ≤ left ∧ pushF f (m + n + 1) start goal (left.toNat + 1) left u = pushF f (m + n + 1) start goal (most.toNat + 1) most u0
theorem way_len {H : Hp} {ws : List V} {w : Way} (h : Paired (WayAt H) ws w) : ws.length = w.length := h.length
theorem wayI_len {came : Came} : ∀ (k : Nat) (o : Option Stp), (wayI came k o).length ≤ k
  | 0, _ => Nat.le_refl 0
  | k + 1, none => Nat.zero_le _
  | k + 1, some s => by
    show (wayI came k _).length + 1 ≤ k + 1
    have := wayI_len (came := came) k (lookC came s.to)
    omega
theorem way_cells {m n : Nat} {u : List (List Int)} {f : Pl → List Stp} {start p : Pl} {w : Way} (hS : StepsOk m n f) (h : Path u f start p w) : ∀ q ∈ w, q.1.1 < m ∧ q.1.2 < n := by
  induction h with
  | nil => intro q hq; cases hq
  | step hs _ _ ih =>
    intro q hq
    rcases List.mem_cons.mp hq with rfl | hq
    · exact hS.cell _ _ hs
    · exact ih q hq
section
variable {P : Program} {w : World} {K : PySem.W.Frag} {mg : Str → Option Value} {base : Heap}
theorem sc_pushed : FnScope ["flow", "start", "goal", "most", "left", "came", "way", "cell", "sign", "lent", "amount", "row", "column"] ["flow", "start", "goal", "most"] (defScope s_pushed) := ⟨rfl, rfl, rfl, by decide +kernel, rfl, by decide +kernel, by decide +kernel⟩
theorem ok_pushed (T : Tx K mg) : Ok P w K mg base 3 (He.ga K "pushed") ["flow", "start", "goal", "most"] (spPushed K) := by
  obtain ⟨fd, F⟩ := T.f_pushed
  have Onumber_at := ok_number_at (P := P) (w := w) (base := base) T
  have Oway_to := ok_way_to (P := P) (w := w) (base := base) T
  have Oways_from := ok_ways_from (P := P) (w := w) (base := base) T
  refine ⟨fd, F.ok (k := 2) sc_pushed (fun vs H Q E h => ?_) (fun cdv A outer s_ H vs Q E hr h => ?_), F.bindsN fun _ _ _ _ _ _ us hl => match us, hl with | [_, _, _, _], _ => rfl, F.kp⟩
  · obtain ⟨F, v1, v2, c, np, rs, u0, m, n, f, start, goal, most, rfl, hF, hS, m60, n60, hv1, hv2, hst, h0, q⟩ := h
    rfl
  obtain ⟨F, v1, v2, c, np, rs, u0, m, n, f, start, goal, most, rfl, hF, hS, m60, n60, hv1, hv2, hst, h0, q⟩ := h
  have hu65 := K3.Room.units65 hr
  have hu64 := Nat.lt_of_succ_lt hu65
  have hu0 := Nat.lt_of_le_of_lt (Nat.le_add_right _ 65) hu65
  have hu1 := Nat.lt_of_le_of_lt (Nat.add_le_add_left (show 1 ≤ 65 by decide) _) hu65
  have rnumber_at : Room 1 _ := hr.mono (by decide)
  have rway_to : Room 1 _ := hr.mono (by decide)
  have rways_from : Room 2 _ := hr.mono (by decide)
  refine ⟨_, pss_cons (ps_set (i := 4) sc_pushed.nd rfl (Or.inl rfl) (pv 3))
      (pss_cons (ps_while (passes_of rfl) (pt_cmpR op_gt (pv 4) pe_int (nomark _)) (pss_cons (ps_set (i := 5) sc_pushed.nd rfl (Or.inl rfl) (pe_f Oways_from rways_from T.g_ways_from (pa_cons (pv 0) (pa_cons (pv 1) pa_nil))))
      (pss_cons (ps_if (pt_cmp (pc_dnotin hu1 (pv 2) (pv 5))) (pss_one (ps_ret (pe_op op_sub (pv 3) (pv 4)))) pss_nil)
      (pss_cons (ps_set (i := 6) sc_pushed.nd rfl (Or.inl rfl) (pe_f Oway_to rway_to T.g_way_to (pa_cons (pv 5) (pa_cons (pv 2) pa_nil))))
      (pss_cons (by exact ps_setLc (i := 9) (own := [("cell", 7), ("sign", 8)]) (g := gTup K 2 (gCons (gName 7) (gCons (gName 8) gNil))) (tt := (tTest (tOp (rI0 fun i j => .bl (decide (i < j))) (tVar 8) (tC (.int 0))))) (te := (tCall (spNum K) [] E0 (tCons (tFld K (tVar 0) "numbers") (tCons (tVar 7) tNil)))) (by rfl) sc_pushed.nd rfl rfl (by rfl) (pi_list (pv 6)) (blkOk_by (own := [("cell", 7), ("sign", 8)]) (N := ["flow", "start", "goal", "most", "left", "came", "way", "cell", "sign", "lent", "amount", "row", "column"]) (sc := defScope s_pushed) (by decide +kernel)) (fun _ _ _ _ _ => (pg_tup (by rfl) (pgs_cons (pg_name (i := 7) sc_pushed.nd rfl (Or.inl rfl)) (pgs_cons (pg_name (i := 8) sc_pushed.nd rfl (Or.inl rfl)) pgs_nil)))) (fun _ _ _ _ _ => (pts_one (pt_cmpR op_lt (pv 8) pe_int (nomark _)))) (fun _ _ _ _ _ => (pe_f Onumber_at rnumber_at T.g_number_at (pa_cons (pe_fld (pv 0) rfl) (pa_cons (pv 7) pa_nil)))))
      (pss_cons (ps_set (i := 10) sc_pushed.nd rfl (Or.inl rfl) (pe_callB (cr_min (by rfl)) (by rfl) T.z_min (by decide +kernel) (pa_cons (pe_op op_cat (pe_lst (pa_cons (pv 4) pa_nil)) (pv 9)) pa_nil)))
      (pss_cons (ps_for (passes_of rfl) (by rfl) (pi_list (pv 6)) (pg_tup (by rfl) (pgs_cons (pg_name (i := 7) sc_pushed.nd rfl (Or.inl rfl)) (pgs_cons (pg_name (i := 8) sc_pushed.nd rfl (Or.inl rfl)) pgs_nil))) (pss_cons (ps_asg (pv 7) (pg_tup (by rfl) (pgs_cons (pg_name (i := 11) sc_pushed.nd rfl (Or.inl rfl)) (pgs_cons (pg_name (i := 12) sc_pushed.nd rfl (Or.inl rfl)) pgs_nil))))
      (pss_one (ps_augS (pe_ix ix_list (pe_fld (pv 0) rfl) (pv 11) (fun _ _ => rfl)) (pv 12) get_listN (pe_op op_mul (pv 8) (pv 10)) ip_add set_list))))
      (pss_one (ps_aug (i := 4) sc_pushed.nd rfl (Or.inl rfl) (pv 10) ip_sub)))))))))
      (pss_one (ps_ret (pv 3)))), ?_⟩
  walk_at "go"
  refine ⟨PuInv K H F v1 v2 most c np rs u0 m n f start goal, ⟨_, most, u0, _, _, _, _, _, _, _, _, rfl, rfl, BM.refl _ _, Tk.refl _, hF, h0, rfl⟩, ?_⟩
  rintro k σ H1 ⟨left, u, o5, o6, o7, o8, o9, o10, o11, o12, rfl, rfl, b1, tk1, hF1, hl, hp⟩
  generalize hR : pushF f (m + n + 1) start goal (most.toNat + 1) most u0 = R at hp q
  walk_at "go"
  by_cases cl : left > 0
  · rw [decide_eq_true cl]
    refine iteT ?_
    refine ⟨fun σ' H' => ∃ m', m' < left.toNat ∧ PuInv K H F v1 v2 most c np rs u0 m n f start goal m' σ' H', fun _ _ h => h, ?_⟩
    obtain ⟨w1, w2⟩ := ways_ok (u := u) hS hst
    walk_at "go"
    refine ⟨F, v1, c, np, rs, u, m, n, f, start, rfl, hF1, hS, m60, n60, hv1.tk tk1, hst, fun d H2 e2 hd hcame => ?_⟩
    have hF2 := hF1.same e2
    have tk2 := tk1.trans (Tk.of e2)
    have b2 := b1.trans (BM.of e2)
    have hclen := w1.ok.len
    have hp' := hp
    unfold pushF at hp
    rw [if_neg (by omega)] at hp
    simp only at hp
    generalize hcm : waysF u f (m + n + 1) start = came at hcame w1 w2 hclen hp
    obtain ⟨kvs, hkv, hkp⟩ := id hcame
    obtain ⟨a2, rfl, ha2⟩ := hv2.tk tk2
    walk_at "go"
    refine ⟨_, rfl, _, rfl, d, valV kvs (plKey goal), rfl, DGet.t hkv ha2, ?_⟩
    rcases came_get hkp goal with ⟨hn, hv⟩ | ⟨i', o, v, k1, k2, k3, k4⟩
    · rw [hv]
      refine ⟨true, rfl, ?_⟩
      walk_at "go"
      rw [if_neg hn] at hp
      have := q H2 b2 tk2 (by rw [← hp]; exact hF2)
      rw [← hp] at this
      exact this
    · rw [k3]
      refine ⟨false, rfl, ?_⟩
      have hg : goal ∈ keysOf came := List.mem_map.mpr ⟨_, List.mem_of_getElem? k1, rfl⟩
      rw [if_pos hg] at hp
      have path := wayF_path w1 hg
      walk_at "go"
      refine ⟨d, .ref a2, came, goal, rfl, hcame, ⟨a2, rfl, ha2⟩, w1.ok.nd, w1.tree, by omega, hg, fun w H3 ws e3 hw0 hw3 hws => ?_⟩
      have lw := way_len hws
      have lw2 : (wayF came goal).length ≤ 200 := by
        have := wayI_len (came := came) (came.length + 1) (lookC came goal)
        unfold wayF
        omega
      have cells := way_cells hS path
      have pos := lent_pos (path_res path)
      generalize wayF came goal = way at hws lw lw2 cells pos path hp
      have hF3 := hF2.same e3
      walk_at "go"
      refine lcAt_open ?_
      refine list_open ?_
      walk_at "go"
      refine ⟨w, rfl, ⟨_, SqL.of hw3⟩, fun D hD => ?_⟩
      refine lc_list (xs := ws) (fun i H' => Same H3 H' ∧ H' D = some (.lst ((lentF u (way.take i)).map V.int))) ⟨Same.new hD _, upd_same⟩ (fun i H' _ z => SqL.of (z.1 _ _ hw3)) ?_ ?_
      · rintro i x H4 hx ⟨e4, hD4⟩
        obtain ⟨y, hy, hyx⟩ := K3.Paired.get hws hx
        obtain ⟨a, vc, rfl, ha, hvc⟩ := hyx.tk (Tk.of e4)
        refine ⟨a, _, rfl, SqT.of ha, rfl, _, _, rfl, _, _, rfl, rfl, ?_⟩
        refine ⟨rfl, ?_⟩
        have htk : lentF u (way.take (i + 1)) = lentF u (way.take i) ++ (if y.2 = true then [] else [at2 u y.1.1 y.1.2]) := by
          unfold lentF
          rw [List.take_add_one, hy, List.filter_append, List.map_append]
          congr 1
          cases h : y.2 <;> simp [h]
        walk_at "go"
        cases hup : y.2 with
        | true =>
          rw [hup, if_pos rfl, List.append_nil] at htk
          rw [show decide (sgn true < 0) = false from rfl]
          walk_at "go"
          exact ⟨e4, by rw [htk]; exact hD4⟩
        | false =>
          rw [hup, if_neg (by decide)] at htk
          rw [show decide (sgn false < 0) = true from rfl]
          walk_at "go"
          obtain ⟨c1, c2⟩ := cells y (List.mem_of_getElem? hy)
          obtain ⟨⟨dx, vc0, sd, skv, hob, _⟩, htab, hrect, _, _⟩ := hF3.same e4
          refine ⟨F, _, dx, _, _, rfl, hob, T.cl_Flow, T.n_Flow_numbers, rfl, ?_⟩
          walk_at "go"
          refine ⟨np, vc, rs, u, m, n, y.1.1, y.1.2, rfl, htab.gt, hrect, hvc, c1, c2, ?_⟩
          refine ⟨_, hD4, Nat.lt_of_le_of_lt (show _ ≤ 200 from ?_) (by decide), e4.mut hD, ?_⟩
          · unfold lentF
            rw [List.length_map, List.length_map]
            refine Nat.le_trans (List.length_filter_le _ _) ?_
            rw [List.length_take]
            omega
          · rw [upd_same, htk, List.map_append]
            rfl
      · rintro H4 ⟨e4, hD4⟩
        rw [lw, List.take_length] at hD4
        have ll : (lentF u way).length ≤ 200 := by
          unfold lentF
          rw [List.length_map]
          exact Nat.le_trans (List.length_filter_le _ _) lw2
        walk_at "go"
        refine ⟨(by show 1 ≤ sizeLine; decide), fun l5 hl5 => ?_⟩
        have e5 := Same.new hl5 (.lst [V.int left])
        walk_at "go"
        refine ⟨l5, D, _, _, rfl, rfl, upd_same, e5 _ _ hD4, Nat.le_trans (show _ ≤ 201 by rw [List.length_map]; simp; omega) (by decide), fun l6 hl6 => ?_⟩
        have e6 := Same.new hl6 (.lst ([V.int left] ++ (lentF u way).map V.int))
        refine ⟨l6, left :: lentF u way, rfl, SqL.of upd_same, by simp, fun am h1 h2 => ?_⟩
        obtain rfl := amount_is h1 h2
        have e46 := e4.trans (e5.trans e6)
        generalize upd (upd H4 l5 (.lst [V.int left])) l6 (.lst ([V.int left] ++ (lentF u way).map V.int)) = H6 at e46 ⊢
        obtain ⟨ap1, ap2⟩ := amount_pos (left := left) (by omega) pos
        generalize amountF left (lentF u way) = am at ap1 ap2 hp h1 h2
        have hF6 := hF3.same e46
        have hw6 := e46 _ _ hw3
        have hws6 := L2.Paired.mapP hws fun _ _ y => y.tk (Tk.of e46)
        walk_at "go"
        refine list_open ?_
        walk_at "go"
        refine ⟨w, rfl, ⟨_, SqL.of hw6⟩, ?_⟩
        have wrs : w ∉ rs := fun z => by
          obtain ⟨r, hr⟩ := paired_has hF2.tab.rows z
          have hr : H2 w = some _ := hr
          rw [hw0] at hr
          cases hr
        have b6 := b2.trans (BM.of (M := rs) (e3.trans e46))
        have tk6 := tk2.trans (Tk.of (e3.trans e46))
        refine for_list (xs := ws) (fun i σ H' => ∃ (o7 o8 o11 o12 : Option V), σ = [some (.ref F), some v1, some (.ref a2), some (.int most), some (.int left), some (.ref d), some (.ref w), o7, o8, some (.ref D), some (.int am), o11, o12] ∧ BM rs H6 H' ∧ Tk H6 H' ∧ FlowAt K H' F c np rs (applyF u (way.take i) am) m n f) ?_ ?_ ?_ ?_
        · exact ⟨_, _, _, _, rfl, BM.refl _ _, Tk.refl _, hF6⟩
        · rintro i σ H' hi ⟨_, _, _, _, _, b, _, _⟩
          exact SqL.of (b.at hw6 wrs)
        · rintro i x σ H7 hx ⟨o7, o8, o11, o12, rfl, b7, tk7, hF7⟩
          obtain ⟨y, hy, hyx⟩ := K3.Paired.get hws6 hx
          obtain ⟨a, vc, rfl, ha, ac, rfl, hac⟩ := hyx.tk tk7
          obtain ⟨c1, c2⟩ := cells y (List.mem_of_getElem? hy)
          refine ⟨a, _, rfl, SqT.of ha, rfl, _, _, rfl, _, _, rfl, rfl, ?_⟩
          walk_at "go"
          refine ⟨ac, _, rfl, SqT.of hac, rfl, _, _, rfl, _, _, rfl, rfl, ?_⟩
          have rectU : Rect (applyF u (way.take i) am) m n := hF7.rect
          obtain ⟨ra, r, hra, hr, hrx⟩ := row_of hF7.tab (i := y.1.1) (by rw [rectU.1]; exact c1)
          have lr : r.length = n := rectU.2 r (List.mem_of_getElem? hr)
          have hrg : r.getD y.1.2 0 = at2 (applyF u (way.take i) am) y.1.1 y.1.2 := (at2_of hr).symm
          have put := hF7.put (c := y.1) hra hr (sgn y.2 * am)
          obtain ⟨⟨dx, vc0, sd, skv, hob, _⟩, htab, hrect, _, _⟩ := id hF7
          dsimp only
          refine w_augS ?_
          walk_at "go"
          refine ⟨F, _, dx, _, _, rfl, hob, T.cl_Flow, T.n_Flow_numbers, rfl, ?_⟩
          walk_at "go"
          refine w_ixL htab.at_ (ref_at hra) ?_
          walk_at "go"
          have hat : (r.map V.int)[y.1.2]? = some (.int (r.getD y.1.2 0)) := by
            rw [List.getElem?_map, List.getElem?_eq_getElem (by omega), List.getD_eq_getElem?_getD, List.getElem?_eq_getElem (by omega)]
            rfl
          refine ⟨ra, _, y.1.2, _, rfl, rfl, SqL.of hrx, hat, ?_⟩
          walk_at "go"
          refine w_i (.inl (by cases y.2 <;> decide)) ?_
          refine ⟨_, _, rfl, rfl, ?_⟩
          refine w_setL hrx (j := y.1.2) ?_ ?_
          · unfold ixN
            rw [if_pos (by omega), if_pos (by rw [List.length_map]; omega)]
            simp
          rw [hrg, ← List.map_set]
          refine ⟨_, _, _, _, rfl, b7.trans (BM.upd (List.mem_of_getElem? hra) _), tk7.trans put.2, ?_⟩
          have : applyF u (way.take (i + 1)) am = addAt (applyF u (way.take i) am) y.1 (sgn y.2 * am) := by
            unfold applyF
            rw [List.take_add_one, hy, List.foldl_append]
            rfl
          rw [this]
          exact put.1
        · rintro σ H7 ⟨o7, o8, o11, o12, rfl, b7, tk7, hF7⟩
          rw [lw, List.take_length] at hF7
          walk_at "go"
          refine ⟨_, rfl, ?_⟩
          walk_at "go"
          refine ⟨_, _, rfl, rfl, ?_⟩
          refine ⟨_, ?_, left - am, applyF u way am, _, _, _, _, _, _, _, _, rfl, rfl, b6.trans b7, tk6.trans tk7, hF7, by omega, ?_⟩
          · omega
          · rw [hR, ← hp]
            exact push_fuel hS hst _ _ _ _ (Nat.lt_succ_self _) (by omega)
  · rw [decide_eq_false cl]
    walk_at "go"
    obtain rfl : left = 0 := by omega
    have := q H1 b1 tk1
    rw [← hp] at this
    have := this hF1
    rw [show (pushF f (m + n + 1) start goal ((0 : Int).toNat + 1) 0 u).2 = 0 from rfl, Int.sub_zero] at this
    exact this
end
end K3
end F7_part
section F8_part
set_option Elab.async false
set_option linter.all false
set_option maxRecDepth 100000
set_option maxHeartbeats 1000000
set_option pp.deepTerms.threshold 5
open PySem PySem.Spec PyProof.Rows L2
/-- go on as far as nothing is open -/
local macro_rules | `(tactic| walk_at "go") => `(tactic| repeat (first
  | with_reducible refine w_seq ?_ | with_reducible refine w_next ?_ | with_reducible refine w_set ?_ | with_reducible refine w_drop ?_ | with_reducible refine w_ret ?_ | with_reducible refine w_retN ?_
  | with_reducible refine w_if ?_ | ((with_reducible refine' w_var ?hv ?_); (case hv => exact rfl)) | with_reducible refine w_c ?_ | with_reducible refine w_nil ?_ | with_reducible refine w_cons ?_ | with_reducible refine w_op ?_ | with_reducible refine w_un ?_
  | with_reducible refine w_test ?_ | with_reducible refine w_tB ?_ | with_reducible refine w_not ?_ | with_reducible refine w_and ?_ | with_reducible refine w_or ?_ | with_reducible refine w_bl ?_
  | with_reducible refine w_andV ?_ | with_reducible refine w_orV ?_ | with_reducible refine w_notV ?_ | with_reducible refine w_ifE ?_ | with_reducible refine w_chain ?_ | with_reducible refine w_i0 ?_
  | with_reducible refine w_call ?_ | with_reducible refine w_callS ?_ | with_reducible refine w_cB ?_ | with_reducible refine w_tup ?_ | with_reducible refine w_lst ?_ | with_reducible refine w_fldV ?_
  | with_reducible refine w_neF ?_ | with_reducible refine w_neT ?_ | with_reducible refine w_notN ?_ | with_reducible refine w_isN ?_ | with_reducible refine w_gname ?_ | with_reducible refine w_gsub ?_ | with_reducible refine w_asg ?_ | with_reducible refine w_sl ?_ | with_reducible refine w_noP ?_ | with_reducible refine w_int1 ?_ | with_reducible refine w_part ?_ | with_reducible refine w_yes ?_ | with_reducible refine w_nT ?_ | with_reducible refine w_nF ?_ | with_reducible refine w_iteT ?_ | with_reducible refine w_iteF ?_))
namespace K3
/-! ### flows -/
theorem steps_ok {m n : Nat} {cs : List (Nat × Nat)} (hm : 1 ≤ m) (hn : 1 ≤ n) (h : ∀ c ∈ cs, c.1 < m ∧ c.2 < n) (hl : cs.length ≤ 100) : StepsOk m n (stepsF m n cs) := by
  have arcs : ∀ c ∈ cs, (arcF m n c).1.2 < (if (arcF m n c).1.1 then m else n) ∧ (arcF m n c).2.2 < (if (arcF m n c).2.1 then m else n) := by
    intro c hc
    obtain ⟨h1, h2⟩ := h c hc
    unfold arcF
    split
    · exact ⟨by simpa using h1, by simpa using h2⟩
    · exact ⟨by simpa using h2, by simpa using h1⟩
  have each : ∀ p, ∀ s ∈ stepsF m n cs p, ∃ c ∈ cs, s.c = c ∧ (s.to = (arcF m n c).2 ∨ s.to = (arcF m n c).1) := by
    intro p s hs
    unfold stepsF at hs
    obtain ⟨c, hc, e⟩ := List.mem_filterMap.mp hs
    refine ⟨c, hc, ?_⟩
    split at e
    · cases e; exact ⟨rfl, .inl rfl⟩
    · split at e
      · cases e; exact ⟨rfl, .inr rfl⟩
      · cases e
  refine ⟨fun p => Nat.le_trans (steps_len m n cs p) hl, fun p s hs => ?_, fun p s hs => ?_⟩
  · obtain ⟨c, hc, e, _⟩ := each p s hs
    rw [e]
    exact h c hc
  · obtain ⟨c, hc, _, e | e⟩ := each p s hs
    · rw [e]; exact (arcs c hc).2
    · rw [e]; exact (arcs c hc).1
theorem arc_place {m n : Nat} {c : Nat × Nat} (h1 : c.1 < m) (h2 : c.2 < n) : (arcF m n c).1.2 < (if (arcF m n c).1.1 then m else n) ∧ (arcF m n c).2.2 < (if (arcF m n c).2.1 then m else n) := by
  unfold arcF
  split
  · exact ⟨by simpa using h1, by simpa using h2⟩
  · exact ⟨by simpa using h2, by simpa using h1⟩
def othersF (cs : List (Nat × Nat)) (c : Nat × Nat) : List (Nat × Nat) := cs.filter fun k => !decide (k = c)
def runF (m n : Nat) (cs : List (Nat × Nat)) (t : List (List Int)) (c : Nat × Nat) (s g : Pl) (most : Int) : List (List Int) × Int := pushF (stepsF m n (othersF cs c)) (m + n + 1) s g (most.toNat + 1) most t
def leastF (m n : Nat) (cs : List (Nat × Nat)) (t : List (List Int)) (c : Nat × Nat) : List (List Int) :=
  addAt (runF m n cs t c (arcF m n c).1 (arcF m n c).2 (at2 t c.1 c.2)).1 c (-(at2 t c.1 c.2 - (runF m n cs t c (arcF m n c).1 (arcF m n c).2 (at2 t c.1 c.2)).2))
def roomF (m n : Nat) (t : List (List Int)) (c : Nat × Nat) : Int := at2 t (m - 1) (n - 1) - at2 t c.1 c.2
def mostF (m n : Nat) (cs : List (Nat × Nat)) (t : List (List Int)) (c : Nat × Nat) : List (List Int) :=
  addAt (runF m n cs t c (arcF m n c).2 (arcF m n c).1 (roomF m n t c)).1 c (roomF m n t c - (runF m n cs t c (arcF m n c).2 (arcF m n c).1 (roomF m n t c)).2)
theorem Same.mutX {B H : Hp} {x : Addr} {o : HO} (e : Same B H) (h : B x = none) : Same B (upd H x o) := e.mut h
def spFlow (K : PySem.W.Frag) : Sp := fun vs H Q _ => ∃ (x dx g h : Addr) (v : V) (rs : List Addr) (t : List (List Int)) (m n : Nat) (ws : List V) (cs : List (Nat × Nat)) (c : Nat × Nat) (B : Hp), vs = [.ref x, .ref g, .ref h, v] ∧ Same B H ∧ B x = none ∧ GT K B g rs t ∧ Rect t m n ∧ 1 ≤ m ∧ 1 ≤ n ∧ m ≤ 60 ∧ n ≤ 60 ∧
  B h = some (.lst ws) ∧ Paired (CellAt B) ws cs ∧ cs.length ≤ 100 ∧ CellAt B v c ∧ H x = some (.ins (He.ga K "Flow") dx []) ∧
  ∀ H' np rs', Same B H' → FlowAt K H' x c np rs' t m n (stepsF m n (othersF cs c)) → B np = none → (∀ r ∈ rs', B r = none) → Q .non H'
def spNow (K : PySem.W.Frag) : Sp := fun vs H Q _ => ∃ (F : Addr) (c : Nat × Nat) (np : Addr) (rs : List Addr) (u : List (List Int)) (m n : Nat) (f : Pl → List Stp), vs = [.ref F] ∧ FlowAt K H F c np rs u m n f ∧ c.1 < m ∧ c.2 < n ∧ Q (.int (at2 u c.1 c.2)) H
def spChange (K : PySem.W.Frag) : Sp := fun vs H Q _ => ∃ (F : Addr) (c : Nat × Nat) (np : Addr) (rs : List Addr) (u : List (List Int)) (m n : Nat) (f : Pl → List Stp) (x : Int), vs = [.ref F, .int x] ∧ FlowAt K H F c np rs u m n f ∧ c.1 < m ∧ c.2 < n ∧
  ∀ H', BM rs H H' → Tk H H' → FlowAt K H' F c np rs (addAt u c x) m n f → Q .non H'
section
variable {P : Program} {w : World} {K : PySem.W.Frag} {mg : Str → Option Value} {base : Heap}
theorem sc_Flow : FnScope ["self", "grid", "hidden", "cell", "row", "other"] ["self", "grid", "hidden", "cell"] (defScope s_Flow_init) := ⟨rfl, rfl, rfl, by decide +kernel, rfl, by decide +kernel, by decide +kernel⟩
theorem ok_Flow (T : Tx K mg) : Ok P w K mg base 4 (He.ma K (He.ga K "Flow") "__init__") ["self", "grid", "hidden", "cell"] (spFlow K) := by
  obtain ⟨fd, F⟩ := T.f_Flow_init
  have Osteps_of := ok_steps_of (P := P) (w := w) (base := base) T
  refine ⟨fd, F.ok (k := 3) sc_Flow (fun vs H Q E h => ?_) (fun cdv A outer s_ H vs Q E hr h => ?_), F.bindsN fun _ _ _ _ _ _ us hl => match us, hl with | [_, _, _, _], _ => rfl, F.kp⟩
  · obtain ⟨x, dx, g, h, v, rs, t, m, n, ws, cs, c, B, rfl, _⟩ := h
    rfl
  obtain ⟨x, dx, g, h, v, rs, t, m, n, ws, cs, c, B, rfl, e0, hx0, ht, hR, m1, n1, m60, n60, hh, hw, hlen, hv, hx, q⟩ := h
  have hu65 := K3.Room.units65 hr
  have hu64 := Nat.lt_of_succ_lt hu65
  have rsteps_of : Room 3 _ := hr.mono (by decide)
  refine ⟨_, pss_cons (ps_fld (pv 0) (pv 3) rfl)
      (pss_cons (ps_fld (pv 0) (by exact pe_lc (own := [("row", 4)]) (g := gName 4) (tt := tYes) (te := (tCB (fun xs H Q => ∃ p ys, xs = [V.ref p] ∧ (SqL K H p ys ∨ SqT K H p ys) ∧ ∀ l, H l = none → Q (.ref l) (upd H l (.lst ys))) (tCons (tVar 4) tNil))) (by rfl) sc_Flow.nd (pi_seq (pv 1)) (blkOk_by (own := [("row", 4)]) (N := ["self", "grid", "hidden", "cell", "row", "other"]) (sc := defScope s_Flow_init) (by decide +kernel)) (fun _ _ _ _ _ => (pg_name (i := 4) sc_Flow.nd rfl (Or.inl rfl))) (fun _ _ _ _ _ => pts_nil) (fun _ _ _ _ _ => (pe_callTy call_list_of (by rfl) T.z_list (by decide +kernel) (pa_cons (pv 4) pa_nil)))) rfl)
      (pss_one (ps_fld (pv 0) (pe_f Osteps_of rsteps_of T.g_steps_of (pa_cons (pv 1) (pa_cons (by exact pe_lc (own := [("other", 5)]) (g := gName 5) (tt := (tTest (tOp (rNeD K) (tVar 5) (tVar 3)))) (te := (tVar 5)) (by rfl) sc_Flow.nd (pi_list (pv 2)) (blkOk_by (own := [("other", 5)]) (N := ["self", "grid", "hidden", "cell", "row", "other"]) (sc := defScope s_Flow_init) (by decide +kernel)) (fun _ _ _ _ _ => (pg_name (i := 5) sc_Flow.nd rfl (Or.inl rfl))) (fun _ _ _ _ _ => (pts_one (pt_cmpR (op_neD hu64) (pv 5) (pv 3) (nomark _)))) (fun _ _ _ _ _ => (pv 5))) pa_nil))) rfl))), ?_⟩
  have lm : t.length = m := hR.1
  have lw := hw.length
  walk_at "go"
  refine ⟨_, rfl, _, rfl, x, _, dx, _, rfl, hx, T.cl_Flow, T.n_Flow_cell, by decide, ?_⟩
  have e1 : Same B (upd H x (.ins (He.ga K "Flow") dx [("cell", v)])) := e0.mut hx0
  have hx1 : (upd H x (.ins (He.ga K "Flow") dx [("cell", v)])) x = some (.ins (He.ga K "Flow") dx [("cell", v)]) := upd_same
  rw [show putF ("cell" : Str) v ([] : List (Str × V)) = ([(("cell" : Str), v)] : List (Str × V)) from rfl]
  generalize upd H x (.ins (He.ga K "Flow") dx [("cell", v)]) = H1 at e1 hx1 ⊢
  dsimp only
  refine w_seq ?_
  refine lcAt_open (seqI_open ?_)
  walk_at "go"
  have ht1 := ht.same e1
  obtain ⟨bg, hgb⟩ := ht1.at_
  refine ⟨g, bg, rfl, ⟨_, hgb⟩, fun D hD => ?_⟩
  refine rows_newE (fun r => r) hgb ht1.rows (by omega) hD (fun x => rfl) ?_ ?_
  · intro b r H2 e2 hr hb Q q
    walk_at "go"
    refine ⟨b, _, rfl, hb.either, fun l hl => ?_⟩
    exact q l _ hl (Same.new hl _) upd_same
  intro H2 rs' e2 hT2 nd2 fr2
  rw [List.map_id'] at hT2
  have hx2 := e2 _ _ hx1
  refine ⟨_, rfl, x, _, dx, _, rfl, hx2, T.cl_Flow, T.n_Flow_numbers, by show 1 < 1000; decide, ?_⟩
  have Dx : D ≠ x := fun z => by rw [z, hx1] at hD; cases hD
  have rx : ∀ r ∈ rs', r ≠ x := fun r hr z => by
    have := (fr2 r hr).1
    rw [z, hx1] at this
    cases this
  have hx3 : (upd H2 x (.ins (He.ga K "Flow") dx [("cell", v), ("numbers", .ref D)])) x = some (.ins (He.ga K "Flow") dx [("cell", v), ("numbers", .ref D)]) := upd_same
  have e3 : Same B (upd H2 x (.ins (He.ga K "Flow") dx [("cell", v), ("numbers", .ref D)])) := (e1.trans e2).mut hx0
  have hT3 : Tab (upd H2 x (.ins (He.ga K "Flow") dx [("cell", v), ("numbers", .ref D)])) D rs' t := by
    refine ⟨by rw [upd_ne Dx]; exact hT2.at_, paired_up hT2.rows fun r row hr z => ?_⟩
    show upd H2 x _ r = _
    rw [upd_ne (rx r hr)]
    exact z
  rw [show putF ("numbers" : Str) (.ref D) ([(("cell" : Str), v)] : List (Str × V)) = ([(("cell" : Str), v), (("numbers" : Str), V.ref D)] : List (Str × V)) from rfl]
  generalize upd H2 x (.ins (He.ga K "Flow") dx [("cell", v), ("numbers", .ref D)]) = H3 at e3 hx3 hT3 ⊢
  dsimp only
  refine w_call (w_cons (w_var rfl (w_cons (lcAt_open (list_open (w_var rfl ?_))))))
  have hw3 := L2.Paired.mapP hw fun _ _ z => CellAt.same e3 z
  refine ⟨h, rfl, ⟨_, SqL.of (e3 _ _ hh)⟩, fun D2 hD2 => ?_⟩
  refine cells_keep (fun k => !decide (k = c)) (e3 _ _ hh) hw3 (by omega) hD2 (fun x => rfl) ?_ ?_ ?_
  · intro vk k H4 e4 hk hvk Q q
    walk_at "go"
    refine ⟨cellD k, cellD c, cell_dp hvk, cell_dp (hv.same (e3.trans e4)), cell_shaped _, cell_shaped _, ?_⟩
    rw [cell_eqv]
    exact ⟨_, rfl, q H4 (Same.refl _)⟩
  · intro vk H4 Q q
    walk_at "go"
    exact q
  · intro H4 zs e4 hD4 hz
    walk_at "go"
    have ht4 := ht.same (e3.trans e4)
    have lo : (othersF cs c).length ≤ 100 := Nat.le_trans (List.length_filter_le _ _) hlen
    refine ⟨g, D2, rs, t, m, n, zs, othersF cs c, rfl, ht4, hR, m1, n1, hD4, hz, lo, fun d H5 e5 hd hsteps hfresh => ?_⟩
    have e35 := e4.trans e5
    obtain ⟨kvs, hkv, hget⟩ := hsteps
    refine ⟨_, rfl, x, _, dx, _, rfl, e35 _ _ hx3, T.cl_Flow, T.n_Flow_steps, by show 2 < 1000; decide, ?_⟩
    have hT4 := hT3.same e4
    have hT5 := hT3.same e35
    have dx5 : d ≠ x := fun z => by rw [z, e4 _ _ hx3] at hd; cases hd
    have lnot : ∀ (kvs : List (List L2.Key × V)) (p : Pl) (l : Addr), H5 d = some (.dT kvs) → valV kvs (plKey p) = some (.ref l) → l ∉ rs' := fun kvs p l b1 b2 z => by
      have l0 := hfresh kvs p l b1 b2
      obtain ⟨row, hrow⟩ := paired_has hT4.rows z
      have hrow : H4 l = some _ := hrow
      rw [l0] at hrow
      cases hrow
    show Q .non (upd H5 x (.ins (He.ga K "Flow") dx [("cell", v), ("numbers", .ref D), ("steps", .ref d)]))
    have tk : Tk H5 (upd H5 x (.ins (He.ga K "Flow") dx [("cell", v), ("numbers", .ref D), ("steps", .ref d)])) := Tk.upd (e35 _ _ hx3) fun xs e => by cases e
    refine q _ D rs' ((e3.trans e35).mut hx0) ⟨⟨dx, v, d, kvs, upd_same, (hv.same (e3.trans e35)).tk tk, by rw [upd_ne dx5]; exact hkv, fun p => (hget p).imp id fun ⟨l, xs, a1, a2, a3⟩ => ⟨l, xs, a1, (by rw [upd_ne (fun z => by rw [z, e35 _ _ hx3] at a2; cases a2)]; exact a2), lnot kvs p l hkv a1, L2.Paired.mapP a3 fun _ _ y => y.tk tk⟩⟩, ⟨?_, ?_⟩, hR, nd2, fun z => (fr2 D z).2 rfl⟩ (e1.free hD) (fun r hr => e1.free (fr2 r hr).1)
    · rw [upd_ne Dx]; exact hT5.at_
    · refine paired_up hT5.rows fun r row hr z => ?_
      show upd H5 x _ r = _
      rw [upd_ne (rx r hr)]
      exact z
theorem sc_now : FnScope ["self"] ["self"] (defScope s_Flow_number_now) := ⟨rfl, rfl, rfl, by decide +kernel, rfl, by decide +kernel, by decide +kernel⟩
theorem ok_now (T : Tx K mg) : Ok P w K mg base 2 (He.ma K (He.ga K "Flow") "number_now") ["self"] (spNow K) := by
  obtain ⟨fd, F⟩ := T.f_Flow_number_now
  have Onumber_at := ok_number_at (P := P) (w := w) (base := base) T
  refine ⟨fd, F.ok (k := 1) sc_now (fun vs H Q E h => ?_) (fun cdv A outer s_ H vs Q E hr h => ?_), F.bindsN fun _ _ _ _ _ _ us hl => match us, hl with | [_], _ => rfl, F.kp⟩
  · obtain ⟨F, c, np, rs, u, m, n, f, rfl, _⟩ := h
    rfl
  obtain ⟨F, c, np, rs, u, m, n, f, rfl, hF, c1, c2, q⟩ := h
  refine ⟨_, pss_one (ps_ret (pe_f Onumber_at hr T.g_number_at (pa_cons (pe_fld (pv 0) rfl) (pa_cons (pe_fld (pv 0) rfl) pa_nil)))), ?_⟩
  obtain ⟨⟨dx, vc, d, kvs, hob, hvc, _⟩, htab, hrect, _, _⟩ := hF
  walk_at "go"
  refine ⟨F, _, dx, _, _, rfl, hob, T.cl_Flow, T.n_Flow_numbers, rfl, ?_⟩
  walk_at "go"
  refine ⟨F, _, dx, _, _, rfl, hob, T.cl_Flow, T.n_Flow_cell, rfl, ?_⟩
  walk_at "go"
  exact ⟨np, vc, rs, u, m, n, c.1, c.2, rfl, htab.gt, hrect, hvc, c1, c2, q⟩
theorem sc_change : FnScope ["self", "change", "row", "column"] ["self", "change"] (defScope s_Flow_change) := ⟨rfl, rfl, rfl, by decide +kernel, rfl, by decide +kernel, by decide +kernel⟩
theorem ok_change (T : Tx K mg) : Ok P w K mg base 1 (He.ma K (He.ga K "Flow") "change") ["self", "change"] (spChange K) := by
  obtain ⟨fd, F⟩ := T.f_Flow_change
  refine ⟨fd, F.ok (k := 0) sc_change (fun vs H Q E h => ?_) (fun cdv A outer s_ H vs Q E hr h => ?_), F.bindsN fun _ _ _ _ _ _ us hl => match us, hl with | [_, _], _ => rfl, F.kp⟩
  · obtain ⟨F, c, np, rs, u, m, n, f, x, rfl, _⟩ := h
    rfl
  obtain ⟨F, c, np, rs, u, m, n, f, x, rfl, hF, c1, c2, q⟩ := h
  refine ⟨_, pss_cons (ps_asg (pe_fld (pv 0) rfl) (pg_tup (by rfl) (pgs_cons (pg_name (i := 2) sc_change.nd rfl (Or.inl rfl)) (pgs_cons (pg_name (i := 3) sc_change.nd rfl (Or.inl rfl)) pgs_nil))))
    (pss_one (ps_augS (pe_ix ix_list (pe_fld (pv 0) rfl) (pv 2) (fun _ _ => rfl)) (pv 3) get_listN (pv 1) ip_add set_list)), ?_⟩
  obtain ⟨ra, r, hra, hr', hrx⟩ := row_of hF.tab (i := c.1) (by rw [hF.rect.1]; exact c1)
  have lr : r.length = n := hF.rect.2 r (List.mem_of_getElem? hr')
  have hrg : r.getD c.2 0 = at2 u c.1 c.2 := (at2_of hr').symm
  have put := hF.put (c := c) hra hr' x
  obtain ⟨⟨dx, vc, d, kvs, hob, ⟨ac, rfl, hac⟩, _⟩, htab, hrect, _, _⟩ := hF
  walk_at "go"
  refine ⟨F, _, dx, _, _, rfl, hob, T.cl_Flow, T.n_Flow_cell, rfl, ?_⟩
  refine ⟨ac, _, rfl, SqT.of hac, rfl, _, _, rfl, _, _, rfl, rfl, ?_⟩
  dsimp only
  refine w_augS ?_
  walk_at "go"
  refine ⟨F, _, dx, _, _, rfl, hob, T.cl_Flow, T.n_Flow_numbers, rfl, ?_⟩
  walk_at "go"
  refine w_ixL htab.at_ (ref_at hra) ?_
  walk_at "go"
  have hat : (r.map V.int)[c.2]? = some (.int (r.getD c.2 0)) := by
    rw [List.getElem?_map, List.getElem?_eq_getElem (by omega), List.getD_eq_getElem?_getD, List.getElem?_eq_getElem (by omega)]
    rfl
  refine ⟨ra, _, c.2, _, rfl, rfl, SqL.of hrx, hat, ?_⟩
  walk_at "go"
  refine ⟨_, _, rfl, rfl, ?_⟩
  refine w_setL hrx (j := c.2) ?_ ?_
  · unfold ixN
    rw [if_pos (by omega), if_pos (by rw [List.length_map]; omega)]
    simp
  rw [hrg, ← List.map_set]
  exact q _ (BM.upd (List.mem_of_getElem? hra) _) put.2 put.1
end
end K3
end F8_part
section F9_part
set_option Elab.async false
set_option linter.all false
set_option maxRecDepth 100000
set_option maxHeartbeats 1000000
set_option pp.deepTerms.threshold 5
open PySem PySem.Spec PyProof.Rows L2
/-- go on as far as nothing is open -/
local macro_rules | `(tactic| walk_at "go") => `(tactic| repeat (first
  | with_reducible refine w_seq ?_ | with_reducible refine w_next ?_ | with_reducible refine w_set ?_ | with_reducible refine w_drop ?_ | with_reducible refine w_ret ?_ | with_reducible refine w_retN ?_
  | with_reducible refine w_if ?_ | ((with_reducible refine' w_var ?hv ?_); (case hv => exact rfl)) | with_reducible refine w_c ?_ | with_reducible refine w_nil ?_ | with_reducible refine w_cons ?_ | with_reducible refine w_op ?_ | with_reducible refine w_un ?_
  | with_reducible refine w_test ?_ | with_reducible refine w_tB ?_ | with_reducible refine w_not ?_ | with_reducible refine w_and ?_ | with_reducible refine w_or ?_ | with_reducible refine w_bl ?_
  | with_reducible refine w_andV ?_ | with_reducible refine w_orV ?_ | with_reducible refine w_notV ?_ | with_reducible refine w_ifE ?_ | with_reducible refine w_chain ?_ | with_reducible refine w_i0 ?_
  | with_reducible refine w_call ?_ | with_reducible refine w_callS ?_ | with_reducible refine w_cB ?_ | with_reducible refine w_tup ?_ | with_reducible refine w_lst ?_ | with_reducible refine w_fldV ?_
  | with_reducible refine w_neF ?_ | with_reducible refine w_neT ?_ | with_reducible refine w_notN ?_ | with_reducible refine w_isN ?_ | with_reducible refine w_gname ?_ | with_reducible refine w_gsub ?_ | with_reducible refine w_asg ?_ | with_reducible refine w_sl ?_ | with_reducible refine w_noP ?_ | with_reducible refine w_int1 ?_ | with_reducible refine w_part ?_ | with_reducible refine w_yes ?_ | with_reducible refine w_nT ?_ | with_reducible refine w_nF ?_ | with_reducible refine w_iteT ?_ | with_reducible refine w_iteF ?_))
namespace L2
open PySem PySem.Spec PyProof.Rows
section
variable {X : Cx} {k : Nat} {f C : Addr} {ps : List Str} {sp : Sp} {x m : Str} {o e : Expr} {es : List Expr} {p apos pos : Pos} {t : TA} {ta : TE}
theorem pe_mk (O : Ok X.prog X.w X.K X.mg X.base k f ps sp) (M : Mk X.K C f) (hr : Room (k + 1) X.A) (hm : X.mg x = some (.ref C)) (ha : PA X (e :: es) t) (hg : Gl X x := by rfl) (hdb : (x == ("__debug__" : Str)) = false := by decide)
    (he : starEach (e :: es) X.env = (false, eval e X.env) :: starEach es X.env := by rfl) (hpl : (backTo pos (starEach es X.env)).any (·.1) = false := by rfl) : PE X (.Call (.Name x p) (e :: es) [] pos) (tMake C sp [] E0 t) := by
  obtain ⟨fd, F, b, kp⟩ := O.run
  exact pe_make M F hr hg hm b .nil passL ha hdb he hpl
theorem pe_mth {pl : Sem Bool} (he : PE X o ta) (c : Cls X.K C) (O : Ok X.prog X.w X.K X.mg X.base k f ps sp) (hm : Meth X.K C m f) (hr : Room k X.A) (ha : PA X (e :: es) t)
    (hst : starEach (e :: es) X.env = (false, eval e X.env) :: starEach es X.env := by rfl) (hpl : (backTo pos (starEach es X.env)).any (·.1) = false := by rfl)
    (ht : eval (.Call (.Attribute o m apos) (e :: es) [] pos) X.env = (do
      let ov ← eval o X.env
      standAt apos.atName
      let (f, first) ← holding [ov] (getMethod ov m pl)
      callWith pos f first (backTo pos (starEach (e :: es) X.env)) (backToKw pos (keywordEach [] X.env))) := by rfl) :
    PE X (.Call (.Attribute o m apos) (e :: es) [] pos) (tMeth C m sp [] E0 ta t) := by
  obtain ⟨fd, F, b, kp⟩ := O.run
  exact pe_meth (pl := pl) he c hm F hr b .nil passL ha hst hpl ht
theorem pe_mth0 {pl : Sem Bool} (he : PE X o ta) (c : Cls X.K C) (O : Ok X.prog X.w X.K X.mg X.base k f ps sp) (hm : Meth X.K C m f) (hr : Room k X.A)
    (ht : eval (.Call (.Attribute o m apos) [] [] pos) X.env = (do
      let ov ← eval o X.env
      standAt apos.atName
      let (f, first) ← holding [ov] (getMethod ov m pl)
      callWith pos f first (backTo pos (starEach [] X.env)) (backToKw pos (keywordEach [] X.env))) := by rfl) :
    PE X (.Call (.Attribute o m apos) [] [] pos) (tMeth C m sp [] E0 ta tNil) := by
  obtain ⟨fd, F, b, kp⟩ := O.run
  exact pe_meth0 (pl := pl) he c hm F hr b .nil passL ht
theorem w_make {sp : Sp} {σ : L2.St} {H : Hp} {Q : VK} {E : XK} (h : t σ H fun vs H1 => ∀ x dx, H1 x = none → H1 dx = none → dx ≠ x → sp (.ref x :: (vs ++ [])) (upd (upd H1 dx (.own x)) x (.ins C dx [])) (fun v H2 => v = .non ∧ Q (.ref x) H2) E) : tMake C sp [] E t σ H Q := h
theorem w_meth {sp : Sp} {σ : L2.St} {H : Hp} {Q : VK} {E : XK} (h : ta σ H fun x H1 => ∃ a dx fs, x = .ref a ∧ H1 a = some (.ins C dx fs) ∧ fs.lookup m = none ∧ t σ H1 fun vs H2 => sp (x :: (vs ++ [])) H2 Q E) : tMeth C m sp [] E ta t σ H Q := h
end
end L2
namespace K3
theorem same_newM {rs : List Addr} {H H1 H2 : Hp} (h0 : ∀ r ∈ rs, H r = none) (e : Same H H1) (b : BM rs H1 H2) : Same H H2 := fun c o h => b.at (e _ _ h) fun z => by rw [h0 c z] at h; cases h
/-- what is handed to a flow -/
structure Asked (K : PySem.W.Frag) (H : Hp) (g h : Addr) (v : V) (rs : List Addr) (t : List (List Int)) (m n : Nat) (ws : List V) (cs : List (Nat × Nat)) (c : Nat × Nat) : Prop where
  tab : GT K H g rs t
  rect : Rect t m n
  m1 : 1 ≤ m
  n1 : 1 ≤ n
  m60 : m ≤ 60
  n60 : n ≤ 60
  at_ : H h = some (.lst ws)
  cells : Paired (CellAt H) ws cs
  len : cs.length ≤ 100
  inn : ∀ k ∈ cs, k.1 < m ∧ k.2 < n
  cell : CellAt H v c
  c1 : c.1 < m
  c2 : c.2 < n
  num : 0 ≤ at2 t c.1 c.2
  room : 0 ≤ roomF m n t c
theorem Asked.same {K : PySem.W.Frag} {H H' : Hp} {g h : Addr} {v : V} {rs : List Addr} {t : List (List Int)} {m n : Nat} {ws : List V} {cs : List (Nat × Nat)} {c : Nat × Nat} (a : Asked K H g h v rs t m n ws cs c) (e : Same H H') : Asked K H' g h v rs t m n ws cs c :=
  ⟨a.tab.same e, a.rect, a.m1, a.n1, a.m60, a.n60, e _ _ a.at_, L2.Paired.mapP a.cells fun _ _ z => z.same e, a.len, a.inn, a.cell.same e, a.c1, a.c2, a.num, a.room⟩
def spEnd (G : Nat → Nat → List (Nat × Nat) → List (List Int) → Nat × Nat → List (List Int)) (K : PySem.W.Frag) : Sp := fun vs H Q _ => ∃ (g h : Addr) (v : V) (rs : List Addr) (t : List (List Int)) (m n : Nat) (ws : List V) (cs : List (Nat × Nat)) (c : Nat × Nat), vs = [.ref g, .ref h, v] ∧ Asked K H g h v rs t m n ws cs c ∧
  ∀ F H' np rs', Same H H' → FlowAt K H' F c np rs' (G m n cs t c) m n (stepsF m n (othersF cs c)) → H np = none → (∀ r ∈ rs', H r = none) → Q (.ref F) H'
abbrev spLeast := spEnd leastF
abbrev spMost := spEnd mostF
section
variable {P : Program} {w : World} {K : PySem.W.Frag} {mg : Str → Option Value} {base : Heap}
theorem sc_least_flow : FnScope ["grid", "hidden", "cell", "flow", "start", "goal"] ["grid", "hidden", "cell"] (defScope s_least_flow) := ⟨rfl, rfl, rfl, by decide +kernel, rfl, by decide +kernel, by decide +kernel⟩
theorem ok_least_flow (T : Tx K mg) : Ok P w K mg base 7 (He.ga K "least_flow") ["grid", "hidden", "cell"] (spLeast K) := by
  obtain ⟨fd, F⟩ := T.f_least_flow
  have Opushed := ok_pushed (P := P) (w := w) (base := base) T
  have Oarc_of := ok_arc_of (P := P) (w := w) (base := base) T
  refine ⟨fd, F.ok (k := 6) sc_least_flow (fun vs H Q E h => ?_) (fun cdv A outer s_ H vs Q E hr h => ?_), F.bindsN fun _ _ _ _ _ _ us hl => match us, hl with | [_, _, _], _ => rfl, F.kp⟩
  · obtain ⟨g, h, v, rs, t, m, n, ws, cs, c, rfl, A0, q⟩ := h
    rfl
  obtain ⟨g, h, v, rs, t, m, n, ws, cs, c, rfl, A0, q⟩ := h
  have hu65 := K3.Room.units65 hr
  have hu64 := Nat.lt_of_succ_lt hu65
  have hu0 := Nat.lt_of_le_of_lt (Nat.le_add_right _ 65) hu65
  have hu1 := Nat.lt_of_le_of_lt (Nat.add_le_add_left (show 1 ≤ 65 by decide) _) hu65
  have rpushed : Room 3 _ := hr.mono (by decide)
  have rarc_of : Room 2 _ := hr.mono (by decide)
  refine ⟨_, pss_cons (ps_set (i := 3) sc_least_flow.nd rfl (Or.inl rfl) (pe_mk (ok_Flow T) T.mk_Flow (hr.mono (by decide)) T.g_Flow (pa_cons (pv 0) (pa_cons (pv 1) (pa_cons (pv 2) pa_nil)))))
      (pss_cons (ps_asg (pe_f Oarc_of rarc_of T.g_arc_of (pa_cons (pv 0) (pa_cons (pv 2) pa_nil))) (pg_tup (by rfl) (pgs_cons (pg_name (i := 4) sc_least_flow.nd rfl (Or.inl rfl)) (pgs_cons (pg_name (i := 5) sc_least_flow.nd rfl (Or.inl rfl)) pgs_nil))))
      (pss_cons (ps_expr (pe_mth (pv 3) T.cl_Flow (ok_change T) T.m_Flow_change (hr.mono (by decide)) (pa_cons (pe_un un_neg (pe_f Opushed rpushed T.g_pushed (pa_cons (pv 3) (pa_cons (pv 4) (pa_cons (pv 5) (pa_cons (pe_mth0 (pv 3) T.cl_Flow (ok_now T) T.m_Flow_number_now (hr.mono (by decide))) pa_nil)))))) pa_nil)))
      (pss_one (ps_ret (pv 3))))), ?_⟩
  have A1 := A0
  walk_at "go"
  refine w_make ?_
  walk_at "go"
  refine fun F dx hF hdx hne => ?_
  have eA : Same H (upd (upd H dx (.own F)) F (.ins (He.ga K "Flow") dx [])) := (Same.new hdx _).trans (Same.new (by rw [upd_ne hne.symm]; exact hF) _)
  refine ⟨F, dx, g, h, v, rs, t, m, n, ws, cs, c, H, rfl, eA, hF, A0.tab, A0.rect, A0.m1, A0.n1, A0.m60, A0.n60, A0.at_, A0.cells, A0.len, A0.cell, upd_same, fun H1 np rs' e1 fl1 np0 rs0 => ⟨rfl, ?_⟩⟩
  have hS : StepsOk m n (stepsF m n (othersF cs c)) := steps_ok A0.m1 A0.n1 (fun k hk => A0.inn k (List.mem_filter.mp hk).1) (Nat.le_trans (List.length_filter_le _ _) A0.len)
  obtain ⟨pl1, pl2⟩ := arc_place (m := m) (n := n) A0.c1 A0.c2
  have B1 := A0.same e1
  walk_at "go"
  refine ⟨g, v, rs, t, m, n, c, rfl, B1.tab, A0.rect, A0.m1, A0.n1, B1.cell, fun a H2 w1 w2 e2 ha p1 p2 => ?_⟩
  refine ⟨a, _, rfl, SqT.of ha, rfl, _, _, rfl, _, _, rfl, rfl, ?_⟩
  have fl2 := fl1.same e2
  obtain ⟨⟨dx2, vc2, d2, kvs2, hob2, _⟩, _, _, _, _⟩ := id fl2
  have B2 := B1.same e2
  dsimp only
  refine w_seq (w_drop (w_meth ?_))
  refine w_var rfl ?_
  refine ⟨F, _, _, rfl, hob2, rfl, ?_⟩
  refine w_cons (w_un (w_call (w_cons (w_var rfl (w_cons (w_var rfl (w_cons (w_var rfl (w_cons (w_meth ?_))))))))))
  refine w_var rfl ⟨F, _, _, rfl, hob2, rfl, w_nil ?_⟩
  refine ⟨F, c, np, rs', t, m, n, _, rfl, fl2, A0.c1, A0.c2, w_nil ?_⟩
  refine ⟨F, w1, w2, c, np, rs', t, m, n, _, (arcF m n c).1, (arcF m n c).2, at2 t c.1 c.2, rfl, fl2, hS, A0.m60, A0.n60, p1, p2, pl1, A0.num, fun H3 b3 tk3 fl3 => ?_⟩
  refine ⟨_, rfl, w_nil ?_⟩
  refine ⟨F, c, np, rs', _, m, n, _, _, rfl, fl3, A0.c1, A0.c2, fun H4 b4 tk4 fl4 => ?_⟩
  walk_at "go"
  exact q F H4 np rs' (same_newM rs0 (e1.trans e2) (b3.trans b4)) fl4 np0 rs0
theorem sc_most_flow : FnScope ["grid", "hidden", "cell", "flow", "start", "goal"] ["grid", "hidden", "cell"] (defScope s_most_flow) := ⟨rfl, rfl, rfl, by decide +kernel, rfl, by decide +kernel, by decide +kernel⟩
theorem ok_most_flow (T : Tx K mg) : Ok P w K mg base 7 (He.ga K "most_flow") ["grid", "hidden", "cell"] (spMost K) := by
  obtain ⟨fd, F⟩ := T.f_most_flow
  have Opushed := ok_pushed (P := P) (w := w) (base := base) T
  have Onumber_at := ok_number_at (P := P) (w := w) (base := base) T
  have Olast_cell := ok_last_cell (P := P) (w := w) (base := base) T
  have Oarc_of := ok_arc_of (P := P) (w := w) (base := base) T
  refine ⟨fd, F.ok (k := 6) sc_most_flow (fun vs H Q E h => ?_) (fun cdv A outer s_ H vs Q E hr h => ?_), F.bindsN fun _ _ _ _ _ _ us hl => match us, hl with | [_, _, _], _ => rfl, F.kp⟩
  · obtain ⟨g, h, v, rs, t, m, n, ws, cs, c, rfl, A0, q⟩ := h
    rfl
  obtain ⟨g, h, v, rs, t, m, n, ws, cs, c, rfl, A0, q⟩ := h
  have hu65 := K3.Room.units65 hr
  have hu64 := Nat.lt_of_succ_lt hu65
  have hu0 := Nat.lt_of_le_of_lt (Nat.le_add_right _ 65) hu65
  have hu1 := Nat.lt_of_le_of_lt (Nat.add_le_add_left (show 1 ≤ 65 by decide) _) hu65
  have rpushed : Room 3 _ := hr.mono (by decide)
  have rnumber_at : Room 1 _ := hr.mono (by decide)
  have rlast_cell : Room 1 _ := hr.mono (by decide)
  have rarc_of : Room 2 _ := hr.mono (by decide)
  refine ⟨_, pss_cons (ps_set (i := 3) sc_most_flow.nd rfl (Or.inl rfl) (pe_mk (ok_Flow T) T.mk_Flow (hr.mono (by decide)) T.g_Flow (pa_cons (pv 0) (pa_cons (pv 1) (pa_cons (pv 2) pa_nil)))))
      (pss_cons (ps_asg (pe_f Oarc_of rarc_of T.g_arc_of (pa_cons (pv 0) (pa_cons (pv 2) pa_nil))) (pg_tup (by rfl) (pgs_cons (pg_name (i := 4) sc_most_flow.nd rfl (Or.inl rfl)) (pgs_cons (pg_name (i := 5) sc_most_flow.nd rfl (Or.inl rfl)) pgs_nil))))
      (pss_cons (ps_expr (pe_mth (pv 3) T.cl_Flow (ok_change T) T.m_Flow_change (hr.mono (by decide)) (pa_cons (pe_f Opushed rpushed T.g_pushed (pa_cons (pv 3) (pa_cons (pv 5) (pa_cons (pv 4) (pa_cons (pe_op op_sub (pe_f Onumber_at rnumber_at T.g_number_at (pa_cons (pv 0) (pa_cons (pe_f Olast_cell rlast_cell T.g_last_cell (pa_cons (pv 0) pa_nil)) pa_nil))) (pe_mth0 (pv 3) T.cl_Flow (ok_now T) T.m_Flow_number_now (hr.mono (by decide)))) pa_nil))))) pa_nil)))
      (pss_one (ps_ret (pv 3))))), ?_⟩
  have A1 := A0
  walk_at "go"
  refine w_make ?_
  walk_at "go"
  refine fun F dx hF hdx hne => ?_
  have eA : Same H (upd (upd H dx (.own F)) F (.ins (He.ga K "Flow") dx [])) := (Same.new hdx _).trans (Same.new (by rw [upd_ne hne.symm]; exact hF) _)
  refine ⟨F, dx, g, h, v, rs, t, m, n, ws, cs, c, H, rfl, eA, hF, A0.tab, A0.rect, A0.m1, A0.n1, A0.m60, A0.n60, A0.at_, A0.cells, A0.len, A0.cell, upd_same, fun H1 np rs' e1 fl1 np0 rs0 => ⟨rfl, ?_⟩⟩
  have hS : StepsOk m n (stepsF m n (othersF cs c)) := steps_ok A0.m1 A0.n1 (fun k hk => A0.inn k (List.mem_filter.mp hk).1) (Nat.le_trans (List.length_filter_le _ _) A0.len)
  obtain ⟨pl1, pl2⟩ := arc_place (m := m) (n := n) A0.c1 A0.c2
  have B1 := A0.same e1
  walk_at "go"
  refine ⟨g, v, rs, t, m, n, c, rfl, B1.tab, A0.rect, A0.m1, A0.n1, B1.cell, fun a H2 w1 w2 e2 ha p1 p2 => ?_⟩
  refine ⟨a, _, rfl, SqT.of ha, rfl, _, _, rfl, _, _, rfl, rfl, ?_⟩
  have fl2 := fl1.same e2
  obtain ⟨⟨dx2, vc2, d2, kvs2, hob2, _⟩, _, _, _, _⟩ := id fl2
  have B2 := B1.same e2
  dsimp only
  refine w_seq (w_drop (w_meth ?_))
  refine w_var rfl ?_
  refine ⟨F, _, _, rfl, hob2, rfl, ?_⟩
  refine w_cons (w_call (w_cons (w_var rfl (w_cons (w_var rfl (w_cons (w_var rfl (w_cons (w_op (w_call (w_cons (w_var rfl (w_cons (w_call (w_cons (w_var rfl (w_nil ?_)))))))))))))))))
  refine ⟨g, rs, t, m, n, rfl, B2.tab, A0.rect, A0.m1, A0.n1, fun al H5 e5 hal => w_nil ?_⟩
  have m1 := A0.m1
  have n1 := A0.n1
  refine ⟨g, .ref al, rs, t, m, n, m - 1, n - 1, rfl, (B2.same e5).tab, A0.rect, hal, by omega, by omega, ?_⟩
  have fl5 := fl2.same e5
  have hob5 := e5 _ _ hob2
  refine w_meth (w_var rfl ⟨F, _, _, rfl, hob5, rfl, w_nil ?_⟩)
  refine ⟨F, c, np, rs', t, m, n, _, rfl, fl5, A0.c1, A0.c2, w_i0 (w_nil ?_)⟩
  refine ⟨F, w2, w1, c, np, rs', t, m, n, _, (arcF m n c).2, (arcF m n c).1, roomF m n t c, rfl, fl5, hS, A0.m60, A0.n60, p2.same e5, p1.same e5, pl2, A0.room, fun H3 b3 tk3 fl3 => w_nil ?_⟩
  refine ⟨F, c, np, rs', _, m, n, _, _, rfl, fl3, A0.c1, A0.c2, fun H4 b4 tk4 fl4 => ?_⟩
  walk_at "go"
  exact q F H4 np rs' (same_newM rs0 (e1.trans (e2.trans e5)) (b3.trans b4)) fl4 np0 rs0
end
end K3
end F9_part
section F10_part
set_option Elab.async false
set_option linter.all false
set_option maxRecDepth 100000
set_option maxHeartbeats 1000000
set_option pp.deepTerms.threshold 5
open PySem PySem.Spec PyProof.Rows L2
/-- go on as far as nothing is open -/
local macro_rules | `(tactic| walk_at "go") => `(tactic| repeat (first
  | with_reducible refine w_seq ?_ | with_reducible refine w_next ?_ | with_reducible refine w_set ?_ | with_reducible refine w_drop ?_ | with_reducible refine w_ret ?_ | with_reducible refine w_retN ?_
  | with_reducible refine w_if ?_ | ((with_reducible refine' w_var ?hv ?_); (case hv => exact rfl)) | with_reducible refine w_c ?_ | with_reducible refine w_nil ?_ | with_reducible refine w_cons ?_ | with_reducible refine w_op ?_ | with_reducible refine w_un ?_
  | with_reducible refine w_test ?_ | with_reducible refine w_tB ?_ | with_reducible refine w_not ?_ | with_reducible refine w_and ?_ | with_reducible refine w_or ?_ | with_reducible refine w_bl ?_
  | with_reducible refine w_andV ?_ | with_reducible refine w_orV ?_ | with_reducible refine w_notV ?_ | with_reducible refine w_ifE ?_ | with_reducible refine w_chain ?_ | with_reducible refine w_i0 ?_
  | with_reducible refine w_call ?_ | with_reducible refine w_callS ?_ | with_reducible refine w_cB ?_ | with_reducible refine w_tup ?_ | with_reducible refine w_lst ?_ | with_reducible refine w_fldV ?_
  | with_reducible refine w_neF ?_ | with_reducible refine w_neT ?_ | with_reducible refine w_notN ?_ | with_reducible refine w_isN ?_ | with_reducible refine w_gname ?_ | with_reducible refine w_gsub ?_ | with_reducible refine w_asg ?_ | with_reducible refine w_sl ?_ | with_reducible refine w_noP ?_ | with_reducible refine w_int1 ?_ | with_reducible refine w_part ?_ | with_reducible refine w_yes ?_ | with_reducible refine w_nT ?_ | with_reducible refine w_nF ?_ | with_reducible refine w_iteT ?_ | with_reducible refine w_iteF ?_))
namespace L2
open PySem PySem.Spec PyProof.Rows
/-- a def whose last parameters are handed in by name, and its promise -/
structure OkK (P : Program) (w : World) (K : PySem.W.Frag) (mg : Str → Option Value) (base : Heap) (k : Nat) (f : Addr) (ps : List Str) (n : Nat) (ks : List Str) (sp : Sp) : Prop where
  run : ∃ fd, FnOk P w K mg base (L2.CX P w) k f fd ps sp ∧ KBn K fd ps n ks (fun us ws => us ++ ws) (fun vs zs => vs ++ zs) ∧ PySem.W.keepIn K (.ref f) = true
theorem kb_of {K : PySem.W.Frag} {x qual : Str} {params : Arguments} {body : List Stmt} {scope : Scope} {f : Addr} {fd : FuncData} {ps ks : List Str} {n : Nat} (F : FunD K x qual params body scope [] [] f fd)
    (h : ∀ (kV doc pm : Value) (an : Option Addr) (cdv ct : Value) (us ws : List Value), us.length = n → ws.length = ks.length → bindArgs (PySem.W.fnOf x qual params body scope .none kV doc pm an cdv ct) ⟨us, ks.zip ws⟩ = pure (ps.zip (us ++ ws))) : KBn K fd ps n ks (fun us ws => us ++ ws) (fun vs zs => vs ++ zs) := by
  obtain ⟨oc, od, dV, kV, doc, pm, an, cdv, ct, osl, rfl, lk, hcd, hD, hK⟩ := F.ex
  rcases hD with ⟨_, rfl⟩ | ⟨e, _⟩
  · exact ⟨fun s us ws _ h1 h2 => .of_eq (h kV doc pm an cdv ct us ws h1 h2), fun a b => a.append b⟩
  · exact absurd rfl e
section
variable {X : Cx} {k n : Nat} {f : Addr} {ps ks : List Str} {sp : Sp} {x : Str} {e : Expr} {es : List Expr} {kws : List Keyword} {p pos : Pos} {t tk : TA}
theorem pe_fK (O : OkK X.prog X.w X.K X.mg X.base k f ps n ks sp) (hr : Room k X.A) (hm : X.mg x = some (.ref f)) (ha : PA X (e :: es) t) (hkw : PK X kws tk) (hg : Gl X x := by rfl) (hall : (backToKw pos (keywordEach kws X.env)).all (·.1.isSome) = true := by rfl)
    (hks : (backToKw pos (keywordEach kws X.env)).filterMap (·.1) = ks := by rfl) (hdb : (x == ("__debug__" : Str)) = false := by decide) (he : starEach (e :: es) X.env = (false, eval e X.env) :: starEach es X.env := by rfl)
    (hpl : ((backTo pos (starEach (e :: es) X.env)).any (·.1) || (backToKw pos (keywordEach kws X.env)).any (·.1.isNone)) = false := by rfl) : PE X (.Call (.Name x p) (e :: es) kws pos) (tCallN n ks.length sp (fun vs zs => vs ++ zs) E0 t tk) := by
  obtain ⟨fd, F, b, kp⟩ := O.run
  exact pe_callN F hr hg hm kp b passL ha hkw hall hks hdb he hpl
theorem w_callN {σ : L2.St} {H : Hp} {Q : VK} {E : XK} {m : Nat} (h : t σ H fun vs H1 => tk σ H1 fun zs H2 => vs.length = n ∧ zs.length = m ∧ sp (vs ++ zs) H2 Q E) : tCallN n m sp (fun vs zs => vs ++ zs) E t tk σ H Q := h
end
end L2
namespace K3
def spShown (K : PySem.W.Frag) : Sp := fun vs H Q _ => ∃ (g l : Addr) (v : V) (rs : List Addr) (t : List (List Int)) (m n : Nat) (ws : List V) (cs : List (Nat × Nat)) (c : Nat × Nat), vs = [.ref g, .ref l, v] ∧ GT K H g rs t ∧ Rect t m n ∧ m ≤ 60 ∧ n ≤ 60 ∧ H l = some (.lst ws) ∧ Paired (CellAt H) ws cs ∧ cs.length ≤ 100 ∧ (∀ k ∈ cs, k.1 < m ∧ k.2 < n) ∧ CellAt H v c ∧ c ∈ cs ∧ Q .non H
def spReach (K : PySem.W.Frag) : Sp := fun vs H Q _ => ∃ (g : Addr) (hv v : V) (rs : List Addr) (t : List (List Int)) (m n : Nat) (hs : List (Nat × Nat)) (c : Nat × Nat), vs = [.ref g, hv, v] ∧ GT K H g rs t ∧ Rect t m n ∧ 1 ≤ m ∧ 1 ≤ n ∧ m ≤ 60 ∧ n ≤ 60 ∧ HidIn K H hv hs m n ∧ CellAt H v c ∧ c ∈ hs ∧ 0 ≤ at2 t c.1 c.2 ∧ 0 ≤ roomF m n t c ∧
  ∀ hs' a H' np1 rs1 np2 rs2, (∀ k, k ∈ hs' ↔ k ∈ hs) → Srt hs' → Same H H' → H a = none → H' a = some (.tup [.int (at2 (leastF m n hs' t c) c.1 c.2), .int (at2 (mostF m n hs' t c) c.1 c.2), .ref np1, .ref np2]) →
    Tab H' np1 rs1 (leastF m n hs' t c) → Rect (leastF m n hs' t c) m n → Tab H' np2 rs2 (mostF m n hs' t c) → Rect (mostF m n hs' t c) m n → H np1 = none → (∀ r ∈ rs1, H r = none) → H np2 = none → (∀ r ∈ rs2, H r = none) → np1 ∉ rs1 → np2 ∉ rs1 → (∀ r ∈ rs2, r ∉ rs1) → Q (.ref a) H'
section
variable {P : Program} {w : World} {K : PySem.W.Frag} {mg : Str → Option Value} {base : Heap}
theorem sc_refuse_shown : FnScope ["grid", "hidden", "cell"] ["grid", "hidden", "cell"] (defScope s_refuse_shown) := ⟨rfl, rfl, rfl, by decide +kernel, rfl, by decide +kernel, by decide +kernel⟩
theorem ok_refuse_shown (T : Tx K mg) : Ok P w K mg base 2 (He.ga K "refuse_shown") ["grid", "hidden", "cell"] (spShown K) := by
  obtain ⟨fd, F⟩ := T.f_refuse_shown
  have Orefuse_no_cell := ok_refuse_no_cell (P := P) (w := w) (base := base) T
  refine ⟨fd, F.ok (k := 1) sc_refuse_shown (fun vs H Q E h => ?_) (fun cdv A outer s_ H vs Q E hr h => ?_), F.bindsN fun _ _ _ _ _ _ us hl => match us, hl with | [_, _, _], _ => rfl, F.kp⟩
  · obtain ⟨g, l, v, rs, t, m, n, ws, cs, c, rfl, ht, hR, m60, n60, hl, hw, hlen, hb, hv, hc, q⟩ := h
    rfl
  obtain ⟨g, l, v, rs, t, m, n, ws, cs, c, rfl, ht, hR, m60, n60, hl, hw, hlen, hb, hv, hc, q⟩ := h
  have hu65 := K3.Room.units65 hr
  have hu64 := Nat.lt_of_succ_lt hu65
  have hu0 := Nat.lt_of_le_of_lt (Nat.le_add_right _ 65) hu65
  have hu1 := Nat.lt_of_le_of_lt (Nat.add_le_add_left (show 1 ≤ 65 by decide) _) hu65
  have rrefuse_no_cell : Room 1 _ := hr.mono (by decide)
  refine ⟨_, pss_cons (ps_expr (pe_f Orefuse_no_cell rrefuse_no_cell T.g_refuse_no_cell (pa_cons (pv 0) (pa_cons (pv 2) pa_nil))))
      (pss_one (ps_if (pt_cmpR (op_notInC hu65) (pv 2) (pv 1) (by rfl)) (pss_one ps_dead) pss_nil)), ?_⟩
  obtain ⟨c1, c2⟩ := hb c hc
  walk_at "go"
  refine ⟨g, v, rs, t, m, n, c.1, c.2, rfl, ht, hR, hv, c1, c2, ?_⟩
  walk_at "go"
  refine ⟨l, ws, cs, c, hv, rfl, .inl (SqL.of hl), hw, by omega, fun k hk => by have := hb k hk; omega, ⟨by omega, by omega⟩, ?_⟩
  rw [decide_eq_true hc]
  walk_at "go"
  exact q
theorem sc_reach : FnScope ["grid", "hidden", "cell", "cells", "least", "most"] ["grid", "hidden", "cell"] (defScope s_reach) := ⟨rfl, rfl, rfl, by decide +kernel, rfl, by decide +kernel, by decide +kernel⟩
theorem ok_reach (T : Tx K mg) : OkK P w K mg base 8 (He.ga K "reach") ["grid", "hidden", "cell"] 2 ["cell"] (spReach K) := by
  obtain ⟨fd, F⟩ := T.f_reach
  have Oread_hidden := ok_read_hidden (P := P) (w := w) (base := base) T
  have Orefuse_shown := ok_refuse_shown (P := P) (w := w) (base := base) T
  have Oleast_flow := ok_least_flow (P := P) (w := w) (base := base) T
  have Omost_flow := ok_most_flow (P := P) (w := w) (base := base) T
  refine ⟨fd, F.ok (k := 7) sc_reach (fun vs H Q E h => ?_) (fun cdv A outer s_ H vs Q E hr h => ?_), kb_of F fun _ _ _ _ _ _ us ws h1 h2 => match us, ws, h1, h2 with | [_, _], [_], _, _ => rfl, F.kp⟩
  · obtain ⟨g, hv, v, rs, t, m, n, hs, c, rfl, _⟩ := h
    rfl
  obtain ⟨g, hv, v, rs, t, m, n, hs, c, rfl, ht, hR, m1, n1, m60, n60, hh, hv', hc, h0, hrm, q⟩ := h
  have rread_hidden : Room 2 _ := hr.mono (by decide)
  have rrefuse_shown : Room 2 _ := hr.mono (by decide)
  have rleast_flow : Room 7 _ := hr.mono (by decide)
  have rmost_flow : Room 7 _ := hr.mono (by decide)
  refine ⟨_, pss_cons (ps_set (i := 3) sc_reach.nd rfl (Or.inl rfl) (pe_f Oread_hidden rread_hidden T.g_read_hidden (pa_cons (pv 0) (pa_cons (pv 1) pa_nil))))
      (pss_cons (ps_expr (pe_f Orefuse_shown rrefuse_shown T.g_refuse_shown (pa_cons (pv 0) (pa_cons (pv 3) (pa_cons (pv 2) pa_nil)))))
      (pss_cons (ps_set (i := 4) sc_reach.nd rfl (Or.inl rfl) (pe_f Oleast_flow rleast_flow T.g_least_flow (pa_cons (pv 0) (pa_cons (pv 3) (pa_cons (pv 2) pa_nil)))))
      (pss_cons (ps_set (i := 5) sc_reach.nd rfl (Or.inl rfl) (pe_f Omost_flow rmost_flow T.g_most_flow (pa_cons (pv 0) (pa_cons (pv 3) (pa_cons (pv 2) pa_nil)))))
      (pss_one (ps_ret (pe_tup (pa_cons (pe_mth0 (pv 4) T.cl_Flow (ok_now T) T.m_Flow_number_now (hr.mono (by decide))) (pa_cons (pe_mth0 (pv 5) T.cl_Flow (ok_now T) T.m_Flow_number_now (hr.mono (by decide))) (pa_cons (pe_fld (pv 4) rfl) (pa_cons (pe_fld (pv 5) rfl) pa_nil)))))))))), ?_⟩
  walk_at "go"
  refine ⟨g, hv, rs, t, m, n, hs, rfl, ht, hR, m1, n1, m60, n60, hh, fun l H1 ws cs e1 h1 hw1 hcs lcs srt => ?_⟩
  have inn : ∀ k ∈ cs, k.1 < m ∧ k.2 < n := fun k hk => by
    obtain ⟨p, wp, _, _, _, hmem, _⟩ := hh
    have := drop_mem m1 n1 (hmem k ((hcs k).mp hk))
    exact ⟨this.1, this.2.1⟩
  have hc' : c ∈ cs := (hcs c).mpr hc
  obtain ⟨c1, c2⟩ := inn c hc'
  have A1 : Asked K H1 g l v rs t m n ws cs c := ⟨ht.same e1, hR, m1, n1, m60, n60, h1, hw1, lcs, inn, hv'.same e1, c1, c2, h0, hrm⟩
  walk_at "go"
  refine ⟨g, l, v, rs, t, m, n, ws, cs, c, rfl, A1.tab, hR, m60, n60, h1, hw1, lcs, inn, A1.cell, hc', ?_⟩
  walk_at "go"
  refine ⟨g, l, v, rs, t, m, n, ws, cs, c, rfl, A1, fun F1 H2 np1 rs1 e2 fl1 np10 rs10 => ?_⟩
  have A2 := A1.same e2
  walk_at "go"
  refine ⟨g, l, v, rs, t, m, n, ws, cs, c, rfl, A2, fun F2 H3 np2 rs2 e3 fl2 np20 rs20 => ?_⟩
  have fl1' := fl1.same e3
  obtain ⟨⟨dx1, vc1, d1, kvs1, hob1, hvc1, _⟩, htab1, hrect1, hnd1, hne1⟩ := id fl1'
  obtain ⟨⟨dx2, vc2, d2, kvs2, hob2, hvc2, _⟩, htab2, hrect2, hnd2, hne2⟩ := id fl2
  refine w_tup (w_cons (w_meth (w_var rfl ⟨F1, _, _, rfl, hob1, rfl, w_nil ?_⟩)))
  refine ⟨F1, c, np1, rs1, _, m, n, _, rfl, fl1', c1, c2, ?_⟩
  refine w_cons (w_meth (w_var rfl ⟨F2, _, _, rfl, hob2, rfl, w_nil ?_⟩))
  refine ⟨F2, c, np2, rs2, _, m, n, _, rfl, fl2, c1, c2, ?_⟩
  refine w_cons (w_fldV (w_var rfl ⟨F1, _, dx1, _, _, rfl, hob1, T.cl_Flow, T.n_Flow_numbers, rfl, ?_⟩))
  refine w_cons (w_fldV (w_var rfl ⟨F2, _, dx2, _, _, rfl, hob2, T.cl_Flow, T.n_Flow_numbers, rfl, w_nil ?_⟩))
  refine ⟨(by show 4 ≤ sizeLine; decide), fun a ha => ?_⟩
  have e4 := Same.new ha (.tup [.int (at2 (leastF m n cs t c) c.1 c.2), .int (at2 (mostF m n cs t c) c.1 c.2), V.ref np1, V.ref np2])
  have n12 : ∀ r ∈ rs1, H2 r ≠ none := fun r hr z => by
    obtain ⟨row, hrow⟩ := paired_has fl1.tab.rows hr
    have hrow : H2 r = some _ := hrow
    rw [z] at hrow
    cases hrow
  refine q cs a _ np1 rs1 np2 rs2 hcs srt ((e1.trans (e2.trans e3)).trans e4) ((e1.trans (e2.trans e3)).free ha) upd_same (htab1.same e4) hrect1 (htab2.same e4) hrect2 (e1.free np10) (fun r hr => e1.free (rs10 r hr)) ((e1.trans e2).free np20) (fun r hr => (e1.trans e2).free (rs20 r hr)) hne1 (fun z => n12 _ z np20) fun r hr z => n12 r z (rs20 r hr)
end
end K3
end F10_part
section N1_part
set_option Elab.async false
set_option linter.all false
set_option maxRecDepth 100000
set_option maxHeartbeats 1000000
set_option pp.deepTerms.threshold 5
open PySem PySem.Spec PyProof.Rows L2
/-- go on as far as nothing is open -/
local macro_rules | `(tactic| walk_at "go") => `(tactic| repeat (first
  | with_reducible refine w_seq ?_ | with_reducible refine w_next ?_ | with_reducible refine w_set ?_ | with_reducible refine w_drop ?_ | with_reducible refine w_ret ?_ | with_reducible refine w_retN ?_
  | with_reducible refine w_if ?_ | ((with_reducible refine' w_var ?hv ?_); (case hv => exact rfl)) | with_reducible refine w_c ?_ | with_reducible refine w_nil ?_ | with_reducible refine w_cons ?_ | with_reducible refine w_op ?_ | with_reducible refine w_un ?_
  | with_reducible refine w_test ?_ | with_reducible refine w_tB ?_ | with_reducible refine w_not ?_ | with_reducible refine w_and ?_ | with_reducible refine w_or ?_ | with_reducible refine w_bl ?_
  | with_reducible refine w_andV ?_ | with_reducible refine w_orV ?_ | with_reducible refine w_notV ?_ | with_reducible refine w_ifE ?_ | with_reducible refine w_chain ?_ | with_reducible refine w_i0 ?_
  | with_reducible refine w_call ?_ | with_reducible refine w_callS ?_ | with_reducible refine w_cB ?_ | with_reducible refine w_tup ?_ | with_reducible refine w_lst ?_ | with_reducible refine w_fldV ?_
  | with_reducible refine w_neF ?_ | with_reducible refine w_neT ?_ | with_reducible refine w_notN ?_ | with_reducible refine w_isN ?_ | with_reducible refine w_gname ?_ | with_reducible refine w_gsub ?_ | with_reducible refine w_asg ?_ | with_reducible refine w_sl ?_ | with_reducible refine w_noP ?_ | with_reducible refine w_int1 ?_ | with_reducible refine w_part ?_ | with_reducible refine w_yes ?_ | with_reducible refine w_nT ?_ | with_reducible refine w_nF ?_ | with_reducible refine w_iteT ?_ | with_reducible refine w_iteF ?_))
namespace K3
/-! ### sums -/
def S (n : Nat) (f : Nat → Int) : Int := ((List.range n).map f).sum
theorem S_zero (f : Nat → Int) : S 0 f = 0 := rfl
theorem S_succ (n : Nat) (f : Nat → Int) : S (n + 1) f = S n f + f n := by
  unfold S
  rw [List.range_succ, List.map_append, List.sum_append]
  simp
theorem S_congr {n : Nat} {f g : Nat → Int} (h : ∀ i < n, f i = g i) : S n f = S n g := by
  induction n with
  | zero => rfl
  | succ n ih => rw [S_succ, S_succ, ih fun i hi => h i (by omega), h n (by omega)]
theorem S_add (n : Nat) (f g : Nat → Int) : S n (fun i => f i + g i) = S n f + S n g := by
  induction n with
  | zero => rfl
  | succ n ih => rw [S_succ, S_succ, S_succ, ih]; omega
theorem S_mul (n : Nat) (a : Int) (f : Nat → Int) : S n (fun i => a * f i) = a * S n f := by
  induction n with
  | zero => rw [S_zero, S_zero, Int.mul_zero]
  | succ n ih => rw [S_succ, S_succ, ih, Int.mul_add]
theorem S_nul {n : Nat} {f : Nat → Int} (h : ∀ i < n, f i = 0) : S n f = 0 := by
  induction n with
  | zero => rfl
  | succ n ih => rw [S_succ, ih fun i hi => h i (by omega), h n (by omega)]; rfl
theorem S_swap (m n : Nat) (f : Nat → Nat → Int) : S m (fun i => S n fun j => f i j) = S n fun j => S m fun i => f i j := by
  induction m with
  | zero => rw [S_zero]; exact (S_nul fun j _ => rfl).symm
  | succ m ih =>
    rw [S_succ, ih, ← S_add]
    exact S_congr fun j _ => (S_succ m fun i => f i j).symm
theorem S_le {n : Nat} {f : Nat → Int} (h : ∀ i < n, f i ≤ 0) : S n f ≤ 0 := by
  induction n with
  | zero => exact Int.le_refl 0
  | succ n ih =>
    rw [S_succ]
    have := ih fun i hi => h i (by omega)
    have := h n (by omega)
    omega
theorem S_one {n k : Nat} {f : Nat → Int} (hk : k < n) (h : ∀ i < n, i ≠ k → f i ≤ 0) : S n f ≤ f k := by
  induction n with
  | zero => omega
  | succ n ih =>
    rw [S_succ]
    by_cases c : k = n
    · subst c
      have := S_le (n := k) (f := f) fun i hi => h i (by omega) (by omega)
      omega
    · have := ih (by omega) fun i hi ne => h i (by omega) ne
      have := h n (by omega) (fun z => c z.symm)
      omega
/-! ### what comes in and goes out -/
def sg (m n i j : Nat) : Int := if decide (i = m - 1) = decide (j = n - 1) then 1 else -1
def chi (a b : Pl) : Int := if a = b then 1 else 0
def net (m n : Nat) (d : Nat → Nat → Int) (p : Pl) : Int := if p.1 then S n fun j => sg m n p.2 j * d p.2 j else -(S m fun i => sg m n i p.2 * d i p.2)
theorem arc_sg (m n : Nat) (c : Nat × Nat) (q : Pl → Int) : q (arcF m n c).1 - q (arcF m n c).2 = sg m n c.1 c.2 * (q (true, c.1) - q (false, c.2)) := by
  unfold arcF sg
  split
  · show q (true, c.1) - q (false, c.2) = _
    omega
  · show q (false, c.2) - q (true, c.1) = _
    omega
/-- nothing is left over at any cut -/
theorem cut_zero {m n : Nat} {d : Nat → Nat → Int} (h : ∀ p : Pl, p.2 < (if p.1 then m else n) → net m n d p = 0) (q : Pl → Int) : S m (fun i => S n fun j => d i j * (q (arcF m n (i, j)).1 - q (arcF m n (i, j)).2)) = 0 := by
  have e : S m (fun i => S n fun j => d i j * (q (arcF m n (i, j)).1 - q (arcF m n (i, j)).2)) = S m (fun i => q (true, i) * S n fun j => sg m n i j * d i j) + S m (fun i => S n fun j => -(q (false, j)) * (sg m n i j * d i j)) := by
    rw [← S_add]
    refine S_congr fun i _ => ?_
    rw [← S_mul, ← S_add]
    refine S_congr fun j _ => ?_
    rw [arc_sg]
    show d i j * (sg m n i j * (q (true, i) - q (false, j))) = q (true, i) * (sg m n i j * d i j) + -(q (false, j)) * (sg m n i j * d i j)
    generalize sg m n i j = s
    generalize q (true, i) = a
    generalize q (false, j) = b
    rw [Int.mul_sub, Int.mul_sub, Int.neg_mul, ← Int.sub_eq_add_neg]
    rw [show d i j * (s * a) = a * (s * d i j) by rw [Int.mul_comm s a, ← Int.mul_assoc, Int.mul_comm (d i j) a, Int.mul_assoc, Int.mul_comm (d i j) s]]
    rw [show d i j * (s * b) = b * (s * d i j) by rw [Int.mul_comm s b, ← Int.mul_assoc, Int.mul_comm (d i j) b, Int.mul_assoc, Int.mul_comm (d i j) s]]
  rw [e, S_swap m n]
  have r1 : S m (fun i => q (true, i) * S n fun j => sg m n i j * d i j) = 0 := S_nul fun i hi => by
    have := h (true, i) (by simpa using hi)
    have : S n (fun j => sg m n i j * d i j) = 0 := this
    rw [this, Int.mul_zero]
  have r2 : S n (fun j => S m fun i => -(q (false, j)) * (sg m n i j * d i j)) = 0 := S_nul fun j hj => by
    rw [S_mul]
    have := h (false, j) (by simpa using hj)
    have : -(S m fun i => sg m n i j * d i j) = 0 := this
    rw [show S m (fun i => sg m n i j * d i j) = 0 by omega, Int.mul_zero]
  rw [r1, r2]
  rfl
/-- if all but one arc that cross go the one way with nothing, the one does not go the other -/
theorem cut_sign {m n : Nat} {d : Nat → Nat → Int} (h : ∀ p : Pl, p.2 < (if p.1 then m else n) → net m n d p = 0) (q : Pl → Int) {c : Nat × Nat} (c1 : c.1 < m) (c2 : c.2 < n)
    (ho : ∀ i < m, ∀ j < n, (i, j) ≠ c → d i j * (q (arcF m n (i, j)).1 - q (arcF m n (i, j)).2) ≤ 0) : 0 ≤ d c.1 c.2 * (q (arcF m n c).1 - q (arcF m n c).2) := by
  have z := cut_zero h q
  have one := S_one (n := m) (k := c.1) (f := fun i => S n fun j => d i j * (q (arcF m n (i, j)).1 - q (arcF m n (i, j)).2)) c1 fun i hi ne => S_le fun j hj => ho i hi j hj fun e => ne (by rw [← e])
  have two := S_one (n := n) (k := c.2) (f := fun j => d c.1 j * (q (arcF m n (c.1, j)).1 - q (arcF m n (c.1, j)).2)) c2 fun j hj ne => ho c.1 c1 j hj fun e => ne (by rw [← e])
  rw [z] at one
  have two' : S n (fun j => d c.1 j * (q (arcF m n (c.1, j)).1 - q (arcF m n (c.1, j)).2)) ≤ d c.1 c.2 * (q (arcF m n c).1 - q (arcF m n c).2) := two
  exact Int.le_trans one two'
end K3
end N1_part
section N2_part
set_option Elab.async false
set_option linter.all false
set_option maxRecDepth 100000
set_option maxHeartbeats 1000000
set_option pp.deepTerms.threshold 5
open PySem PySem.Spec PyProof.Rows L2
/-- go on as far as nothing is open -/
local macro_rules | `(tactic| walk_at "go") => `(tactic| repeat (first
  | with_reducible refine w_seq ?_ | with_reducible refine w_next ?_ | with_reducible refine w_set ?_ | with_reducible refine w_drop ?_ | with_reducible refine w_ret ?_ | with_reducible refine w_retN ?_
  | with_reducible refine w_if ?_ | ((with_reducible refine' w_var ?hv ?_); (case hv => exact rfl)) | with_reducible refine w_c ?_ | with_reducible refine w_nil ?_ | with_reducible refine w_cons ?_ | with_reducible refine w_op ?_ | with_reducible refine w_un ?_
  | with_reducible refine w_test ?_ | with_reducible refine w_tB ?_ | with_reducible refine w_not ?_ | with_reducible refine w_and ?_ | with_reducible refine w_or ?_ | with_reducible refine w_bl ?_
  | with_reducible refine w_andV ?_ | with_reducible refine w_orV ?_ | with_reducible refine w_notV ?_ | with_reducible refine w_ifE ?_ | with_reducible refine w_chain ?_ | with_reducible refine w_i0 ?_
  | with_reducible refine w_call ?_ | with_reducible refine w_callS ?_ | with_reducible refine w_cB ?_ | with_reducible refine w_tup ?_ | with_reducible refine w_lst ?_ | with_reducible refine w_fldV ?_
  | with_reducible refine w_neF ?_ | with_reducible refine w_neT ?_ | with_reducible refine w_notN ?_ | with_reducible refine w_isN ?_ | with_reducible refine w_gname ?_ | with_reducible refine w_gsub ?_ | with_reducible refine w_asg ?_ | with_reducible refine w_sl ?_ | with_reducible refine w_noP ?_ | with_reducible refine w_int1 ?_ | with_reducible refine w_part ?_ | with_reducible refine w_yes ?_ | with_reducible refine w_nT ?_ | with_reducible refine w_nF ?_ | with_reducible refine w_iteT ?_ | with_reducible refine w_iteF ?_))
namespace K3
abbrev inPl (m n : Nat) (p : Pl) : Prop := p.2 < (if p.1 then m else n)
theorem S_delta {n k : Nat} (a : Int) (hk : k < n) : S n (fun j => if j = k then a else 0) = a := by
  induction n with
  | zero => omega
  | succ n ih =>
    rw [S_succ]
    by_cases c : k = n
    · subst c
      rw [if_pos rfl, S_nul fun i hi => if_neg (by omega)]
      omega
    · rw [ih (by omega), if_neg (fun z => c z.symm)]
      omega
theorem net_delta {m n : Nat} {c : Nat × Nat} (c1 : c.1 < m) (c2 : c.2 < n) (x : Int) (p : Pl) : net m n (fun i j => if (i, j) = c then x else 0) p = x * (chi (arcF m n c).1 p - chi (arcF m n c).2 p) := by
  obtain ⟨b, k⟩ := p
  obtain ⟨i, j⟩ := c
  rw [arc_sg m n (i, j) fun r => chi r (b, k)]
  cases b with
  | true =>
    show S n (fun j' => sg m n k j' * (if (k, j') = (i, j) then x else 0)) = x * (sg m n i j * (chi (true, i) (true, k) - chi (false, j) (true, k)))
    have h0 : chi (false, j) (true, k) = 0 := if_neg (by simp)
    rw [h0]
    by_cases e : k = i
    · subst e
      have h1 : chi (true, k) (true, k) = 1 := if_pos rfl
      rw [h1, S_congr (g := fun j' => if j' = j then sg m n k j * x else 0) fun j' _ => ?_, S_delta _ c2]
      · rw [Int.sub_zero, Int.mul_one, Int.mul_comm]
      · by_cases z : j' = j
        · subst z
          rw [if_pos rfl, if_pos rfl]
        · rw [if_neg z, if_neg (fun w => z (by injection w)), Int.mul_zero]
    · have h1 : chi (true, i) (true, k) = 0 := if_neg (fun w => e (by injection w with _ w; exact w.symm))
      rw [h1, S_nul fun j' _ => by rw [if_neg (fun w => e (by injection w)), Int.mul_zero]]
      simp
  | false =>
    show -(S m fun i' => sg m n i' k * (if (i', k) = (i, j) then x else 0)) = x * (sg m n i j * (chi (true, i) (false, k) - chi (false, j) (false, k)))
    have h0 : chi (true, i) (false, k) = 0 := if_neg (by simp)
    rw [h0]
    by_cases e : k = j
    · subst e
      have h1 : chi (false, k) (false, k) = 1 := if_pos rfl
      rw [h1, S_congr (g := fun i' => if i' = i then sg m n i k * x else 0) fun i' _ => ?_, S_delta _ c1]
      · rw [show (0 : Int) - 1 = -1 from rfl, Int.mul_neg, Int.mul_neg, Int.mul_one, Int.mul_comm]
      · by_cases z : i' = i
        · subst z
          rw [if_pos rfl, if_pos rfl]
        · rw [if_neg z, if_neg (fun w => z (by injection w)), Int.mul_zero]
    · have h1 : chi (false, j) (false, k) = 0 := if_neg (fun w => e (by injection w with _ w; exact w.symm))
      rw [h1, S_nul fun i' _ => by rw [if_neg (fun w => e (by injection w)), Int.mul_zero]]
      simp
theorem net_sum (m n : Nat) (d e : Nat → Nat → Int) (p : Pl) : net m n (fun i j => d i j + e i j) p = net m n d p + net m n e p := by
  unfold net
  split
  · rw [← S_add]
    exact S_congr fun j _ => Int.mul_add ..
  · rw [S_congr (g := fun i => sg m n i p.2 * d i p.2 + sg m n i p.2 * e i p.2) fun i _ => Int.mul_add .., S_add]
    omega
theorem net_congr {m n : Nat} {d e : Nat → Nat → Int} (h : ∀ i < m, ∀ j < n, d i j = e i j) {p : Pl} (hp : inPl m n p) : net m n d p = net m n e p := by
  unfold net
  split
  · rename_i c
    rw [S_congr fun j hj => by rw [h p.2 (by simpa [inPl, c] using hp) j hj]]
  · rename_i c
    rw [S_congr fun i hi => by rw [h i hi p.2 (by simpa [inPl, c] using hp)]]
theorem at2_add {m n : Nat} {u : List (List Int)} (hu : Rect u m n) {c : Nat × Nat} (c1 : c.1 < m) (c2 : c.2 < n) (x : Int) {i j : Nat} (hi : i < m) (hj : j < n) : at2 (addAt u c x) i j = at2 u i j + (if (i, j) = c then x else 0) := by
  obtain ⟨a, b⟩ := c
  have la : a < u.length := by rw [hu.1]; exact c1
  unfold addAt
  by_cases e : i = a
  · subst e
    have e1 : at2 (u.set i ((u.getD i []).set b (at2 u i b + x))) i j = ((u.getD i []).set b (at2 u i b + x)).getD j 0 := at2_of (by rw [List.getElem?_set_self la])
    show at2 (u.set i ((u.getD i []).set b (at2 u i b + x))) i j = _
    rw [e1]
    have lr : (u.getD i []).length = n := by
      rw [List.getD_eq_getElem?_getD, List.getElem?_eq_getElem la]
      exact hu.2 _ (List.getElem_mem la)
    by_cases z : j = b
    · subst z
      rw [if_pos rfl, List.getD_eq_getElem?_getD, List.getElem?_set_self (by omega)]
      rfl
    · rw [if_neg (fun w => z (by injection w)), List.getD_eq_getElem?_getD, List.getElem?_set_ne (fun w => z w.symm), Int.add_zero]
      rfl
  · rw [if_neg (fun w => e (by injection w)), Int.add_zero]
    have e2 : ∀ r : List Int, (u.set a r).getD i [] = u.getD i [] := fun r => by
      rw [List.getD_eq_getElem?_getD, List.getElem?_set_ne (fun w => e w.symm), ← List.getD_eq_getElem?_getD]
    unfold at2
    show ((u.set a _).getD i []).getD j 0 = _
    rw [e2]
theorem net_addAt {m n : Nat} {u : List (List Int)} (hu : Rect u m n) {c : Nat × Nat} (c1 : c.1 < m) (c2 : c.2 < n) (x : Int) {p : Pl} (hp : inPl m n p) : net m n (at2 (addAt u c x)) p = net m n (at2 u) p + x * (chi (arcF m n c).1 p - chi (arcF m n c).2 p) := by
  rw [net_congr (e := fun i j => at2 u i j + (if (i, j) = c then x else 0)) (fun i hi j hj => at2_add hu c1 c2 x hi hj) hp, net_sum, net_delta c1 c2]
/-! ### ways, with the places that they come to -/
inductive PathP (f : Pl → List Stp) (start : Pl) : Pl → Way → List Pl → Prop
  | nil : PathP f start start [] []
  | step {p : Pl} {s : Stp} {w : Way} {ps : List Pl} : s ∈ f p → PathP f start p w ps → PathP f start s.to ((s.c, s.up) :: w) (s.to :: ps)
theorem way_pathP {m n : Nat} {u : List (List Int)} {f : Pl → List Stp} {start : Pl} {came : Came} (h : WOk m n u f start came) : ∀ (i k : Nat) (p : Pl) (o : Option Stp), came[i]? = some (p, o) → i < k →
    ∃ ps, PathP f start p (wayI came k o) ps ∧ ps.Nodup ∧ ∀ q ∈ ps, ∃ j o', j ≤ i ∧ came[j]? = some (q, o') := by
  intro i
  induction i using Nat.strongRecOn with
  | _ i ih =>
    intro k p o hi hk
    obtain ⟨k, rfl⟩ : ∃ j, k = j + 1 := ⟨k - 1, by omega⟩
    cases o with
    | none =>
      have := h.first i p hi
      subst this
      rw [h.zero] at hi
      cases hi
      exact ⟨[], .nil, List.nodup_nil, fun q hq => (by cases hq)⟩
    | some s =>
      obtain ⟨⟨j, o', hj, hj2⟩, hr, hm⟩ := h.step i p s hi
      obtain ⟨ps, h1, h2, h3⟩ := ih j hj k s.to o' hj2 (by omega)
      refine ⟨p :: ps, ?_, List.nodup_cons.mpr ⟨fun z => ?_, h2⟩, fun q hq => ?_⟩
      · show PathP f start p ((s.c, s.up) :: wayI came k (lookC came s.to)) (p :: ps)
        rw [look_at h.ok.nd hj2]
        exact PathP.step (s := ⟨p, s.c, s.up⟩) hm h1
      · obtain ⟨j', o2, hj', hj3⟩ := h3 p z
        have e1 : (keysOf came)[i]? = some p := by unfold keysOf; rw [List.getElem?_map, hi]; rfl
        have e2 : (keysOf came)[j']? = some p := by unfold keysOf; rw [List.getElem?_map, hj3]; rfl
        have := nodup_at h.ok.nd e1 e2
        omega
      · rcases List.mem_cons.mp hq with rfl | hq
        · exact ⟨i, _, Nat.le_refl _, hi⟩
        · obtain ⟨j', o2, hj', hj3⟩ := h3 q hq
          exact ⟨j', o2, by omega, hj3⟩
theorem wayF_pathP {m n : Nat} {u : List (List Int)} {f : Pl → List Stp} {start g : Pl} {came : Came} (h : WOk m n u f start came) (hg : g ∈ keysOf came) : ∃ ps, PathP f start g (wayF came g) ps ∧ ps.Nodup := by
  obtain ⟨⟨p, o⟩, hq, rfl⟩ := List.mem_map.mp hg
  obtain ⟨i, hi⟩ := List.getElem?_of_mem hq
  unfold wayF
  rw [look_at h.ok.nd hi]
  have := (List.getElem?_eq_some_iff.mp hi).1
  obtain ⟨ps, h1, h2, _⟩ := way_pathP h i (came.length + 1) p o hi (by omega)
  exact ⟨ps, h1, h2⟩
theorem stepsF_mem {m n : Nat} {cs : List (Nat × Nat)} {p : Pl} {s : Stp} (h : s ∈ stepsF m n cs p) : s.c ∈ cs ∧ ((s.up = true ∧ arcF m n s.c = (p, s.to)) ∨ (s.up = false ∧ arcF m n s.c = (s.to, p))) := by
  unfold stepsF at h
  obtain ⟨c, hc, e⟩ := List.mem_filterMap.mp h
  split at e
  · rename_i k
    cases e
    exact ⟨hc, .inl ⟨rfl, by rw [← k]⟩⟩
  · split at e
    · rename_i k
      cases e
      exact ⟨hc, .inr ⟨rfl, by rw [← k]⟩⟩
    · cases e
theorem stepsF_up {m n : Nat} {cs : List (Nat × Nat)} {c : Nat × Nat} (hc : c ∈ cs) : (⟨(arcF m n c).2, c, true⟩ : Stp) ∈ stepsF m n cs (arcF m n c).1 ∧ (⟨(arcF m n c).1, c, false⟩ : Stp) ∈ stepsF m n cs (arcF m n c).2 := by
  unfold stepsF
  refine ⟨List.mem_filterMap.mpr ⟨c, hc, if_pos rfl⟩, List.mem_filterMap.mpr ⟨c, hc, ?_⟩⟩
  rw [if_neg (arc_ne m n c), if_pos rfl]
/-- how often a way goes through a cell forward less backward -/
def cnt (w : Way) (c : Nat × Nat) : Int := (w.map fun q => if q.1 = c then sgn q.2 else 0).sum
theorem applyF_cons (u : List (List Int)) (q : (Nat × Nat) × Bool) (w : Way) (a : Int) : applyF u (q :: w) a = applyF (addAt u q.1 (sgn q.2 * a)) w a := rfl
theorem apply_at {m n : Nat} {a : Int} {i j : Nat} (hi : i < m) (hj : j < n) : ∀ {w : Way} {u : List (List Int)}, Rect u m n → (∀ q ∈ w, q.1.1 < m ∧ q.1.2 < n) → at2 (applyF u w a) i j = at2 u i j + cnt w (i, j) * a
  | [], u, _, _ => by show _ = _ + (0 : Int) * a; rw [Int.zero_mul, Int.add_zero]; rfl
  | q :: w, u, hu, hw => by
    obtain ⟨c1, c2⟩ := hw q (List.mem_cons_self ..)
    rw [applyF_cons, apply_at hi hj (addAt_len hu) fun r hr => hw r (List.mem_cons_of_mem _ hr), at2_add hu c1 c2 _ hi hj]
    have e : cnt (q :: w) (i, j) = (if q.1 = (i, j) then sgn q.2 else 0) + cnt w (i, j) := rfl
    rw [e, Int.add_mul, Int.add_assoc]
    congr 2
    by_cases z : q.1 = (i, j)
    · rw [if_pos z, if_pos z.symm]
    · rw [if_neg z, if_neg (fun w => z w.symm), Int.zero_mul]
theorem apply_net {m n : Nat} {cs : List (Nat × Nat)} {start : Pl} {a : Int} (hb : ∀ c ∈ cs, c.1 < m ∧ c.2 < n) {q : Pl} (hq : inPl m n q) : ∀ {p : Pl} {w : Way} {ps : List Pl}, PathP (stepsF m n cs) start p w ps → ∀ {u : List (List Int)}, Rect u m n →
    net m n (at2 (applyF u w a)) q = net m n (at2 u) q + a * (chi start q - chi p q) := by
  intro p w ps h
  induction h with
  | nil => intro u hu; show net m n (at2 u) q = _; rw [Int.sub_self, Int.mul_zero, Int.add_zero]
  | @step p0 s w ps hs _ ih =>
    intro u hu
    obtain ⟨hc, ho⟩ := stepsF_mem hs
    obtain ⟨c1, c2⟩ := hb _ hc
    rw [applyF_cons, ih (addAt_len hu), net_addAt hu c1 c2 _ hq]
    show net m n (at2 u) q + sgn s.up * a * (chi (arcF m n s.c).1 q - chi (arcF m n s.c).2 q) + a * (chi start q - chi p0 q) = net m n (at2 u) q + a * (chi start q - chi s.to q)
    have e : sgn s.up * a * (chi (arcF m n s.c).1 q - chi (arcF m n s.c).2 q) = a * (chi p0 q - chi s.to q) := by
      rcases ho with ⟨h1, h2⟩ | ⟨h1, h2⟩
      · rw [h1, h2]
        show 1 * a * (chi p0 q - chi s.to q) = _
        rw [Int.one_mul]
      · rw [h1, h2]
        show -1 * a * (chi s.to q - chi p0 q) = _
        rw [Int.mul_sub, Int.mul_sub]
        simp only [Int.neg_mul, Int.one_mul]
        omega
    rw [e, Int.add_assoc, ← Int.mul_add]
    congr 2
    omega
theorem path_down {m n : Nat} {cs : List (Nat × Nat)} {start : Pl} {c : Nat × Nat} : ∀ {p : Pl} {w : Way} {ps : List Pl}, PathP (stepsF m n cs) start p w ps → (c, false) ∈ w → (arcF m n c).1 ∈ ps := by
  intro p w ps h
  induction h with
  | nil => intro z; cases z
  | @step p0 s w ps hs _ ih =>
    intro z
    rcases List.mem_cons.mp z with e | z
    · obtain ⟨hc, ⟨h1, h2⟩ | ⟨h1, h2⟩⟩ := stepsF_mem hs
      · injection e with e1 e2
        rw [← e2] at h1
        cases h1
      · injection e with e1 e2
        rw [e1, h2]
        exact List.mem_cons_self ..
    · exact List.mem_cons_of_mem _ (ih z)
theorem cnt_up {c : Nat × Nat} : ∀ {w : Way}, (c, false) ∉ w → 0 ≤ cnt w c
  | [], _ => Int.le_refl 0
  | q :: w, h => by
    have ih := cnt_up (w := w) fun z => h (List.mem_cons_of_mem _ z)
    have e : cnt (q :: w) c = (if q.1 = c then sgn q.2 else 0) + cnt w c := rfl
    rw [e]
    split
    · rename_i k
      cases hb : q.2 with
      | true => show 0 ≤ 1 + cnt w c; omega
      | false =>
        refine absurd (List.mem_cons.mpr (.inl ?_)) h
        rw [← k, ← hb]
    · omega
theorem cnt_low {m n : Nat} {cs : List (Nat × Nat)} {start : Pl} {c : Nat × Nat} : ∀ {p : Pl} {w : Way} {ps : List Pl}, PathP (stepsF m n cs) start p w ps → ps.Nodup → -1 ≤ cnt w c := by
  intro p w ps h
  induction h with
  | nil => intro _; show (-1 : Int) ≤ 0; decide
  | @step p0 s w ps hs hp ih =>
    intro nd
    obtain ⟨n1, n2⟩ := List.nodup_cons.mp nd
    have i := ih n2
    have e : cnt ((s.c, s.up) :: w) c = (if s.c = c then sgn s.up else 0) + cnt w c := rfl
    rw [e]
    split
    · rename_i k
      cases hb : s.up with
      | true => show -1 ≤ 1 + cnt w c; omega
      | false =>
        show -1 ≤ -1 + cnt w c
        have : (c, false) ∉ w := fun z => by
          have h1 := path_down hp z
          obtain ⟨hc, ⟨k1, k2⟩ | ⟨k1, k2⟩⟩ := stepsF_mem hs
          · rw [hb] at k1; cases k1
          · rw [← k, k2] at h1
            exact n1 h1
        have := cnt_up this
        omega
    · omega
theorem cnt_out {m n : Nat} {cs : List (Nat × Nat)} {start : Pl} {c : Nat × Nat} (hc : c ∉ cs) : ∀ {p : Pl} {w : Way} {ps : List Pl}, PathP (stepsF m n cs) start p w ps → cnt w c = 0 := by
  intro p w ps h
  induction h with
  | nil => rfl
  | @step p0 s w ps hs hp ih =>
    have e : cnt ((s.c, s.up) :: w) c = (if s.c = c then sgn s.up else 0) + cnt w c := rfl
    rw [e, ih, if_neg fun z => hc (by rw [← z]; exact (stepsF_mem hs).1)]
    rfl
theorem path_cells {m n : Nat} {cs : List (Nat × Nat)} {start : Pl} (hb : ∀ c ∈ cs, c.1 < m ∧ c.2 < n) : ∀ {p : Pl} {w : Way} {ps : List Pl}, PathP (stepsF m n cs) start p w ps → ∀ q ∈ w, q.1.1 < m ∧ q.1.2 < n := by
  intro p w ps h
  induction h with
  | nil => intro q hq; cases hq
  | @step p0 s w ps hs hp ih =>
    intro q hq
    rcases List.mem_cons.mp hq with rfl | hq
    · exact hb _ (stepsF_mem hs).1
    · exact ih q hq
end K3
end N2_part
section N3_part
set_option Elab.async false
set_option linter.all false
set_option maxRecDepth 100000
set_option maxHeartbeats 1000000
set_option pp.deepTerms.threshold 5
open PySem PySem.Spec PyProof.Rows L2
/-- go on as far as nothing is open -/
local macro_rules | `(tactic| walk_at "go") => `(tactic| repeat (first
  | with_reducible refine w_seq ?_ | with_reducible refine w_next ?_ | with_reducible refine w_set ?_ | with_reducible refine w_drop ?_ | with_reducible refine w_ret ?_ | with_reducible refine w_retN ?_
  | with_reducible refine w_if ?_ | ((with_reducible refine' w_var ?hv ?_); (case hv => exact rfl)) | with_reducible refine w_c ?_ | with_reducible refine w_nil ?_ | with_reducible refine w_cons ?_ | with_reducible refine w_op ?_ | with_reducible refine w_un ?_
  | with_reducible refine w_test ?_ | with_reducible refine w_tB ?_ | with_reducible refine w_not ?_ | with_reducible refine w_and ?_ | with_reducible refine w_or ?_ | with_reducible refine w_bl ?_
  | with_reducible refine w_andV ?_ | with_reducible refine w_orV ?_ | with_reducible refine w_notV ?_ | with_reducible refine w_ifE ?_ | with_reducible refine w_chain ?_ | with_reducible refine w_i0 ?_
  | with_reducible refine w_call ?_ | with_reducible refine w_callS ?_ | with_reducible refine w_cB ?_ | with_reducible refine w_tup ?_ | with_reducible refine w_lst ?_ | with_reducible refine w_fldV ?_
  | with_reducible refine w_neF ?_ | with_reducible refine w_neT ?_ | with_reducible refine w_notN ?_ | with_reducible refine w_isN ?_ | with_reducible refine w_gname ?_ | with_reducible refine w_gsub ?_ | with_reducible refine w_asg ?_ | with_reducible refine w_sl ?_ | with_reducible refine w_noP ?_ | with_reducible refine w_int1 ?_ | with_reducible refine w_part ?_ | with_reducible refine w_yes ?_ | with_reducible refine w_nT ?_ | with_reducible refine w_nF ?_ | with_reducible refine w_iteT ?_ | with_reducible refine w_iteF ?_))
namespace K3
theorem list_S {l : List Int} : ∀ {k : Nat}, l.length = k + 1 → l.dropLast.sum = S k (fun i => l.getD i 0) ∧ l.getLastD 0 = l.getD k 0 := by
  intro k h
  have ne : l ≠ [] := fun z => by rw [z] at h; cases h
  obtain ⟨xs, x, rfl⟩ : ∃ xs x, l = xs ++ [x] := ⟨l.dropLast, l.getLast ne, (List.dropLast_concat_getLast ne).symm⟩
  have lx : xs.length = k := by simpa using h
  rw [List.dropLast_concat, List.getLastD_concat]
  constructor
  · have e : S k (fun i => (xs ++ [x]).getD i 0) = S k fun i => xs.getD i 0 := S_congr fun i hi => by
      rw [List.getD_eq_getElem?_getD, List.getD_eq_getElem?_getD, List.getElem?_append_left (by omega)]
    rw [e, ← lx]
    exact (sum_getD xs).symm
  · rw [List.getD_eq_getElem?_getD, List.getElem?_append_right (by omega), lx]
    simp
theorem nn_iff {u : List (List Int)} {m n : Nat} (hu : Rect u m n) : (∀ r ∈ u, ∀ x ∈ r, 0 ≤ x) ↔ ∀ i < m, ∀ j < n, 0 ≤ at2 u i j := by
  constructor
  · intro h i hi j hj
    have li : i < u.length := by rw [hu.1]; exact hi
    have e := at2_of (t := u) (i := i) (j := j) (List.getElem?_eq_getElem li)
    rw [e]
    have lj : j < (u[i]).length := by rw [hu.2 _ (List.getElem_mem li)]; exact hj
    rw [List.getD_eq_getElem?_getD, List.getElem?_eq_getElem lj]
    exact h _ (List.getElem_mem li) _ (List.getElem_mem lj)
  · intro h r hr x hx
    obtain ⟨i, hi⟩ := List.getElem?_of_mem hr
    obtain ⟨j, hj⟩ := List.getElem?_of_mem hx
    have li := (List.getElem?_eq_some_iff.mp hi).1
    have lj := (List.getElem?_eq_some_iff.mp hj).1
    have := h i (by rw [← hu.1]; exact li) j (by rw [← hu.2 r hr]; exact lj)
    rw [at2_of hi, List.getD_eq_getElem?_getD, hj] at this
    exact this
theorem line_zero {k : Nat} {l : List Int} {s : Nat → Int} {e : Int} (hl : l.length = k + 1) (he : e = 1 ∨ e = -1) (h1 : ∀ i < k, s i = e) (h2 : s k = -e) : S (k + 1) (fun i => s i * l.getD i 0) = 0 ↔ l.getLastD 0 = l.dropLast.sum := by
  obtain ⟨a, b⟩ := list_S hl
  rw [S_succ, S_congr (g := fun i => e * l.getD i 0) fun i hi => by rw [h1 i hi], S_mul, h2, ← a, ← b]
  generalize l.dropLast.sum = x
  generalize l.getLastD 0 = y
  rcases he with rfl | rfl
  · constructor <;> intro h <;> omega
  · constructor <;> intro h <;> omega
theorem right_net {u : List (List Int)} {m n : Nat} (hu : Rect u m n) (m1 : 1 ≤ m) (n1 : 1 ≤ n) : Right u n ↔ ∀ p, inPl m n p → net m n (at2 u) p = 0 := by
  obtain ⟨m, rfl⟩ : ∃ k, m = k + 1 := ⟨m - 1, by omega⟩
  obtain ⟨n, rfl⟩ : ∃ k, n = k + 1 := ⟨n - 1, by omega⟩
  have rows : ∀ i (r : List Int), u[i]? = some r → (net (m + 1) (n + 1) (at2 u) (true, i) = 0 ↔ r.getLastD 0 = r.dropLast.sum) := by
    intro i r hr
    have lr : r.length = n + 1 := hu.2 r (List.mem_of_getElem? hr)
    show S (n + 1) (fun j => sg (m + 1) (n + 1) i j * at2 u i j) = 0 ↔ _
    rw [S_congr (g := fun j => sg (m + 1) (n + 1) i j * r.getD j 0) fun j _ => by rw [at2_of hr]]
    by_cases c : i = m
    · exact line_zero (e := -1) lr (.inr rfl) (fun j hj => by unfold sg; rw [if_neg]; simp [c]; omega) (by unfold sg; rw [if_pos (by simp [c])]; rfl)
    · exact line_zero (e := 1) lr (.inl rfl) (fun j hj => by unfold sg; rw [if_pos]; simp [c]; omega) (by unfold sg; rw [if_neg (by simp [c])])
  have cols : ∀ j < n + 1, (net (m + 1) (n + 1) (at2 u) (false, j) = 0 ↔ RightCol u j) := by
    intro j hj
    have lc : (colOf u j).length = m + 1 := by unfold colOf; rw [List.length_map, hu.1]
    have e : ∀ i < m + 1, at2 u i j = (colOf u j).getD i 0 := fun i hi => by
      have li : i < u.length := by rw [hu.1]; exact hi
      rw [at2_of (List.getElem?_eq_getElem li)]
      unfold colOf
      rw [List.getD_eq_getElem?_getD, List.getD_eq_getElem?_getD, List.getElem?_map, List.getElem?_eq_getElem li]
      rw [← List.getD_eq_getElem?_getD]
      rfl
    show -(S (m + 1) fun i => sg (m + 1) (n + 1) i j * at2 u i j) = 0 ↔ _
    rw [S_congr (g := fun i => sg (m + 1) (n + 1) i j * (colOf u j).getD i 0) fun i hi => by rw [e i hi]]
    unfold RightCol
    have z : ∀ x : Int, -x = 0 ↔ x = 0 := fun x => by omega
    rw [z]
    by_cases c : j = n
    · exact line_zero (e := -1) lc (.inr rfl) (fun i hi => by unfold sg; rw [if_neg]; simp [c]; omega) (by unfold sg; rw [if_pos (by simp [c])]; rfl)
    · exact line_zero (e := 1) lc (.inl rfl) (fun i hi => by unfold sg; rw [if_pos]; simp [c]; omega) (by unfold sg; rw [if_neg (by simp [c])])
  constructor
  · rintro ⟨h1, h2⟩ ⟨b, k⟩ hp
    cases b with
    | true =>
      have hk : k < u.length := by rw [hu.1]; simpa [inPl] using hp
      exact (rows k _ (List.getElem?_eq_getElem hk)).mpr (h1 _ (List.getElem_mem hk))
    | false =>
      have hk : k < n + 1 := by simpa [inPl] using hp
      exact (cols k hk).mpr (h2 k hk)
  · intro h
    refine ⟨fun r hr => ?_, fun c hc => (cols c hc).mp (h (false, c) (by simpa [inPl] using hc))⟩
    obtain ⟨i, hi⟩ := List.getElem?_of_mem hr
    have li := (List.getElem?_eq_some_iff.mp hi).1
    exact (rows i r hi).mp (h (true, i) (by have := hu.1; simp [inPl]; omega))
theorem push_ok {m n : Nat} {cs : List (Nat × Nat)} {start goal : Pl} (hb : ∀ c ∈ cs, c.1 < m ∧ c.2 < n) (hS : StepsOk m n (stepsF m n cs)) (hst : inPl m n start) : ∀ (k : Nat) (left : Int) (u : List (List Int)), Rect u m n → (∀ i < m, ∀ j < n, 0 ≤ at2 u i j) → 0 ≤ left → left.toNat < k →
    ∀ R, R = pushF (stepsF m n cs) (m + n + 1) start goal k left u → Rect R.1 m n ∧ (∀ i < m, ∀ j < n, 0 ≤ at2 R.1 i j) ∧ (∀ p, inPl m n p → net m n (at2 R.1) p = net m n (at2 u) p + (left - R.2) * (chi start p - chi goal p)) ∧
      (∀ i < m, ∀ j < n, (i, j) ∉ cs → at2 R.1 i j = at2 u i j) ∧ 0 ≤ R.2 ∧ R.2 ≤ left ∧ (R.2 = 0 ∨ goal ∉ keysOf (waysF R.1 (stepsF m n cs) (m + n + 1) start)) := by
  intro k
  induction k with
  | zero => intro left u _ _ _ h; omega
  | succ k ih =>
    intro left u hu hn h0 hk R hR
    unfold pushF at hR
    have self : ∀ left : Int, ∀ p, net m n (at2 u) p = net m n (at2 u) p + (left - left) * (chi start p - chi goal p) := fun left p => by rw [Int.sub_self, Int.zero_mul, Int.add_zero]
    by_cases c : left ≤ 0
    · rw [if_pos c] at hR
      subst hR
      exact ⟨hu, hn, fun p _ => self left p, fun i _ j _ _ => rfl, h0, Int.le_refl _, .inl (show left = 0 by omega)⟩
    · rw [if_neg c] at hR
      simp only at hR
      by_cases g : goal ∈ keysOf (waysF u (stepsF m n cs) (m + n + 1) start)
      · rw [if_pos g] at hR
        obtain ⟨w1, _⟩ := ways_ok (u := u) hS hst
        have pr := path_res (wayF_path w1 g)
        obtain ⟨ps, pp, nd⟩ := wayF_pathP w1 g
        obtain ⟨a1, a2⟩ := amount_pos (left := left) (by omega) (lent_pos pr)
        obtain ⟨_, a3⟩ := amount_min (lentF u (wayF (waysF u (stepsF m n cs) (m + n + 1) start) goal)) left
        generalize wayF (waysF u (stepsF m n cs) (m + n + 1) start) goal = w at hR pr pp a1 a2 a3
        have pc := path_cells hb pp
        have hu2 : Rect (applyF u w (amountF left (lentF u w))) m n := applyF_rect hu
        have hat : ∀ i < m, ∀ j < n, at2 (applyF u w (amountF left (lentF u w))) i j = at2 u i j + cnt w (i, j) * amountF left (lentF u w) := fun i hi j hj => apply_at hi hj hu pc
        have hn2 : ∀ i < m, ∀ j < n, 0 ≤ at2 (applyF u w (amountF left (lentF u w))) i j := fun i hi j hj => by
          rw [hat i hi j hj]
          have h1 := hn i hi j hj
          have h2 := cnt_low (c := (i, j)) pp nd
          by_cases z : 0 ≤ cnt w (i, j)
          · have := Int.mul_nonneg z (Int.le_of_lt a1)
            omega
          · have e : cnt w (i, j) = -1 := by omega
            have hm : ((i, j), false) ∈ w := by
              by_cases y : ((i, j), false) ∈ w
              · exact y
              · exact absurd (cnt_up y) z
            have : at2 u i j ∈ lentF u w := List.mem_map.mpr ⟨((i, j), false), List.mem_filter.mpr ⟨hm, rfl⟩, rfl⟩
            have := a3 _ (List.mem_cons_of_mem _ this)
            rw [e]
            omega
        obtain ⟨r1, r2, r3, r4, r5, r6, r7⟩ := ih (left - amountF left (lentF u w)) (applyF u w (amountF left (lentF u w))) hu2 hn2 (by omega) (by omega) R hR
        refine ⟨r1, r2, fun p hp => ?_, fun i hi j hj hc => ?_, r5, by omega, r7⟩
        · rw [r3 p hp, apply_net hb hp pp hu, Int.add_assoc, ← Int.add_mul]
          congr 2
          omega
        · rw [r4 i hi j hj hc, hat i hi j hj, cnt_out hc pp, Int.zero_mul, Int.add_zero]
      · rw [if_neg g] at hR
        subst hR
        exact ⟨hu, hn, fun p _ => self left p, fun i _ j _ _ => rfl, h0, Int.le_refl _, .inr g⟩
end K3
end N3_part
section N4_part
set_option Elab.async false
set_option linter.all false
set_option maxRecDepth 100000
set_option maxHeartbeats 1000000
set_option pp.deepTerms.threshold 5
open PySem PySem.Spec PyProof.Rows L2
/-- go on as far as nothing is open -/
local macro_rules | `(tactic| walk_at "go") => `(tactic| repeat (first
  | with_reducible refine w_seq ?_ | with_reducible refine w_next ?_ | with_reducible refine w_set ?_ | with_reducible refine w_drop ?_ | with_reducible refine w_ret ?_ | with_reducible refine w_retN ?_
  | with_reducible refine w_if ?_ | ((with_reducible refine' w_var ?hv ?_); (case hv => exact rfl)) | with_reducible refine w_c ?_ | with_reducible refine w_nil ?_ | with_reducible refine w_cons ?_ | with_reducible refine w_op ?_ | with_reducible refine w_un ?_
  | with_reducible refine w_test ?_ | with_reducible refine w_tB ?_ | with_reducible refine w_not ?_ | with_reducible refine w_and ?_ | with_reducible refine w_or ?_ | with_reducible refine w_bl ?_
  | with_reducible refine w_andV ?_ | with_reducible refine w_orV ?_ | with_reducible refine w_notV ?_ | with_reducible refine w_ifE ?_ | with_reducible refine w_chain ?_ | with_reducible refine w_i0 ?_
  | with_reducible refine w_call ?_ | with_reducible refine w_callS ?_ | with_reducible refine w_cB ?_ | with_reducible refine w_tup ?_ | with_reducible refine w_lst ?_ | with_reducible refine w_fldV ?_
  | with_reducible refine w_neF ?_ | with_reducible refine w_neT ?_ | with_reducible refine w_notN ?_ | with_reducible refine w_isN ?_ | with_reducible refine w_gname ?_ | with_reducible refine w_gsub ?_ | with_reducible refine w_asg ?_ | with_reducible refine w_sl ?_ | with_reducible refine w_noP ?_ | with_reducible refine w_int1 ?_ | with_reducible refine w_part ?_ | with_reducible refine w_yes ?_ | with_reducible refine w_nT ?_ | with_reducible refine w_nF ?_ | with_reducible refine w_iteT ?_ | with_reducible refine w_iteF ?_))
namespace K3
/-- what a grid is like -/
structure Grid (t : List (List Int)) (m n : Nat) : Prop where
  rect : Rect t m n
  m1 : 1 ≤ m
  n1 : 1 ≤ n
  nn : ∀ i < m, ∀ j < n, 0 ≤ at2 t i j
  bal : ∀ p, inPl m n p → net m n (at2 t) p = 0
theorem Grid.of {t : List (List Int)} {m n : Nat} (h : Rect t m n) (m1 : 1 ≤ m) (n1 : 1 ≤ n) (nn : ∀ r ∈ t, ∀ x ∈ r, 0 ≤ x) (r : Right t n) : Grid t m n := ⟨h, m1, n1, (nn_iff h).mp nn, (right_net h m1 n1).mp r⟩
theorem fit_grid {t u : List (List Int)} {hs : List (Nat × Nat)} {m n : Nat} (m1 : 1 ≤ m) (n1 : 1 ≤ n) (h : Fit t hs u m n) : Grid u m n := .of h.1 m1 n1 h.2.1 h.2.2.1
theorem S_mono {n k : Nat} {f : Nat → Int} (hk : k < n) (h : ∀ i < n, 0 ≤ f i) : f k ≤ S n f ∧ 0 ≤ S n f := by
  have a := S_one (n := n) (k := k) (f := fun i => if i = k then f i else -(f i)) hk fun i hi ne => by
    rw [if_neg ne]
    have := h i hi
    omega
  have e : S n f + S n (fun i => if i = k then f i else -(f i)) = 2 * f k := by
    rw [← S_add, S_congr (g := fun i => if i = k then 2 * f k else 0) fun i hi => ?_, S_delta _ hk]
    by_cases c : i = k
    · rw [if_pos c, if_pos c, c]
      omega
    · rw [if_neg c, if_neg c]
      omega
  rw [if_pos rfl] at a
  have := h k hk
  exact ⟨by omega, by omega⟩
/-- no number is above the number of all -/
theorem Grid.le_last {t : List (List Int)} {m n : Nat} (h : Grid t m n) {i j : Nat} (hi : i < m) (hj : j < n) : at2 t i j ≤ at2 t (m - 1) (n - 1) := by
  obtain ⟨hr, m1, n1, nn, bal⟩ := h
  obtain ⟨m, rfl⟩ : ∃ k, m = k + 1 := ⟨m - 1, by omega⟩
  obtain ⟨n, rfl⟩ : ∃ k, n = k + 1 := ⟨n - 1, by omega⟩
  rw [Nat.add_sub_cancel, Nat.add_sub_cancel]
  -- the last of a row
  have row : ∀ i < m + 1, at2 t i n = S n fun j => at2 t i j := fun i hi => by
    have b := bal (true, i) (by simpa [inPl] using hi)
    have b : S (n + 1) (fun j => sg (m + 1) (n + 1) i j * at2 t i j) = 0 := b
    rw [S_succ] at b
    by_cases c : i = m
    · have b2 : S n (fun j => sg (m + 1) (n + 1) i j * at2 t i j) = -1 * S n fun j => at2 t i j := (S_congr fun j hj => by (unfold sg; rw [if_neg]; simp [c]; omega)).trans (S_mul n (-1) fun j => at2 t i j)
      rw [b2, show sg (m + 1) (n + 1) i n = 1 by unfold sg; rw [if_pos (by simp [c])]] at b
      omega
    · have b2 : S n (fun j => sg (m + 1) (n + 1) i j * at2 t i j) = 1 * S n fun j => at2 t i j := (S_congr fun j hj => by (unfold sg; rw [if_pos]; simp [c]; omega)).trans (S_mul n 1 fun j => at2 t i j)
      rw [b2, show sg (m + 1) (n + 1) i n = -1 by unfold sg; rw [if_neg (by simp [c])]] at b
      omega
  have last : at2 t m n = S m fun i => at2 t i n := by
    have b := bal (false, n) (by simp [inPl])
    have b : -(S (m + 1) fun i => sg (m + 1) (n + 1) i n * at2 t i n) = 0 := b
    rw [S_succ] at b
    rw [S_congr (g := fun i => -1 * at2 t i n) fun i hi => by (unfold sg; rw [if_neg]; simp; omega), S_mul] at b
    rw [show sg (m + 1) (n + 1) m n = 1 by unfold sg; rw [if_pos (by simp)]] at b
    omega
  have h1 : at2 t i j ≤ at2 t i n := by
    by_cases c : j = n
    · rw [c]; exact Int.le_refl _
    · rw [row i hi]
      exact (S_mono (by omega) fun j' hj' => nn i hi j' (by omega)).1
  have h2 : at2 t i n ≤ at2 t m n := by
    by_cases c : i = m
    · rw [c]; exact Int.le_refl _
    · rw [last]
      exact (S_mono (f := fun i => at2 t i n) (by omega) fun i' hi' => nn i' (by omega) n (by omega)).1
  omega
theorem Grid.room {t : List (List Int)} {m n : Nat} (h : Grid t m n) {c : Nat × Nat} (c1 : c.1 < m) (c2 : c.2 < n) : 0 ≤ roomF m n t c := by
  have := h.le_last c1 c2
  unfold roomF
  omega
theorem others_mem {cs : List (Nat × Nat)} {c k : Nat × Nat} : k ∈ othersF cs c ↔ k ∈ cs ∧ k ≠ c := by
  unfold othersF
  rw [List.mem_filter]
  simp
/-- the end of a flow: what is left over lies at the cell alone -/
theorem end_fit {t : List (List Int)} {cs : List (Nat × Nat)} {m n : Nat} {c : Nat × Nat} {start goal : Pl} {most x : Int} (g : Grid t m n) (hb : ∀ k ∈ cs, k.1 < m ∧ k.2 < n) (hl : cs.length ≤ 100) (hc : c ∈ cs) (hst : inPl m n start) (h0 : 0 ≤ most)
    (R : List (List Int) × Int) (hR : R = runF m n cs t c start goal most) (hx : ∀ p, x * (chi (arcF m n c).1 p - chi (arcF m n c).2 p) = -((most - R.2) * (chi start p - chi goal p))) (hnn : 0 ≤ at2 t c.1 c.2 + x) :
    Fit t cs (addAt R.1 c x) m n ∧ at2 (addAt R.1 c x) c.1 c.2 = at2 t c.1 c.2 + x ∧ (∀ i < m, ∀ j < n, (i, j) ≠ c → at2 (addAt R.1 c x) i j = at2 R.1 i j) ∧ 0 ≤ R.2 ∧ R.2 ≤ most ∧ (R.2 = 0 ∨ goal ∉ keysOf (waysF R.1 (stepsF m n (othersF cs c)) (m + n + 1) start)) := by
  have hb2 : ∀ k ∈ othersF cs c, k.1 < m ∧ k.2 < n := fun k hk => hb k (others_mem.mp hk).1
  have hS : StepsOk m n (stepsF m n (othersF cs c)) := steps_ok g.m1 g.n1 hb2 (Nat.le_trans (List.length_filter_le _ _) hl)
  obtain ⟨c1, c2⟩ := hb c hc
  obtain ⟨r1, r2, r3, r4, r5, r6, r7⟩ := push_ok hb2 hS hst (most.toNat + 1) most t g.rect g.nn h0 (Nat.lt_succ_self _) R hR
  have nc : c ∉ othersF cs c := fun z => (others_mem.mp z).2 rfl
  have rc : at2 R.1 c.1 c.2 = at2 t c.1 c.2 := r4 c.1 c1 c.2 c2 nc
  have hat : ∀ i < m, ∀ j < n, at2 (addAt R.1 c x) i j = at2 R.1 i j + (if (i, j) = c then x else 0) := fun i hi j hj => at2_add r1 c1 c2 x hi hj
  have ac : at2 (addAt R.1 c x) c.1 c.2 = at2 t c.1 c.2 + x := by rw [hat c.1 c1 c.2 c2, if_pos rfl, rc]
  have off : ∀ i < m, ∀ j < n, (i, j) ≠ c → at2 (addAt R.1 c x) i j = at2 R.1 i j := fun i hi j hj ne => by rw [hat i hi j hj, if_neg ne, Int.add_zero]
  have rect := addAt_len (c := c) (x := x) r1
  refine ⟨⟨rect, (nn_iff rect).mpr fun i hi j hj => ?_, (right_net rect g.m1 g.n1).mpr fun p hp => ?_, fun i hi j hj hn => ?_⟩, ac, off, r5, r6, r7⟩
  · by_cases e : (i, j) = c
    · subst e
      rw [ac]
      exact hnn
    · rw [off i hi j hj e]
      exact r2 i hi j hj
  · rw [net_addAt r1 c1 c2 x hp, r3 p hp, g.bal p hp, hx p]
    omega
  · have e : (i, j) ≠ c := fun z => hn (by rw [z]; exact hc)
    rw [off i hi j hj e]
    exact r4 i hi j hj fun z => hn (others_mem.mp z).1
/-- where the goal is not come to, a table that fits has no other way either -/
theorem end_opt {t u v : List (List Int)} {cs : List (Nat × Nat)} {m n : Nat} {c : Nat × Nat} {start goal : Pl} {w : List (List Int)} (m1 : 1 ≤ m) (n1 : 1 ≤ n) (hb : ∀ k ∈ cs, k.1 < m ∧ k.2 < n) (hl : cs.length ≤ 100) (hc : c ∈ cs) (hst : inPl m n start)
    (hu : Fit t cs u m n) (hv : Fit t cs v m n) (off : ∀ i < m, ∀ j < n, (i, j) ≠ c → at2 u i j = at2 w i j) (hg : goal ∉ keysOf (waysF w (stepsF m n (othersF cs c)) (m + n + 1) start)) :
    ∃ q : Pl → Int, q start = 1 ∧ q goal = 0 ∧ 0 ≤ (at2 v c.1 c.2 - at2 u c.1 c.2) * (q (arcF m n c).1 - q (arcF m n c).2) := by
  have hb2 : ∀ k ∈ othersF cs c, k.1 < m ∧ k.2 < n := fun k hk => hb k (others_mem.mp hk).1
  have hS : StepsOk m n (stepsF m n (othersF cs c)) := steps_ok m1 n1 hb2 (Nat.le_trans (List.length_filter_le _ _) hl)
  obtain ⟨w1, w2⟩ := ways_ok (u := w) hS hst
  obtain ⟨c1, c2⟩ := hb c hc
  have gu := fit_grid m1 n1 hu
  have gv := fit_grid m1 n1 hv
  have hs : start ∈ keysOf (waysF w (stepsF m n (othersF cs c)) (m + n + 1) start) := List.mem_map.mpr ⟨_, List.mem_of_getElem? w1.zero, rfl⟩
  generalize keysOf (waysF w (stepsF m n (othersF cs c)) (m + n + 1) start) = ks at hg hs w2
  refine ⟨fun p => if p ∈ ks then 1 else 0, if_pos hs, if_neg hg, ?_⟩
  have bal : ∀ p : Pl, p.2 < (if p.1 then m else n) → net m n (fun i j => at2 v i j - at2 u i j) p = 0 := fun p hp => by
    have a := gu.bal p hp
    have b := gv.bal p hp
    have e := net_sum m n (fun i j => at2 v i j - at2 u i j) (at2 u) p
    have f : net m n (fun i j => at2 v i j - at2 u i j + at2 u i j) p = net m n (at2 v) p := net_congr (fun i _ j _ => by omega) hp
    rw [f, a, b] at e
    omega
  refine cut_sign (d := fun i j => at2 v i j - at2 u i j) bal (fun p => if p ∈ ks then 1 else 0) c1 c2 fun i hi j hj ne => ?_
  by_cases hm : (i, j) ∈ cs
  · have ho : (i, j) ∈ othersF cs c := others_mem.mpr ⟨hm, ne⟩
    obtain ⟨s1, s2⟩ := stepsF_up (m := m) (n := n) ho
    have k1 : (arcF m n (i, j)).1 ∈ ks → (arcF m n (i, j)).2 ∈ ks := fun z => w2 _ z _ s1 (.inl rfl)
    have k2 : (arcF m n (i, j)).2 ∈ ks → 0 < at2 w i j → (arcF m n (i, j)).1 ∈ ks := fun z y => w2 _ z _ s2 (.inr y)
    show (at2 v i j - at2 u i j) * ((if (arcF m n (i, j)).1 ∈ ks then 1 else 0) - (if (arcF m n (i, j)).2 ∈ ks then 1 else 0)) ≤ 0
    by_cases z1 : (arcF m n (i, j)).1 ∈ ks
    · rw [if_pos z1, if_pos (k1 z1)]
      simp
    · rw [if_neg z1]
      by_cases z2 : (arcF m n (i, j)).2 ∈ ks
      · rw [if_pos z2]
        have a : ¬ 0 < at2 w i j := fun y => z1 (k2 z2 y)
        have b := gu.nn i hi j hj
        have d := gv.nn i hi j hj
        rw [off i hi j hj ne] at b ⊢
        omega
      · rw [if_neg z2]
        simp
  · rw [hv.2.2.2 i hi j hj hm, hu.2.2.2 i hi j hj hm, Int.sub_self, Int.zero_mul]
    exact Int.le_refl 0
theorem least_ok {t : List (List Int)} {cs : List (Nat × Nat)} {m n : Nat} {c : Nat × Nat} (g : Grid t m n) (hb : ∀ k ∈ cs, k.1 < m ∧ k.2 < n) (hl : cs.length ≤ 100) (hc : c ∈ cs) :
    Fit t cs (leastF m n cs t c) m n ∧ ∀ v, Fit t cs v m n → at2 (leastF m n cs t c) c.1 c.2 ≤ at2 v c.1 c.2 := by
  obtain ⟨c1, c2⟩ := hb c hc
  obtain ⟨p1, p2⟩ := arc_place c1 c2
  have h0 := g.nn c.1 c1 c.2 c2
  unfold leastF
  generalize hR : runF m n cs t c (arcF m n c).1 (arcF m n c).2 (at2 t c.1 c.2) = R
  have z := push_ok (cs := othersF cs c) (goal := (arcF m n c).2) (fun k hk => hb k (others_mem.mp hk).1) (steps_ok g.m1 g.n1 (fun k hk => hb k (others_mem.mp hk).1) (Nat.le_trans (List.length_filter_le _ _) hl)) p1 ((at2 t c.1 c.2).toNat + 1) (at2 t c.1 c.2) t g.rect g.nn h0 (Nat.lt_succ_self _) R hR.symm
  obtain ⟨f1, f2, f3, f4, f5, f6⟩ := end_fit (x := -(at2 t c.1 c.2 - R.2)) g hb hl hc p1 h0 R hR.symm (fun p => Int.neg_mul ..) (by have := z.2.2.2.2.1; omega)
  refine ⟨f1, fun v hv => ?_⟩
  rw [f2]
  have vn := (fit_grid g.m1 g.n1 hv).nn c.1 c1 c.2 c2
  rcases f6 with e | e
  · omega
  · obtain ⟨q, q1, q2, q3⟩ := end_opt g.m1 g.n1 hb hl hc p1 f1 hv f3 e
    rw [q1, q2, f2] at q3
    omega
theorem most_ok {t : List (List Int)} {cs : List (Nat × Nat)} {m n : Nat} {c : Nat × Nat} (g : Grid t m n) (hb : ∀ k ∈ cs, k.1 < m ∧ k.2 < n) (hl : cs.length ≤ 100) (hc : c ∈ cs) (hlast : (m - 1, n - 1) ∉ cs) :
    Fit t cs (mostF m n cs t c) m n ∧ ∀ v, Fit t cs v m n → at2 v c.1 c.2 ≤ at2 (mostF m n cs t c) c.1 c.2 := by
  obtain ⟨c1, c2⟩ := hb c hc
  obtain ⟨p1, p2⟩ := arc_place c1 c2
  have h0 := g.nn c.1 c1 c.2 c2
  have hr := g.room c1 c2
  unfold mostF
  generalize hR : runF m n cs t c (arcF m n c).2 (arcF m n c).1 (roomF m n t c) = R
  have z := push_ok (cs := othersF cs c) (goal := (arcF m n c).1) (fun k hk => hb k (others_mem.mp hk).1) (steps_ok g.m1 g.n1 (fun k hk => hb k (others_mem.mp hk).1) (Nat.le_trans (List.length_filter_le _ _) hl)) p2 ((roomF m n t c).toNat + 1) (roomF m n t c) t g.rect g.nn hr (Nat.lt_succ_self _) R hR.symm
  obtain ⟨f1, f2, f3, f4, f5, f6⟩ := end_fit (x := roomF m n t c - R.2) g hb hl hc p2 hr R hR.symm (fun p => by
    generalize roomF m n t c - R.2 = x
    rw [Int.mul_sub, Int.mul_sub]
    omega) (by have := z.2.2.2.2.2.1; omega)
  refine ⟨f1, fun v hv => ?_⟩
  rw [f2]
  have gv := fit_grid g.m1 g.n1 hv
  rcases f6 with e | e
  · have a := gv.le_last c1 c2
    have b := hv.2.2.2 (m - 1) (by have := g.m1; omega) (n - 1) (by have := g.n1; omega) hlast
    rw [b] at a
    unfold roomF
    omega
  · obtain ⟨q, q1, q2, q3⟩ := end_opt g.m1 g.n1 hb hl hc p2 f1 hv f3 e
    rw [q1, q2, f2] at q3
    omega
end K3
end N4_part
section N6_part
set_option Elab.async false
set_option linter.all false
set_option maxRecDepth 100000
set_option maxHeartbeats 1000000
set_option pp.deepTerms.threshold 5
open PySem PySem.Spec PyProof.Rows L2
/-- go on as far as nothing is open -/
local macro_rules | `(tactic| walk_at "go") => `(tactic| repeat (first
  | with_reducible refine w_seq ?_ | with_reducible refine w_next ?_ | with_reducible refine w_set ?_ | with_reducible refine w_drop ?_ | with_reducible refine w_ret ?_ | with_reducible refine w_retN ?_
  | with_reducible refine w_if ?_ | ((with_reducible refine' w_var ?hv ?_); (case hv => exact rfl)) | with_reducible refine w_c ?_ | with_reducible refine w_nil ?_ | with_reducible refine w_cons ?_ | with_reducible refine w_op ?_ | with_reducible refine w_un ?_
  | with_reducible refine w_test ?_ | with_reducible refine w_tB ?_ | with_reducible refine w_not ?_ | with_reducible refine w_and ?_ | with_reducible refine w_or ?_ | with_reducible refine w_bl ?_
  | with_reducible refine w_andV ?_ | with_reducible refine w_orV ?_ | with_reducible refine w_notV ?_ | with_reducible refine w_ifE ?_ | with_reducible refine w_chain ?_ | with_reducible refine w_i0 ?_
  | with_reducible refine w_call ?_ | with_reducible refine w_callS ?_ | with_reducible refine w_cB ?_ | with_reducible refine w_tup ?_ | with_reducible refine w_lst ?_ | with_reducible refine w_fldV ?_
  | with_reducible refine w_neF ?_ | with_reducible refine w_neT ?_ | with_reducible refine w_notN ?_ | with_reducible refine w_isN ?_ | with_reducible refine w_gname ?_ | with_reducible refine w_gsub ?_ | with_reducible refine w_asg ?_ | with_reducible refine w_sl ?_ | with_reducible refine w_noP ?_ | with_reducible refine w_int1 ?_ | with_reducible refine w_part ?_ | with_reducible refine w_yes ?_ | with_reducible refine w_nT ?_ | with_reducible refine w_nF ?_ | with_reducible refine w_iteT ?_ | with_reducible refine w_iteF ?_))
namespace K3
/-! ### ways depend on the cells that steps speak of alone -/
theorem visit_same {u w : List (List Int)} {p : Pl} : ∀ {ss : List Stp} {came : Came}, (∀ s ∈ ss, at2 u s.c.1 s.c.2 = at2 w s.c.1 s.c.2) → visit u p came ss = visit w p came ss
  | [], _, _ => rfl
  | s :: ss, came, h => by
    have e : visit1 u p came s = visit1 w p came s := by unfold visit1; rw [h s (List.mem_cons_self ..)]
    show visit u p (visit1 u p came s) ss = visit w p (visit1 w p came s) ss
    rw [e]
    exact visit_same fun s hs => h s (List.mem_cons_of_mem _ hs)
theorem bfs_same {u w : List (List Int)} {f : Pl → List Stp} (h : ∀ p, ∀ s ∈ f p, at2 u s.c.1 s.c.2 = at2 w s.c.1 s.c.2) : ∀ (k i : Nat) (came : Came), bfs u f k i came = bfs w f k i came
  | 0, _, _ => rfl
  | k + 1, i, came => by
    unfold bfs
    cases came[i]? with
    | none => rfl
    | some q =>
      show bfs u f k (i + 1) (visit u q.1 came (f q.1)) = bfs w f k (i + 1) (visit w q.1 came (f q.1))
      rw [visit_same (h q.1)]
      exact bfs_same h k (i + 1) _
theorem ways_same {u w : List (List Int)} {f : Pl → List Stp} (h : ∀ p, ∀ s ∈ f p, at2 u s.c.1 s.c.2 = at2 w s.c.1 s.c.2) (N : Nat) (st : Pl) : waysF u f N st = waysF w f N st := bfs_same h N 0 _
theorem ways_off {m n : Nat} {u w : List (List Int)} {cs : List (Nat × Nat)} {c : Nat × Nat} (hb : ∀ k ∈ cs, k.1 < m ∧ k.2 < n) (off : ∀ i < m, ∀ j < n, (i, j) ≠ c → at2 u i j = at2 w i j) (N : Nat) (st : Pl) : waysF u (stepsF m n (othersF cs c)) N st = waysF w (stepsF m n (othersF cs c)) N st :=
  ways_same (fun p s hs => by
    obtain ⟨h1, _⟩ := stepsF_mem hs
    obtain ⟨h2, h3⟩ := others_mem.mp h1
    exact off _ (hb _ h2).1 _ (hb _ h2).2 h3) N st
/-! ### where the flows end -/
theorem least_cut {t : List (List Int)} {cs : List (Nat × Nat)} {m n : Nat} {c : Nat × Nat} (g : Grid t m n) (hb : ∀ k ∈ cs, k.1 < m ∧ k.2 < n) (hl : cs.length ≤ 100) (hc : c ∈ cs) (pos : 0 < at2 (leastF m n cs t c) c.1 c.2) :
    (arcF m n c).2 ∉ keysOf (waysF (leastF m n cs t c) (stepsF m n (othersF cs c)) (m + n + 1) (arcF m n c).1) := by
  obtain ⟨c1, c2⟩ := hb c hc
  obtain ⟨p1, p2⟩ := arc_place c1 c2
  have h0 := g.nn c.1 c1 c.2 c2
  unfold leastF at pos ⊢
  generalize hR : runF m n cs t c (arcF m n c).1 (arcF m n c).2 (at2 t c.1 c.2) = R at pos ⊢
  have z := push_ok (cs := othersF cs c) (goal := (arcF m n c).2) (fun k hk => hb k (others_mem.mp hk).1) (steps_ok g.m1 g.n1 (fun k hk => hb k (others_mem.mp hk).1) (Nat.le_trans (List.length_filter_le _ _) hl)) p1 ((at2 t c.1 c.2).toNat + 1) (at2 t c.1 c.2) t g.rect g.nn h0 (Nat.lt_succ_self _) R hR.symm
  obtain ⟨_, f2, f3, _, _, f6⟩ := end_fit (x := -(at2 t c.1 c.2 - R.2)) g hb hl hc p1 h0 R hR.symm (fun p => Int.neg_mul ..) (by have := z.2.2.2.2.1; omega)
  rw [ways_off hb f3]
  rcases f6 with e | e
  · rw [f2] at pos
    omega
  · exact e
theorem more_way {t M : List (List Int)} {cs : List (Nat × Nat)} {m n : Nat} {c : Nat × Nat} (g : Grid t m n) (hM : Fit t cs M m n) (hb : ∀ k ∈ cs, k.1 < m ∧ k.2 < n) (hl : cs.length ≤ 100) (hc : c ∈ cs) (hk : (arcF m n c).1 ∈ keysOf (waysF M (stepsF m n (othersF cs c)) (m + n + 1) (arcF m n c).2)) :
    ∃ v, Fit t cs v m n ∧ at2 v c.1 c.2 = at2 M c.1 c.2 + 1 := by
  obtain ⟨c1, c2⟩ := hb c hc
  obtain ⟨p1, p2⟩ := arc_place c1 c2
  have gM := fit_grid g.m1 g.n1 hM
  have hb2 : ∀ k ∈ othersF cs c, k.1 < m ∧ k.2 < n := fun k hk => hb k (others_mem.mp hk).1
  have hS : StepsOk m n (stepsF m n (othersF cs c)) := steps_ok g.m1 g.n1 hb2 (Nat.le_trans (List.length_filter_le _ _) hl)
  have run : (runF m n cs M c (arcF m n c).2 (arcF m n c).1 1).2 = 0 := by
    unfold runF
    show (pushF _ _ _ _ 2 1 M).2 = 0
    unfold pushF
    rw [if_neg (by decide)]
    simp only
    rw [if_pos hk]
    obtain ⟨w1, _⟩ := ways_ok (u := M) hS p2
    obtain ⟨a1, a2⟩ := amount_pos (left := 1) (by decide) (lent_pos (path_res (wayF_path w1 hk)))
    generalize amountF 1 _ = a at a1 a2 ⊢
    unfold pushF
    rw [if_pos (by omega)]
    show 1 - a = 0
    omega
  have n0 := gM.nn c.1 c1 c.2 c2
  obtain ⟨f1, f2, _⟩ := end_fit (x := 1) (most := 1) gM hb hl hc p2 (by decide) _ rfl (fun p => by rw [run]; omega) (by omega)
  refine ⟨_, ⟨f1.1, f1.2.1, f1.2.2.1, fun i hi j hj hn => ?_⟩, f2⟩
  rw [f1.2.2.2 i hi j hj hn, hM.2.2.2 i hi j hj hn]
theorem most_cut {t : List (List Int)} {cs : List (Nat × Nat)} {m n : Nat} {c : Nat × Nat} (g : Grid t m n) (hb : ∀ k ∈ cs, k.1 < m ∧ k.2 < n) (hl : cs.length ≤ 100) (hc : c ∈ cs) (hlast : (m - 1, n - 1) ∉ cs) :
    (arcF m n c).1 ∉ keysOf (waysF (mostF m n cs t c) (stepsF m n (othersF cs c)) (m + n + 1) (arcF m n c).2) := fun z => by
  obtain ⟨f1, f2⟩ := most_ok g hb hl hc hlast
  obtain ⟨v, v1, v2⟩ := more_way g f1 hb hl hc z
  have := f2 v v1
  omega
/-! ### sums over cells -/
theorem sum_cells (f : Nat × Nat → Int) (n : Nat) : ∀ m : Nat, ((cellsOf m n).map f).sum = S m fun i => S n fun j => f (i, j)
  | 0 => rfl
  | m + 1 => by
    have e : cellsOf (m + 1) n = cellsOf m n ++ rowCells n m := by
      unfold cellsOf
      rw [List.range_succ, List.flatMap_append]
      simp
    rw [e, List.map_append, List.sum_append, sum_cells f n m, S_succ]
    congr 1
    unfold rowCells S
    rw [List.map_map]
    rfl
theorem filter_sum {α : Type} (p : α → Bool) (f : α → Int) : ∀ l : List α, ((l.filter p).map f).sum = (l.map fun x => if p x = true then f x else 0).sum
  | [] => rfl
  | x :: l => by
    rw [List.filter_cons]
    by_cases h : p x = true
    · rw [if_pos h, List.map_cons, List.map_cons, List.sum_cons, List.sum_cons, filter_sum p f l, if_pos h]
    · rw [if_neg h, List.map_cons, List.sum_cons, filter_sum p f l, if_neg h, Int.zero_add]
theorem SS_one {m n : Nat} {f : Nat → Nat → Int} {c : Nat × Nat} (c1 : c.1 < m) (c2 : c.2 < n) (h : ∀ i < m, ∀ j < n, (i, j) ≠ c → f i j ≤ 0) : S m (fun i => S n fun j => f i j) ≤ f c.1 c.2 := by
  have one := S_one (n := m) (k := c.1) (f := fun i => S n fun j => f i j) c1 fun i hi ne => S_le fun j hj => h i hi j hj fun e => ne (by rw [← e])
  have two := S_one (n := n) (k := c.2) (f := fun j => f c.1 j) c2 fun j hj ne => h c.1 c1 j hj fun e => ne (by rw [← e])
  exact Int.le_trans one two
theorem SS_neg (m n : Nat) (f : Nat → Nat → Int) : S m (fun i => S n fun j => -(f i j)) = -(S m fun i => S n fun j => f i j) := by
  have h : ∀ (k : Nat) (f : Nat → Int), S k (fun i => -(f i)) = -(S k f) := fun k f => by
    have := S_mul k (-1) f
    rw [Int.neg_one_mul] at this
    rw [← this]
    exact S_congr fun i _ => (Int.neg_one_mul _).symm
  rw [← h m]
  exact S_congr fun i _ => h n _
theorem SS_add (m n : Nat) (f g : Nat → Nat → Int) : S m (fun i => S n fun j => f i j + g i j) = (S m fun i => S n fun j => f i j) + S m fun i => S n fun j => g i j := by
  rw [← S_add]
  exact S_congr fun i _ => S_add n _ _
theorem SS_congr {m n : Nat} {f g : Nat → Nat → Int} (h : ∀ i < m, ∀ j < n, f i j = g i j) : S m (fun i => S n fun j => f i j) = S m fun i => S n fun j => g i j := S_congr fun i hi => S_congr fun j hj => h i hi j hj
/-! ### fences -/
def comesF (m n : Nat) (F : Pl → Bool) (c : Nat × Nat) : Bool := F (arcF m n c).2 && !F (arcF m n c).1
def goesF (m n : Nat) (F : Pl → Bool) (c : Nat × Nat) : Bool := F (arcF m n c).1 && !F (arcF m n c).2
def comeL (m n : Nat) (F : Pl → Bool) : List (Nat × Nat) := (cellsOf m n).filter (comesF m n F)
def goL (m n : Nat) (F : Pl → Bool) : List (Nat × Nat) := (cellsOf m n).filter (goesF m n F)
def shownS (t : List (List Int)) (hs l : List (Nat × Nat)) : Int := ((l.filter fun k => !decide (k ∈ hs)).map fun k => at2 t k.1 k.2).sum
def restF (t : List (List Int)) (hs : List (Nat × Nat)) (m n : Nat) (F : Pl → Bool) : Int := shownS t hs (goL m n F) - shownS t hs (comeL m n F)
def wF (m n : Nat) (F : Pl → Bool) (c : Nat × Nat) : Int := (if F (arcF m n c).1 = true then 1 else 0) - (if F (arcF m n c).2 = true then 1 else 0)
theorem w_comes {m n : Nat} {F : Pl → Bool} {c : Nat × Nat} : wF m n F c = (if goesF m n F c = true then 1 else 0) - (if comesF m n F c = true then 1 else 0) := by
  unfold wF goesF comesF
  cases F (arcF m n c).1 <;> cases F (arcF m n c).2 <;> rfl
theorem rest_eq (t : List (List Int)) (hs : List (Nat × Nat)) (m n : Nat) (F : Pl → Bool) : restF t hs m n F = S m fun i => S n fun j => if (i, j) ∈ hs then 0 else at2 t i j * wF m n F (i, j) := by
  have one : ∀ p : Nat × Nat → Bool, shownS t hs ((cellsOf m n).filter p) = S m fun i => S n fun j => if p (i, j) = true then (if (i, j) ∈ hs then 0 else at2 t i j) else 0 := fun p => by
    unfold shownS
    rw [List.filter_filter, filter_sum, sum_cells]
    refine SS_congr fun i hi j hj => ?_
    by_cases h1 : p (i, j) = true <;> by_cases h2 : (i, j) ∈ hs <;> simp [h1, h2]
  unfold restF goL comeL
  rw [one, one, Int.sub_eq_add_neg, ← SS_neg, ← SS_add]
  refine SS_congr fun i hi j hj => ?_
  rw [w_comes]
  by_cases h2 : (i, j) ∈ hs
  · simp [h2]
  · by_cases h1 : goesF m n F (i, j) = true <;> by_cases h3 : comesF m n F (i, j) = true <;> simp [h1, h2, h3]
    omega
/-- what a fence shows by any table that fits -/
theorem fit_rest {t u : List (List Int)} {hs : List (Nat × Nat)} {m n : Nat} (m1 : 1 ≤ m) (n1 : 1 ≤ n) (hu : Fit t hs u m n) (F : Pl → Bool) : restF t hs m n F = S m fun i => S n fun j => if (i, j) ∈ hs then -(at2 u i j * wF m n F (i, j)) else 0 := by
  have g := fit_grid m1 n1 hu
  have z := cut_zero (d := at2 u) g.bal (fun p => if F p = true then 1 else 0)
  rw [rest_eq]
  have e : (S m fun i => S n fun j => at2 u i j * wF m n F (i, j)) = (S m fun i => S n fun j => if (i, j) ∈ hs then 0 else at2 t i j * wF m n F (i, j)) + S m fun i => S n fun j => if (i, j) ∈ hs then at2 u i j * wF m n F (i, j) else 0 := by
    rw [← SS_add]
    refine SS_congr fun i hi j hj => ?_
    by_cases h : (i, j) ∈ hs
    · rw [if_pos h, if_pos h, Int.zero_add]
    · rw [if_neg h, if_neg h, Int.add_zero, hu.2.2.2 i hi j hj h]
  have z' : (S m fun i => S n fun j => at2 u i j * wF m n F (i, j)) = 0 := z
  have e2 : (S m fun i => S n fun j => if (i, j) ∈ hs then -(at2 u i j * wF m n F (i, j)) else 0) = -(S m fun i => S n fun j => if (i, j) ∈ hs then at2 u i j * wF m n F (i, j) else 0) := by
    rw [← SS_neg]
    refine SS_congr fun i hi j hj => ?_
    by_cases h : (i, j) ∈ hs
    · rw [if_pos h, if_pos h]
    · rw [if_neg h, if_neg h, Int.neg_zero]
  omega
theorem rest_low {t u : List (List Int)} {hs : List (Nat × Nat)} {m n : Nat} {c : Nat × Nat} {F : Pl → Bool} (m1 : 1 ≤ m) (n1 : 1 ≤ n) (hu : Fit t hs u m n) (c1 : c.1 < m) (c2 : c.2 < n) (hc : c ∈ hs) (cc : comesF m n F c = true) (ho : ∀ k ∈ hs, k ≠ c → k.1 < m → k.2 < n → comesF m n F k = false) : restF t hs m n F ≤ at2 u c.1 c.2 := by
  have g := fit_grid m1 n1 hu
  rw [fit_rest m1 n1 hu]
  refine Int.le_trans (SS_one c1 c2 fun i hi j hj ne => ?_) ?_
  · by_cases h : (i, j) ∈ hs
    · rw [if_pos h, w_comes, ho _ h ne hi hj]
      have := g.nn i hi j hj
      by_cases k : goesF m n F (i, j) = true
      · simp [k]; omega
      · simp [k]
    · rw [if_neg h]
      exact Int.le_refl 0
  · have g0 : goesF m n F c = false := by
      unfold comesF at cc
      unfold goesF
      revert cc
      cases F (arcF m n c).1 <;> cases F (arcF m n c).2 <;> decide
    rw [if_pos (show (c.1, c.2) ∈ hs from hc), show wF m n F (c.1, c.2) = wF m n F c from rfl, w_comes, cc, g0]
    simp
theorem rest_high {t u : List (List Int)} {hs : List (Nat × Nat)} {m n : Nat} {c : Nat × Nat} {F : Pl → Bool} (m1 : 1 ≤ m) (n1 : 1 ≤ n) (hu : Fit t hs u m n) (c1 : c.1 < m) (c2 : c.2 < n) (hc : c ∈ hs) (cc : comesF m n F c = true) (ho : ∀ k ∈ hs, k.1 < m → k.2 < n → goesF m n F k = false) : at2 u c.1 c.2 ≤ restF t hs m n F := by
  have g := fit_grid m1 n1 hu
  have e := fit_rest m1 n1 hu F
  have h1 : S m (fun i => S n fun j => -(if (i, j) ∈ hs then -(at2 u i j * wF m n F (i, j)) else 0)) ≤ -(at2 u c.1 c.2) := by
    refine Int.le_trans (SS_one c1 c2 fun i hi j hj ne => ?_) ?_
    · by_cases h : (i, j) ∈ hs
      · rw [if_pos h, w_comes, ho _ h hi hj]
        have := g.nn i hi j hj
        by_cases k : comesF m n F (i, j) = true
        · simp [k]; omega
        · simp [k]
      · rw [if_neg h]
        decide
    · rw [if_pos (show (c.1, c.2) ∈ hs from hc), show wF m n F (c.1, c.2) = wF m n F c from rfl, w_comes, cc, ho c hc c1 c2]
      simp
  rw [SS_neg, ← e] at h1
  omega
/-- .. and where the hidden ones that go the other way hold nothing, the very number -/
theorem rest_is {t u : List (List Int)} {hs : List (Nat × Nat)} {m n : Nat} {c : Nat × Nat} {F : Pl → Bool} (m1 : 1 ≤ m) (n1 : 1 ≤ n) (hu : Fit t hs u m n) (c1 : c.1 < m) (c2 : c.2 < n) (hc : c ∈ hs) (cc : comesF m n F c = true) (ho : ∀ k ∈ hs, k ≠ c → k.1 < m → k.2 < n → wF m n F k ≠ 0 → at2 u k.1 k.2 = 0) : restF t hs m n F = at2 u c.1 c.2 := by
  have e := fit_rest m1 n1 hu F
  have g0 : goesF m n F c = false := by
    unfold comesF at cc
    unfold goesF
    revert cc
    cases F (arcF m n c).1 <;> cases F (arcF m n c).2 <;> decide
  have z : ∀ i < m, ∀ j < n, (i, j) ≠ c → (if (i, j) ∈ hs then -(at2 u i j * wF m n F (i, j)) else 0) = 0 := fun i hi j hj ne => by
    by_cases h : (i, j) ∈ hs
    · rw [if_pos h]
      by_cases k : wF m n F (i, j) = 0
      · rw [k, Int.mul_zero, Int.neg_zero]
      · have : at2 u i j = 0 := ho _ h ne hi hj k
        rw [this, Int.zero_mul, Int.neg_zero]
    · exact if_neg h
  have at_c : (if (c.1, c.2) ∈ hs then -(at2 u c.1 c.2 * wF m n F (c.1, c.2)) else 0) = at2 u c.1 c.2 := by
    rw [if_pos (show (c.1, c.2) ∈ hs from hc), show wF m n F (c.1, c.2) = wF m n F c from rfl, w_comes, cc, g0]
    simp
  have a := SS_one (f := fun i j => if (i, j) ∈ hs then -(at2 u i j * wF m n F (i, j)) else 0) c1 c2 fun i hi j hj ne => Int.le_of_eq (z i hi j hj ne)
  have b := SS_one (f := fun i j => -(if (i, j) ∈ hs then -(at2 u i j * wF m n F (i, j)) else 0)) c1 c2 fun i hi j hj ne => by
    show -(if (i, j) ∈ hs then -(at2 u i j * wF m n F (i, j)) else 0) ≤ 0
    rw [z i hi j hj ne]
    decide
  rw [SS_neg] at b
  rw [← e, at_c] at a
  rw [← e, at_c] at b
  omega
end K3
end N6_part
section N7_part
set_option Elab.async false
set_option linter.all false
set_option maxRecDepth 100000
set_option maxHeartbeats 1000000
set_option pp.deepTerms.threshold 5
open PySem PySem.Spec PyProof.Rows L2
/-- go on as far as nothing is open -/
local macro_rules | `(tactic| walk_at "go") => `(tactic| repeat (first
  | with_reducible refine w_seq ?_ | with_reducible refine w_next ?_ | with_reducible refine w_set ?_ | with_reducible refine w_drop ?_ | with_reducible refine w_ret ?_ | with_reducible refine w_retN ?_
  | with_reducible refine w_if ?_ | ((with_reducible refine' w_var ?hv ?_); (case hv => exact rfl)) | with_reducible refine w_c ?_ | with_reducible refine w_nil ?_ | with_reducible refine w_cons ?_ | with_reducible refine w_op ?_ | with_reducible refine w_un ?_
  | with_reducible refine w_test ?_ | with_reducible refine w_tB ?_ | with_reducible refine w_not ?_ | with_reducible refine w_and ?_ | with_reducible refine w_or ?_ | with_reducible refine w_bl ?_
  | with_reducible refine w_andV ?_ | with_reducible refine w_orV ?_ | with_reducible refine w_notV ?_ | with_reducible refine w_ifE ?_ | with_reducible refine w_chain ?_ | with_reducible refine w_i0 ?_
  | with_reducible refine w_call ?_ | with_reducible refine w_callS ?_ | with_reducible refine w_cB ?_ | with_reducible refine w_tup ?_ | with_reducible refine w_lst ?_ | with_reducible refine w_fldV ?_
  | with_reducible refine w_neF ?_ | with_reducible refine w_neT ?_ | with_reducible refine w_notN ?_ | with_reducible refine w_isN ?_ | with_reducible refine w_gname ?_ | with_reducible refine w_gsub ?_ | with_reducible refine w_asg ?_ | with_reducible refine w_sl ?_ | with_reducible refine w_noP ?_ | with_reducible refine w_int1 ?_ | with_reducible refine w_part ?_ | with_reducible refine w_yes ?_ | with_reducible refine w_nT ?_ | with_reducible refine w_nF ?_ | with_reducible refine w_iteT ?_ | with_reducible refine w_iteF ?_))
namespace K3
abbrev stF (m n : Nat) (cs : List (Nat × Nat)) (c : Nat × Nat) := stepsF m n (othersF cs c)
def firstF (m n : Nat) (cs : List (Nat × Nat)) (t : List (List Int)) (c : Nat × Nat) : Pl → Bool := fun p => decide (0 < at2 (leastF m n cs t c) c.1 c.2) && !decide (p ∈ keysOf (waysF (leastF m n cs t c) (stF m n cs c) (m + n + 1) (arcF m n c).1))
def secondF (m n : Nat) (cs : List (Nat × Nat)) (t : List (List Int)) (c : Nat × Nat) : Pl → Bool := fun p => decide (p ∈ keysOf (waysF (mostF m n cs t c) (stF m n cs c) (m + n + 1) (arcF m n c).2))
def boundF (t : List (List Int)) (hs : List (Nat × Nat)) (m n : Nat) (F : Pl → Bool) (c : Nat × Nat) : Option Int × Option Int :=
  if comesF m n F c = true then (if ((comeL m n F).any fun k => decide (k ≠ c) && decide (k ∈ hs)) = true then none else some (restF t hs m n F), if ((goL m n F).any fun k => decide (k ∈ hs)) = true then none else some (restF t hs m n F)) else (none, none)
theorem come_mem {m n : Nat} {F : Pl → Bool} {k : Nat × Nat} : k ∈ comeL m n F ↔ (k.1 < m ∧ k.2 < n) ∧ comesF m n F k = true := by
  unfold comeL
  rw [List.mem_filter, cells_mem]
theorem go_mem {m n : Nat} {F : Pl → Bool} {k : Nat × Nat} : k ∈ goL m n F ↔ (k.1 < m ∧ k.2 < n) ∧ goesF m n F k = true := by
  unfold goL
  rw [List.mem_filter, cells_mem]
section
variable {t : List (List Int)} {cs : List (Nat × Nat)} {m n : Nat} {c : Nat × Nat}
theorem start_in (g : Grid t m n) (hb : ∀ k ∈ cs, k.1 < m ∧ k.2 < n) (hl : cs.length ≤ 100) (u : List (List Int)) {p : Pl} (hp : inPl m n p) :
    p ∈ keysOf (waysF u (stF m n cs c) (m + n + 1) p) ∧ ∀ x ∈ keysOf (waysF u (stF m n cs c) (m + n + 1) p), ∀ s ∈ stF m n cs c x, res u s → s.to ∈ keysOf (waysF u (stF m n cs c) (m + n + 1) p) := by
  obtain ⟨w1, w2⟩ := ways_ok (u := u) (steps_ok g.m1 g.n1 (fun k hk => hb k (others_mem.mp hk).1) (Nat.le_trans (List.length_filter_le _ _) hl) : StepsOk m n (stF m n cs c)) hp
  exact ⟨List.mem_map.mpr ⟨_, List.mem_of_getElem? w1.zero, rfl⟩, w2⟩
/-- hidden ways: up always, down where there is something -/
theorem ways_arc (g : Grid t m n) (hb : ∀ k ∈ cs, k.1 < m ∧ k.2 < n) (hl : cs.length ≤ 100) (u : List (List Int)) {p : Pl} (hp : inPl m n p) {k : Nat × Nat} (hk : k ∈ cs) (ne : k ≠ c) :
    ((arcF m n k).1 ∈ keysOf (waysF u (stF m n cs c) (m + n + 1) p) → (arcF m n k).2 ∈ keysOf (waysF u (stF m n cs c) (m + n + 1) p)) ∧
    ((arcF m n k).2 ∈ keysOf (waysF u (stF m n cs c) (m + n + 1) p) → 0 < at2 u k.1 k.2 → (arcF m n k).1 ∈ keysOf (waysF u (stF m n cs c) (m + n + 1) p)) := by
  obtain ⟨_, w⟩ := start_in g hb hl u hp (c := c)
  obtain ⟨s1, s2⟩ := stepsF_up (m := m) (n := n) (others_mem.mpr ⟨hk, ne⟩)
  exact ⟨fun z => w _ z _ s1 (.inl rfl), fun z y => w _ z _ s2 (.inr y)⟩
theorem first_ok (g : Grid t m n) (hb : ∀ k ∈ cs, k.1 < m ∧ k.2 < n) (hl : cs.length ≤ 100) (hc : c ∈ cs) (pos : 0 < at2 (leastF m n cs t c) c.1 c.2) :
    comesF m n (firstF m n cs t c) c = true ∧ (∀ k ∈ cs, k ≠ c → comesF m n (firstF m n cs t c) k = false) ∧ restF t cs m n (firstF m n cs t c) = at2 (leastF m n cs t c) c.1 c.2 := by
  obtain ⟨c1, c2⟩ := hb c hc
  obtain ⟨p1, p2⟩ := arc_place c1 c2
  obtain ⟨lf, _⟩ := least_ok g hb hl hc
  have cut := least_cut g hb hl hc pos
  have st := (start_in g hb hl (leastF m n cs t c) p1 (c := c)).1
  have fe : ∀ p, firstF m n cs t c p = !decide (p ∈ keysOf (waysF (leastF m n cs t c) (stF m n cs c) (m + n + 1) (arcF m n c).1)) := fun p => by
    unfold firstF
    rw [decide_eq_true pos, Bool.true_and]
  have gL := fit_grid g.m1 g.n1 lf
  have ar := fun k hk ne => ways_arc g hb hl (leastF m n cs t c) p1 (k := k) (c := c) hk ne
  have co : comesF m n (firstF m n cs t c) c = true := by
    unfold comesF
    rw [fe, fe, decide_eq_true st, decide_eq_false cut]
    rfl
  have oth : ∀ k ∈ cs, k ≠ c → comesF m n (firstF m n cs t c) k = false := fun k hk ne => by
    have := (ar k hk ne).1
    unfold comesF
    rw [fe, fe]
    by_cases z : (arcF m n k).1 ∈ keysOf (waysF (leastF m n cs t c) (stF m n cs c) (m + n + 1) (arcF m n c).1)
    · rw [decide_eq_true z, decide_eq_true (this z)]
      rfl
    · rw [decide_eq_false z]
      simp
  refine ⟨co, oth, rest_is g.m1 g.n1 lf c1 c2 hc co fun k hk ne k1 k2 hw => ?_⟩
  have a2 := (ar k hk ne).2
  have n0 := gL.nn k.1 k1 k.2 k2
  by_cases z : 0 < at2 (leastF m n cs t c) k.1 k.2
  · refine absurd ?_ hw
    unfold wF
    rw [fe, fe]
    by_cases z1 : (arcF m n k).1 ∈ keysOf (waysF (leastF m n cs t c) (stF m n cs c) (m + n + 1) (arcF m n c).1)
    · rw [decide_eq_true z1, decide_eq_true ((ar k hk ne).1 z1)]
      rfl
    · rw [decide_eq_false z1, decide_eq_false (fun z2 => z1 (a2 z2 z))]
      rfl
  · omega
theorem second_ok (g : Grid t m n) (hb : ∀ k ∈ cs, k.1 < m ∧ k.2 < n) (hl : cs.length ≤ 100) (hc : c ∈ cs) (hlast : (m - 1, n - 1) ∉ cs) :
    comesF m n (secondF m n cs t c) c = true ∧ (∀ k ∈ cs, goesF m n (secondF m n cs t c) k = false) ∧ restF t cs m n (secondF m n cs t c) = at2 (mostF m n cs t c) c.1 c.2 := by
  obtain ⟨c1, c2⟩ := hb c hc
  obtain ⟨p1, p2⟩ := arc_place c1 c2
  obtain ⟨mf, _⟩ := most_ok g hb hl hc hlast
  have cut := most_cut g hb hl hc hlast
  have st := (start_in g hb hl (mostF m n cs t c) p2 (c := c)).1
  have fe : ∀ p, secondF m n cs t c p = decide (p ∈ keysOf (waysF (mostF m n cs t c) (stF m n cs c) (m + n + 1) (arcF m n c).2)) := fun p => rfl
  have gM := fit_grid g.m1 g.n1 mf
  have ar := fun k hk ne => ways_arc g hb hl (mostF m n cs t c) p2 (k := k) (c := c) hk ne
  have co : comesF m n (secondF m n cs t c) c = true := by
    unfold comesF
    rw [fe, fe, decide_eq_true st, decide_eq_false cut]
    rfl
  have oth : ∀ k ∈ cs, goesF m n (secondF m n cs t c) k = false := fun k hk => by
    unfold goesF
    rw [fe, fe]
    by_cases ne : k = c
    · subst ne
      rw [decide_eq_false cut]
      rfl
    · by_cases z : (arcF m n k).1 ∈ keysOf (waysF (mostF m n cs t c) (stF m n cs c) (m + n + 1) (arcF m n c).2)
      · rw [decide_eq_true z, decide_eq_true ((ar k hk ne).1 z)]
        rfl
      · rw [decide_eq_false z]
        rfl
  refine ⟨co, oth, rest_is g.m1 g.n1 mf c1 c2 hc co fun k hk ne k1 k2 hw => ?_⟩
  have n0 := gM.nn k.1 k1 k.2 k2
  by_cases z : 0 < at2 (mostF m n cs t c) k.1 k.2
  · refine absurd ?_ hw
    unfold wF
    rw [fe, fe]
    by_cases z1 : (arcF m n k).1 ∈ keysOf (waysF (mostF m n cs t c) (stF m n cs c) (m + n + 1) (arcF m n c).2)
    · rw [decide_eq_true z1, decide_eq_true ((ar k hk ne).1 z1)]
      rfl
    · rw [decide_eq_false z1, decide_eq_false (fun z2 => z1 ((ar k hk ne).2 z2 z))]
      rfl
  · omega
theorem any_come {hs : List (Nat × Nat)} {F : Pl → Bool} : ((comeL m n F).any fun k => decide (k ≠ c) && decide (k ∈ hs)) = true ↔ ∃ k, k ∈ comeL m n F ∧ k ≠ c ∧ k ∈ hs := by
  rw [List.any_eq_true]
  simp
theorem any_go {hs : List (Nat × Nat)} {F : Pl → Bool} : ((goL m n F).any fun k => decide (k ∈ hs)) = true ↔ ∃ k, k ∈ goL m n F ∧ k ∈ hs := by
  rw [List.any_eq_true]
  simp
theorem bound_first (g : Grid t m n) (hb : ∀ k ∈ cs, k.1 < m ∧ k.2 < n) (hl : cs.length ≤ 100) (hc : c ∈ cs) :
    (boundF t cs m n (firstF m n cs t c) c).1 = if 0 < at2 (leastF m n cs t c) c.1 c.2 then some (at2 (leastF m n cs t c) c.1 c.2) else none := by
  by_cases pos : 0 < at2 (leastF m n cs t c) c.1 c.2
  · obtain ⟨a, b, d⟩ := first_ok g hb hl hc pos
    unfold boundF
    rw [if_pos a, if_pos pos]
    show (if _ then none else some (restF t cs m n (firstF m n cs t c))) = _
    rw [if_neg (fun z => ?_), d]
    obtain ⟨k, h1, h2, h3⟩ := any_come.mp z
    have := (come_mem.mp h1).2
    rw [b k h3 h2] at this
    cases this
  · unfold boundF
    have : comesF m n (firstF m n cs t c) c = false := by
      unfold comesF firstF
      rw [decide_eq_false pos]
      rfl
    rw [this, if_neg pos]
    rfl
theorem bound_second (g : Grid t m n) (hb : ∀ k ∈ cs, k.1 < m ∧ k.2 < n) (hl : cs.length ≤ 100) (hc : c ∈ cs) (hlast : (m - 1, n - 1) ∉ cs) :
    (boundF t cs m n (secondF m n cs t c) c).2 = some (at2 (mostF m n cs t c) c.1 c.2) := by
  obtain ⟨a, b, d⟩ := second_ok g hb hl hc hlast
  unfold boundF
  rw [if_pos a]
  show (if _ then none else some (restF t cs m n (secondF m n cs t c))) = _
  rw [if_neg (fun z => ?_), d]
  obtain ⟨k, h1, h2⟩ := any_go.mp z
  have := (go_mem.mp h1).2
  rw [b k h2] at this
  cases this
theorem bound_low {F : Pl → Bool} {x : Int} (g : Grid t m n) (hb : ∀ k ∈ cs, k.1 < m ∧ k.2 < n) (hc : c ∈ cs) (h : (boundF t cs m n F c).1 = some x) {u : List (List Int)} (hu : Fit t cs u m n) : x ≤ at2 u c.1 c.2 := by
  obtain ⟨c1, c2⟩ := hb c hc
  unfold boundF at h
  by_cases a : comesF m n F c = true
  · rw [if_pos a] at h
    have h : (if _ then none else some (restF t cs m n F)) = some x := h
    by_cases z : ((comeL m n F).any fun k => decide (k ≠ c) && decide (k ∈ cs)) = true
    · rw [if_pos z] at h
      cases h
    · rw [if_neg z] at h
      cases h
      refine rest_low g.m1 g.n1 hu c1 c2 hc a fun k hk ne k1 k2 => ?_
      by_cases y : comesF m n F k = true
      · exact absurd (any_come.mpr ⟨k, come_mem.mpr ⟨⟨k1, k2⟩, y⟩, ne, hk⟩) z
      · exact Bool.eq_false_iff.mpr y
  · rw [if_neg a] at h
    cases h
theorem bound_high {F : Pl → Bool} {x : Int} (g : Grid t m n) (hb : ∀ k ∈ cs, k.1 < m ∧ k.2 < n) (hc : c ∈ cs) (h : (boundF t cs m n F c).2 = some x) {u : List (List Int)} (hu : Fit t cs u m n) : at2 u c.1 c.2 ≤ x := by
  obtain ⟨c1, c2⟩ := hb c hc
  unfold boundF at h
  by_cases a : comesF m n F c = true
  · rw [if_pos a] at h
    have h : (if _ then none else some (restF t cs m n F)) = some x := h
    by_cases z : ((goL m n F).any fun k => decide (k ∈ cs)) = true
    · rw [if_pos z] at h
      cases h
    · rw [if_neg z] at h
      cases h
      refine rest_high g.m1 g.n1 hu c1 c2 hc a fun k hk k1 k2 => ?_
      by_cases y : goesF m n F k = true
      · exact absurd (any_go.mpr ⟨k, go_mem.mpr ⟨⟨k1, k2⟩, y⟩, hk⟩) z
      · exact Bool.eq_false_iff.mpr y
  · rw [if_neg a] at h
    cases h
end
/-! ### fences by their rows and columns -/
def inF (R C : List Int) (p : Pl) : Bool := decide ((p.2 : Int) ∈ if p.1 then R else C)
def rowsOf (m : Nat) (F : Pl → Bool) : List Int := ((List.range m).filter fun i => F (true, i)).map fun (i : Nat) => (i : Int)
def colsOf (n : Nat) (F : Pl → Bool) : List Int := ((List.range n).filter fun i => F (false, i)).map fun (i : Nat) => (i : Int)
theorem in_of {m n : Nat} {F : Pl → Bool} {p : Pl} (hp : inPl m n p) : inF (rowsOf m F) (colsOf n F) p = F p := by
  obtain ⟨k, i⟩ := p
  unfold inF
  have key : ∀ (N : Nat) (G : Nat → Bool), i < N → decide ((i : Int) ∈ ((List.range N).filter G).map fun (i : Nat) => (i : Int)) = G i := fun N G hi => by
    by_cases z : G i = true
    · rw [z]
      exact decide_eq_true (List.mem_map.mpr ⟨i, List.mem_filter.mpr ⟨List.mem_range.mpr hi, z⟩, rfl⟩)
    · rw [Bool.eq_false_iff.mpr z]
      refine decide_eq_false fun y => ?_
      obtain ⟨j, hj, e⟩ := List.mem_map.mp y
      have : j = i := by omega
      subst this
      exact z (List.mem_filter.mp hj).2
  cases k with
  | true => exact key m (fun i => F (true, i)) hp
  | false => exact key n (fun i => F (false, i)) hp
theorem come_congr {m n : Nat} {F G : Pl → Bool} (h : ∀ p, inPl m n p → F p = G p) : (∀ k : Nat × Nat, k.1 < m → k.2 < n → comesF m n F k = comesF m n G k ∧ goesF m n F k = goesF m n G k) ∧ comeL m n F = comeL m n G ∧ goL m n F = goL m n G := by
  have one : ∀ k : Nat × Nat, k.1 < m → k.2 < n → comesF m n F k = comesF m n G k ∧ goesF m n F k = goesF m n G k := fun k k1 k2 => by
    obtain ⟨p1, p2⟩ := arc_place k1 k2
    unfold comesF goesF
    rw [h _ p1, h _ p2]
    exact ⟨rfl, rfl⟩
  refine ⟨one, ?_, ?_⟩
  · exact List.filter_congr fun k hk => (one k (cells_mem.mp hk).1 (cells_mem.mp hk).2).1
  · exact List.filter_congr fun k hk => (one k (cells_mem.mp hk).1 (cells_mem.mp hk).2).2
theorem bound_congr {t : List (List Int)} {hs : List (Nat × Nat)} {m n : Nat} {c : Nat × Nat} {F G : Pl → Bool} (h : ∀ p, inPl m n p → F p = G p) (c1 : c.1 < m) (c2 : c.2 < n) : boundF t hs m n F c = boundF t hs m n G c := by
  obtain ⟨a, b, d⟩ := come_congr h
  unfold boundF restF
  rw [(a c c1 c2).1, b, d]
theorem bound_mem {t : List (List Int)} {hs cs : List (Nat × Nat)} {m n : Nat} {c : Nat × Nat} {F : Pl → Bool} (h : ∀ k, k ∈ hs ↔ k ∈ cs) : boundF t hs m n F c = boundF t cs m n F c := by
  unfold boundF restF shownS
  simp only [h]
end K3
end N7_part
section E3_part
set_option Elab.async false
set_option linter.all false
set_option maxRecDepth 100000
set_option maxHeartbeats 1000000
set_option pp.deepTerms.threshold 5
open PySem PySem.Spec PyProof.Rows L2
/-- go on as far as nothing is open -/
local macro_rules | `(tactic| walk_at "go") => `(tactic| repeat (first
  | with_reducible refine w_seq ?_ | with_reducible refine w_next ?_ | with_reducible refine w_set ?_ | with_reducible refine w_drop ?_ | with_reducible refine w_ret ?_ | with_reducible refine w_retN ?_
  | with_reducible refine w_if ?_ | ((with_reducible refine' w_var ?hv ?_); (case hv => exact rfl)) | with_reducible refine w_c ?_ | with_reducible refine w_nil ?_ | with_reducible refine w_cons ?_ | with_reducible refine w_op ?_ | with_reducible refine w_un ?_
  | with_reducible refine w_test ?_ | with_reducible refine w_tB ?_ | with_reducible refine w_not ?_ | with_reducible refine w_and ?_ | with_reducible refine w_or ?_ | with_reducible refine w_bl ?_
  | with_reducible refine w_andV ?_ | with_reducible refine w_orV ?_ | with_reducible refine w_notV ?_ | with_reducible refine w_ifE ?_ | with_reducible refine w_chain ?_ | with_reducible refine w_i0 ?_
  | with_reducible refine w_call ?_ | with_reducible refine w_callS ?_ | with_reducible refine w_cB ?_ | with_reducible refine w_tup ?_ | with_reducible refine w_lst ?_ | with_reducible refine w_fldV ?_
  | with_reducible refine w_neF ?_ | with_reducible refine w_neT ?_ | with_reducible refine w_notN ?_ | with_reducible refine w_isN ?_ | with_reducible refine w_gname ?_ | with_reducible refine w_gsub ?_ | with_reducible refine w_asg ?_ | with_reducible refine w_sl ?_ | with_reducible refine w_noP ?_ | with_reducible refine w_int1 ?_ | with_reducible refine w_part ?_ | with_reducible refine w_yes ?_ | with_reducible refine w_nT ?_ | with_reducible refine w_nF ?_ | with_reducible refine w_iteT ?_ | with_reducible refine w_iteF ?_))
namespace L2
open PySem PySem.Spec PyProof.Rows
/-- a comprehension over items, some kept, each giving something of which something is known -/
theorem items_gen {K : PySem.W.Frag} {α β : Type} {F : Hp → V → α → Prop} {G : Hp → V → β → Prop} (mF : ∀ {H H' : Hp} {v : V} {y : α}, Same H H' → F H v y → F H' v y) (mG : ∀ {H H' : Hp} {v : V} {y : β}, K3.Tk H H' → G H v y → G H' v y)
    {a D : Addr} {xs : List V} {ys : List α} {g : TG} {tt : TT} {te : TE} {vs : List Nat} {σ : L2.St} {H1 : Hp} {Qd : Hp → Prop} (bb : α → Bool) (o : α → β) (hs : SqL K H1 a xs) (hp : Paired (F H1) xs ys) (hD : H1 D = none) (hlen : xs.length ≤ 10000)
    (step : ∀ (v : V) (y : α) (H' : Hp), Same H1 H' → y ∈ ys → F H' v y → ∀ R : Option V → Hp → Prop, (∀ H'', Same H' H'' → bb y = false → R none H'') → (∀ z H'', Same H' H'' → bb y = true → G H'' z (o y) → R (some z) H'') →
      g v (wipe σ vs) H' fun σ2 H2 => wipe σ2 vs = wipe σ vs ∧ tt σ2 H2 fun b H3 => if b = true then te σ2 H3 (fun z H4 => R (some z) H4) else R none H3)
    (hd : ∀ H' zs, Same H1 H' → H' D = some (.lst zs) → Paired (G H') zs ((ys.filter bb).map o) → Qd H') : LcAt (Itl K a) D g tt te vs σ H1 Qd := by
  refine lc_list (xs := xs) (fun i H' => Same H1 H' ∧ ∃ zs, H' D = some (.lst zs) ∧ Paired (G H') zs (((ys.take i).filter bb).map o)) ⟨Same.new hD _, [], upd_same, .nil⟩ (fun i H' _ z => z.1.seq hs) ?_ ?_
  · rintro i x H2 hx ⟨e2, zs, hD2, hp2⟩
    obtain ⟨y, hy, hF⟩ := K3.Paired.get hp hx
    have hl : (ys.take (i + 1)).filter bb = (ys.take i).filter bb ++ (if bb y = true then [y] else []) := by
      rw [List.take_add_one, hy, List.filter_append]
      congr 1
      cases hb : bb y <;> simp [hb]
    refine step x y H2 e2 (List.mem_of_getElem? hy) (mF e2 hF) (fun oz H4 => match oz with
      | none => Same H1 H4 ∧ ∃ zs, H4 D = some (.lst zs) ∧ Paired (G H4) zs (((ys.take (i + 1)).filter bb).map o)
      | some z => ∃ acc, H4 D = some (.lst acc) ∧ acc.length < sizeLine ∧ (Same H1 (upd H4 D (.lst (acc ++ [z]))) ∧ ∃ zs, (upd H4 D (.lst (acc ++ [z]))) D = some (.lst zs) ∧ Paired (G (upd H4 D (.lst (acc ++ [z])))) zs (((ys.take (i + 1)).filter bb).map o))) (fun H3 e3 hb => ?_) (fun z H3 e3 hb hG => ?_)
    · rw [hb] at hl
      refine ⟨e2.trans e3, zs, e3 _ _ hD2, ?_⟩
      rw [hl, if_neg (by decide), List.append_nil]
      exact L2.Paired.mapP hp2 fun _ _ y => mG (K3.Tk.of e3) y
    · rw [hb] at hl
      have hD3 := e3 _ _ hD2
      have tk : K3.Tk H3 (upd H3 D (.lst (zs ++ [z]))) := K3.Tk.upd hD3 fun _ e => by cases e
      refine ⟨zs, hD3, ?_, (e2.trans e3).mut hD, zs ++ [z], upd_same, ?_⟩
      · refine Nat.lt_of_le_of_lt (show _ ≤ 10000 from ?_) (by decide)
        rw [hp2.length, List.length_map]
        refine Nat.le_trans (List.length_filter_le _ _) ?_
        rw [List.length_take, ← hp.length]
        omega
      · rw [hl, if_pos rfl, List.map_append]
        exact K3.Paired.app (L2.Paired.mapP hp2 fun _ _ y => mG ((K3.Tk.of e3).trans tk) y) (.cons (mG tk hG) .nil)
  · rintro H2 ⟨e2, zs, hD2, hp2⟩
    rw [hp.length, List.take_length] at hp2
    exact hd H2 zs e2 hD2 hp2
/-- .. over a range, all kept -/
theorem range_gen {β : Type} {G : Hp → V → β → Prop} (mG : ∀ {H H' : Hp} {v : V} {y : β}, K3.Tk H H' → G H v y → G H' v y) {D : Addr} {n : Nat} {g : TG} {te : TE} {vs : List Nat} {σ : L2.St} {H1 : Hp} {Qd : Hp → Prop} (o : Nat → β) (hD : H1 D = none) (hn : n ≤ 10000)
    (step : ∀ (i : Nat) (H' : Hp), Same H1 H' → i < n → ∀ R : V → Hp → Prop, (∀ z H'', Same H' H'' → G H'' z (o i) → R z H'') → g (.int (i : Int)) (wipe σ vs) H' fun σ2 H2 => wipe σ2 vs = wipe σ vs ∧ te σ2 H2 R)
    (gmono : ∀ (x : V) (H' : Hp) (A B : L2.St → Hp → Prop), (∀ σ2 H2, A σ2 H2 → B σ2 H2) → g x (wipe σ vs) H' A → g x (wipe σ vs) H' B)
    (hd : ∀ H' zs, Same H1 H' → H' D = some (.lst zs) → Paired (G H') zs ((List.range n).map o) → Qd H') : LcAt (Itr 0 n) D g tYes te vs σ H1 Qd := by
  refine lc_range (lo := 0) (n := n) (fun i H' => Same H1 H' ∧ ∃ zs, H' D = some (.lst zs) ∧ Paired (G H') zs ((List.range i).map o)) ⟨Same.new hD _, [], upd_same, .nil⟩ ?_ ?_
  · rintro i H2 hi ⟨e2, zs, hD2, hp2⟩
    rw [show (0 : Int) + (i : Int) = (i : Int) by omega]
    refine gmono _ _ _ _ ?_ (step i H2 e2 hi (fun z H4 => ∃ acc, H4 D = some (.lst acc) ∧ acc.length < sizeLine ∧ (Same H1 (upd H4 D (.lst (acc ++ [z]))) ∧ ∃ zs, (upd H4 D (.lst (acc ++ [z]))) D = some (.lst zs) ∧ Paired (G (upd H4 D (.lst (acc ++ [z])))) zs ((List.range (i + 1)).map o))) fun z H3 e3 hG => ?_)
    · rintro σ2 H3 ⟨h1, h2⟩
      exact ⟨h1, w_yes (iteT h2)⟩
    · have hD3 := e3 _ _ hD2
      have tk : K3.Tk H3 (upd H3 D (.lst (zs ++ [z]))) := K3.Tk.upd hD3 fun _ e => by cases e
      refine ⟨zs, hD3, ?_, (e2.trans e3).mut hD, zs ++ [z], upd_same, ?_⟩
      · refine Nat.lt_of_le_of_lt (show _ ≤ 10000 from ?_) (by decide)
        rw [hp2.length, List.length_map, List.length_range]
        omega
      · rw [List.range_succ, List.map_append]
        exact K3.Paired.app (L2.Paired.mapP hp2 fun _ _ y => mG ((K3.Tk.of e3).trans tk) y) (.cons (mG tk hG) .nil)
  · rintro H2 ⟨e2, zs, hD2, hp2⟩
    exact hd H2 zs e2 hD2 hp2
end L2
namespace K3
theorem paired_val {β : Type} {f : β → V} : ∀ {zs : List V} {l : List β}, Paired (fun v x => v = f x) zs l → zs = l.map f
  | _, _, .nil => rfl
  | _, _, .cons h t => by rw [h, paired_val t]; rfl
def ArcAt (m n : Nat) (H : Hp) (v : V) (c : Nat × Nat) : Prop := ∃ a vc va p1 p2, v = .ref a ∧ H a = some (.tup [vc, .ref va]) ∧ CellAt H vc c ∧ H va = some (.tup [p1, p2]) ∧ PlAt H p1 (arcF m n c).1 ∧ PlAt H p2 (arcF m n c).2
theorem ArcAt.tk {m n : Nat} {H H' : Hp} (e : Tk H H') {v : V} {c : Nat × Nat} (h : ArcAt m n H v c) : ArcAt m n H' v c := let ⟨a, vc, va, p1, p2, h1, h2, h3, h4, h5, h6⟩ := h; ⟨a, vc, va, p1, p2, h1, e _ _ h2, h3.tk e, e _ _ h4, h5.tk e, h6.tk e⟩
def FenceAt (K : PySem.W.Frag) (H : Hp) (v : V) (R C : List Int) : Prop := ∃ p a b, v = .ref p ∧ SqT K H p [.ref a, .ref b] ∧ SqE K H a (R.map V.int) ∧ SqE K H b (C.map V.int)
theorem FenceAt.same {K : PySem.W.Frag} {H H' : Hp} (e : Same H H') {v : V} {R C : List Int} (h : FenceAt K H v R C) : FenceAt K H' v R C := let ⟨p, a, b, h1, h2, h3, h4⟩ := h; ⟨p, a, b, h1, e.sqt h2, h3.same e, h4.same e⟩
/-- a fence of tuples -/
def FenceT (K : PySem.W.Frag) (H : Hp) (v : V) (R C : List Int) : Prop := ∃ p a b, v = .ref p ∧ SqT K H p [.ref a, .ref b] ∧ SqT K H a (R.map V.int) ∧ SqT K H b (C.map V.int)
theorem FenceT.same {K : PySem.W.Frag} {H H' : Hp} (e : Same H H') {v : V} {R C : List Int} (h : FenceT K H v R C) : FenceT K H' v R C := let ⟨p, a, b, h1, h2, h3, h4⟩ := h; ⟨p, a, b, h1, e.sqt h2, e.sqt h3, e.sqt h4⟩
theorem FenceT.at {K : PySem.W.Frag} {H : Hp} {v : V} {R C : List Int} (h : FenceT K H v R C) : FenceAt K H v R C := let ⟨p, a, b, h1, h2, h3, h4⟩ := h; ⟨p, a, b, h1, h2, ⟨true, h3⟩, ⟨true, h4⟩⟩
theorem in_ints (i : Int) : ∀ R : List Int, inV (.int i) (R.map V.int) = decide (i ∈ R)
  | [] => rfl
  | x :: R => by
    have ih := in_ints i R
    unfold inV at ih ⊢
    rw [List.map_cons, List.any_cons, ih]
    show ((x == i) || decide (i ∈ R)) = _
    by_cases h : x = i
    · subst h
      simp
    · have : ¬ i = x := fun z => h z.symm
      simp [h, this]
theorem flat_ints (R : List Int) : (R.map V.int).all flatV = true := by
  rw [List.all_eq_true]
  intro x hx
  obtain ⟨i, _, rfl⟩ := List.mem_map.mp hx
  rfl
theorem sorted_one : ∀ {a b : List Int}, a.Pairwise (· < ·) → b.Pairwise (· < ·) → (∀ x, x ∈ a ↔ x ∈ b) → a = b
  | [], [], _, _, _ => rfl
  | [], y :: b, _, _, h => absurd ((h y).mpr (List.mem_cons_self ..)) (by simp)
  | x :: a, [], _, _, h => absurd ((h x).mp (List.mem_cons_self ..)) (by simp)
  | x :: a, y :: b, h1, h2, h => by
    obtain ⟨p1, p2⟩ := List.pairwise_cons.mp h1
    obtain ⟨q1, q2⟩ := List.pairwise_cons.mp h2
    have xy : x = y := by
      rcases List.mem_cons.mp ((h x).mp (List.mem_cons_self ..)) with z | z
      · exact z
      rcases List.mem_cons.mp ((h y).mpr (List.mem_cons_self ..)) with z2 | z2
      · exact z2.symm
      have := q1 x z
      have := p1 y z2
      omega
    subst xy
    rw [sorted_one p2 q2 fun c => ?_]
    constructor
    · intro hc
      rcases List.mem_cons.mp ((h c).mp (List.mem_cons_of_mem _ hc)) with z | z
      · have := p1 c hc
        omega
      · exact z
    · intro hc
      rcases List.mem_cons.mp ((h c).mpr (List.mem_cons_of_mem _ hc)) with z | z
      · have := q1 c hc
        omega
      · exact z
theorem rows_sorted (m : Nat) (G : Nat → Bool) : (((List.range m).filter G).map fun (i : Nat) => (i : Int)).Pairwise (· < ·) := by
  rw [List.pairwise_map]
  have : (List.range m).Pairwise (· < ·) := List.pairwise_lt_range
  exact (this.sublist List.filter_sublist).imp fun h => by omega
/-- sorted numbers of the places of one kind -/
theorem kind_sorted {m : Nat} {k : Bool} {ps : List Pl} {ns : List Int} (nd : ps.Nodup) (hb : ∀ p ∈ ps, p.1 = k → p.2 < m) (pm : ns.Perm ((ps.filter fun p => decide (p.1 = k)).map fun p => (p.2 : Int))) (sr : ns.Pairwise (· ≤ ·)) :
    ns = ((List.range m).filter fun i => decide ((k, i) ∈ ps)).map fun (i : Nat) => (i : Int) := by
  have ndn : ns.Nodup := by
    refine pm.nodup_iff.mpr ?_
    unfold List.Nodup
    rw [List.pairwise_map]
    refine List.Pairwise.imp_of_mem ?_ (List.Pairwise.sublist List.filter_sublist nd)
    intro a b ha hb' ne z
    have h1 := of_decide_eq_true (List.mem_filter.mp ha).2
    have h2 := of_decide_eq_true (List.mem_filter.mp hb').2
    exact ne (Prod.ext (h1.trans h2.symm) (by omega))
  have lt : ns.Pairwise (· < ·) := (sr.and ndn).imp fun h => by omega
  refine sorted_one lt (rows_sorted m _) fun x => ?_
  rw [pm.mem_iff, List.mem_map, List.mem_map]
  constructor
  · rintro ⟨p, hp, rfl⟩
    obtain ⟨h1, h2⟩ := List.mem_filter.mp hp
    have h2 := of_decide_eq_true h2
    refine ⟨p.2, List.mem_filter.mpr ⟨List.mem_range.mpr (hb p h1 h2), ?_⟩, rfl⟩
    rw [← h2]
    exact decide_eq_true h1
  · rintro ⟨i, hi, rfl⟩
    have h2 := of_decide_eq_true (List.mem_filter.mp hi).2
    exact ⟨(k, i), List.mem_filter.mpr ⟨h2, decide_eq_true rfl⟩, rfl⟩
theorem w_gnn {i j : Nat} {v1 v2 : V} {σ : L2.St} {H : Hp} {Q : L2.St → Hp → Prop} (h : Q ((σ.set i (some v1)).set j (some v2)) H) : gCons (gName i) (gCons (gName j) gNil) [v1, v2] σ H Q := ⟨_, _, rfl, _, _, rfl, rfl, h⟩
theorem w_g4 {i j k l : Nat} {v1 v2 v3 v4 : V} {σ : L2.St} {H : Hp} {Q : L2.St → Hp → Prop} (h : Q ((((σ.set i (some v1)).set j (some v2)).set k (some v3)).set l (some v4)) H) : gCons (gName i) (gCons (gName j) (gCons (gName k) (gCons (gName l) gNil))) [v1, v2, v3, v4] σ H Q := ⟨_, _, rfl, _, _, rfl, _, _, rfl, _, _, rfl, rfl, h⟩
end K3
end E3_part
section F11_part
set_option Elab.async false
set_option linter.all false
set_option maxRecDepth 100000
set_option maxHeartbeats 1000000
set_option pp.deepTerms.threshold 5
open PySem PySem.Spec PyProof.Rows L2
/-- go on as far as nothing is open -/
local macro_rules | `(tactic| walk_at "go") => `(tactic| repeat (first
  | with_reducible refine w_seq ?_ | with_reducible refine w_next ?_ | with_reducible refine w_set ?_ | with_reducible refine w_drop ?_ | with_reducible refine w_ret ?_ | with_reducible refine w_retN ?_
  | with_reducible refine w_if ?_ | ((with_reducible refine' w_var ?hv ?_); (case hv => exact rfl)) | with_reducible refine w_c ?_ | with_reducible refine w_nil ?_ | with_reducible refine w_cons ?_ | with_reducible refine w_op ?_ | with_reducible refine w_un ?_
  | with_reducible refine w_test ?_ | with_reducible refine w_tB ?_ | with_reducible refine w_not ?_ | with_reducible refine w_and ?_ | with_reducible refine w_or ?_ | with_reducible refine w_bl ?_
  | with_reducible refine w_andV ?_ | with_reducible refine w_orV ?_ | with_reducible refine w_notV ?_ | with_reducible refine w_ifE ?_ | with_reducible refine w_chain ?_ | with_reducible refine w_i0 ?_
  | with_reducible refine w_call ?_ | with_reducible refine w_callS ?_ | with_reducible refine w_cB ?_ | with_reducible refine w_tup ?_ | with_reducible refine w_lst ?_ | with_reducible refine w_fldV ?_
  | with_reducible refine w_neF ?_ | with_reducible refine w_neT ?_ | with_reducible refine w_notN ?_ | with_reducible refine w_isN ?_ | with_reducible refine w_gname ?_ | with_reducible refine w_gsub ?_ | with_reducible refine w_asg ?_ | with_reducible refine w_sl ?_ | with_reducible refine w_noP ?_ | with_reducible refine w_int1 ?_ | with_reducible refine w_part ?_ | with_reducible refine w_yes ?_ | with_reducible refine w_nT ?_ | with_reducible refine w_nF ?_ | with_reducible refine w_iteT ?_ | with_reducible refine w_iteF ?_))
namespace K3
def optV : Option Int → V
  | none => .non
  | some x => .int x
def spIsIn (K : PySem.W.Frag) : Sp := fun vs H Q _ => ∃ (v w : V) (R C : List Int) (p : Pl), vs = [v, w] ∧ FenceAt K H v R C ∧ PlAt H w p ∧ Q (.bl (inF R C p)) H
def spCome (f : Nat → Nat → (Pl → Bool) → List (Nat × Nat)) (K : PySem.W.Frag) : Sp := fun vs H Q _ => ∃ (g : Addr) (v : V) (rs : List Addr) (t : List (List Int)) (m n : Nat) (R C : List Int), vs = [.ref g, v] ∧ GT K H g rs t ∧ Rect t m n ∧ 1 ≤ m ∧ 1 ≤ n ∧ m ≤ 30 ∧ n ≤ 30 ∧ FenceAt K H v R C ∧
  ∀ p H' ws, Same H H' → H p = none → H' p = some (.lst ws) → Paired (CellAt H') ws (f m n (inF R C)) → Q (.ref p) H'
abbrev spComing := spCome comeL
abbrev spGoing := spCome goL
def spSumS (K : PySem.W.Frag) : Sp := fun vs H Q _ => ∃ (g h l : Addr) (rs : List Addr) (t : List (List Int)) (m n : Nat) (ws ls : List V) (hs lc : List (Nat × Nat)), vs = [.ref g, .ref h, .ref l] ∧ GT K H g rs t ∧ Rect t m n ∧ m ≤ 30 ∧ n ≤ 30 ∧ H h = some (.lst ws) ∧ Paired (CellAt H) ws hs ∧ hs.length ≤ 100 ∧ (∀ k ∈ hs, k.1 < 60 ∧ k.2 < 60) ∧
  H l = some (.lst ls) ∧ Paired (CellAt H) ls lc ∧ lc.length ≤ 900 ∧ (∀ k ∈ lc, k.1 < m ∧ k.2 < n) ∧ ∀ H', Same H H' → Q (.int (shownS t hs lc)) H'
def spPlaces (K : PySem.W.Frag) : Sp := fun vs H Q _ => ∃ (g : Addr) (rs : List Addr) (t : List (List Int)) (m n : Nat), vs = [.ref g] ∧ GT K H g rs t ∧ Rect t m n ∧ 1 ≤ m ∧ m ≤ 60 ∧ n ≤ 60 ∧ ∀ p H' ws, Same H H' → H p = none → H' p = some (.lst ws) → Paired (PlAt H') ws (allPl m n) → Q (.ref p) H'
def spFenceOf (K : PySem.W.Frag) : Sp := fun vs H Q _ => ∃ (l : Addr) (ws : List V) (ps : List Pl) (m n : Nat), vs = [.ref l] ∧ H l = some (.lst ws) ∧ Paired (PlAt H) ws ps ∧ ps.Nodup ∧ (∀ p ∈ ps, inPl m n p) ∧ m ≤ 60 ∧ n ≤ 60 ∧ ∀ v H', Same H H' → FenceT K H' v (rowsOf m fun p => decide (p ∈ ps)) (colsOf n fun p => decide (p ∈ ps)) → Q v H'
section
variable {P : Program} {w : World} {K : PySem.W.Frag} {mg : Str → Option Value} {base : Heap}
theorem sc_is_in : FnScope ["fence", "place", "rows", "columns", "kind", "number"] ["fence", "place"] (defScope s_is_in) := ⟨rfl, rfl, rfl, by decide +kernel, rfl, by decide +kernel, by decide +kernel⟩
theorem ok_is_in (T : Tx K mg) : Ok P w K mg base 1 (He.ga K "is_in") ["fence", "place"] (spIsIn K) := by
  obtain ⟨fd, F⟩ := T.f_is_in
  refine ⟨fd, F.ok (k := 0) sc_is_in (fun vs H Q E h => ?_) (fun cdv A outer s_ H vs Q E hr h => ?_), F.bindsN fun _ _ _ _ _ _ us hl => match us, hl with | [_, _], _ => rfl, F.kp⟩
  · obtain ⟨v, w, R, C, ⟨k, i⟩, rfl, ⟨f, a, b, rfl, hf, ha, hb⟩, ⟨x, rfl, hx⟩, q⟩ := h
    rfl
  obtain ⟨v, w, R, C, ⟨k, i⟩, rfl, ⟨f, a, b, rfl, hf, ha, hb⟩, ⟨x, rfl, hx⟩, q⟩ := h
  have hu65 := K3.Room.units65 hr
  have hu64 := Nat.lt_of_succ_lt hu65
  have hu0 := Nat.lt_of_le_of_lt (Nat.le_add_right _ 65) hu65
  have hu1 := Nat.lt_of_le_of_lt (Nat.add_le_add_left (show 1 ≤ 65 by decide) _) hu65
  refine ⟨_, pss_cons (ps_asg (pv 0) (pg_tup (by rfl) (pgs_cons (pg_name (i := 2) sc_is_in.nd rfl (Or.inl rfl)) (pgs_cons (pg_name (i := 3) sc_is_in.nd rfl (Or.inl rfl)) pgs_nil))))
      (pss_cons (ps_asg (pv 1) (pg_tup (by rfl) (pgs_cons (pg_name (i := 4) sc_is_in.nd rfl (Or.inl rfl)) (pgs_cons (pg_name (i := 5) sc_is_in.nd rfl (Or.inl rfl)) pgs_nil))))
      (pss_one (ps_ret (pe_cmpR op_in_seq (pv 5) (pe_ifExp (pt_cmpR op_eq (pv 4) pe_str (nomark _)) (pv 2) (pv 3)) rfl)))), ?_⟩
  walk_at "go"
  refine w_gtup hf rfl (w_gnn ?_)
  dsimp only
  walk_at "go"
  cases k with
  | true =>
    have hx : H x = some (.tup [V.str ("row" : Str), V.int (i : Int)]) := hx
    refine w_gtup (SqT.of hx) rfl (w_gnn ?_)
    dsimp only
    walk_at "go"
    refine ⟨rfl, ?_⟩
    rw [decide_eq_true rfl]
    walk_at "go"
    refine ⟨a, _, rfl, ha.either, rfl, flat_ints R, ?_⟩
    rw [in_ints]
    exact q
  | false =>
    have hx : H x = some (.tup [V.str ("column" : Str), V.int (i : Int)]) := hx
    refine w_gtup (SqT.of hx) rfl (w_gnn ?_)
    dsimp only
    walk_at "go"
    refine ⟨rfl, ?_⟩
    rw [show decide (V.str ("column" : Str) = V.str ("row" : Str)) = false by decide]
    walk_at "go"
    refine ⟨b, _, rfl, hb.either, rfl, flat_ints C, ?_⟩
    rw [in_ints]
    exact q
theorem sc_coming_in : FnScope ["grid", "fence", "arcs", "cell", "start", "goal"] ["grid", "fence"] (defScope s_coming_in) := ⟨rfl, rfl, rfl, by decide +kernel, rfl, by decide +kernel, by decide +kernel⟩
theorem ok_coming_in (T : Tx K mg) : Ok P w K mg base 3 (He.ga K "coming_in") ["grid", "fence"] (spComing K) := by
  obtain ⟨fd, F⟩ := T.f_coming_in
  have Ois_in := ok_is_in (P := P) (w := w) (base := base) T
  have Ocells_of := ok_cells_of (P := P) (w := w) (base := base) T
  have Oarc_of := ok_arc_of (P := P) (w := w) (base := base) T
  refine ⟨fd, F.ok (k := 2) sc_coming_in (fun vs H Q E h => ?_) (fun cdv A outer s_ H vs Q E hr h => ?_), F.bindsN fun _ _ _ _ _ _ us hl => match us, hl with | [_, _], _ => rfl, F.kp⟩
  · obtain ⟨g, v, rs, t, m, n, R, C, rfl, ht, hR, m1, n1, m30, n30, hF, q⟩ := h
    rfl
  obtain ⟨g, v, rs, t, m, n, R, C, rfl, ht, hR, m1, n1, m30, n30, hF, q⟩ := h
  have hu65 := K3.Room.units65 hr
  have hu64 := Nat.lt_of_succ_lt hu65
  have hu0 := Nat.lt_of_le_of_lt (Nat.le_add_right _ 65) hu65
  have hu1 := Nat.lt_of_le_of_lt (Nat.add_le_add_left (show 1 ≤ 65 by decide) _) hu65
  have ris_in : Room 1 _ := hr.mono (by decide)
  have rcells_of : Room 1 _ := hr.mono (by decide)
  have rarc_of : Room 2 _ := hr.mono (by decide)
  refine ⟨_, pss_cons (by exact ps_setLc (i := 2) (own := [("cell", 3)]) (g := gName 3) (tt := tYes) (te := (tTup (tCons (tVar 3) (tCons (tCall (spArc K) [] E0 (tCons (tVar 0) (tCons (tVar 3) tNil))) tNil)))) (by rfl) sc_coming_in.nd rfl rfl (by rfl) (pi_list (pe_f Ocells_of rcells_of T.g_cells_of (pa_cons (pv 0) pa_nil))) (blkOk_by (own := [("cell", 3)]) (N := ["grid", "fence", "arcs", "cell", "start", "goal"]) (sc := defScope s_coming_in) (by decide +kernel)) (fun _ _ _ _ _ => (pg_name (i := 3) sc_coming_in.nd rfl (Or.inl rfl))) (fun _ _ _ _ _ => pts_nil) (fun _ _ _ _ _ => (pe_tup (pa_cons (pv 3) (pa_cons (pe_f Oarc_of rarc_of T.g_arc_of (pa_cons (pv 0) (pa_cons (pv 3) pa_nil))) pa_nil)))))
      (pss_one (ps_ret (by exact pe_lc (own := [("cell", 3), ("start", 4), ("goal", 5)]) (g := gTup K 2 (gCons (gName 3) (gCons (gTup K 2 (gCons (gName 4) (gCons (gName 5) gNil))) gNil))) (tt := (tAnd (tB (tCall (spIsIn K) [] E0 (tCons (tVar 1) (tCons (tVar 5) tNil)))) (tNot (tB (tCall (spIsIn K) [] E0 (tCons (tVar 1) (tCons (tVar 4) tNil))))))) (te := (tVar 3)) (by rfl) sc_coming_in.nd (pi_list (pv 2)) (blkOk_by (own := [("cell", 3), ("start", 4), ("goal", 5)]) (N := ["grid", "fence", "arcs", "cell", "start", "goal"]) (sc := defScope s_coming_in) (by decide +kernel)) (fun _ _ _ _ _ => (pg_tup (by rfl) (pgs_cons (pg_name (i := 3) sc_coming_in.nd rfl (Or.inl rfl)) (pgs_cons (pg_tup (by rfl) (pgs_cons (pg_name (i := 4) sc_coming_in.nd rfl (Or.inl rfl)) (pgs_cons (pg_name (i := 5) sc_coming_in.nd rfl (Or.inl rfl)) pgs_nil))) pgs_nil)))) (fun _ _ _ _ _ => (pts_one (pw_and (pt_val (pe_f Ois_in ris_in T.g_is_in (pa_cons (pv 1) (pa_cons (pv 5) pa_nil)))) (pw_and1 (pt_not (pt_val (pe_f Ois_in ris_in T.g_is_in (pa_cons (pv 1) (pa_cons (pv 4) pa_nil))))))).pt)) (fun _ _ _ _ _ => (pv 3))))), ?_⟩
  walk_at "go"
  refine lcAt_open (list_open ?_)
  walk_at "go"
  refine ⟨g, rs, t, m, n, rfl, ht, hR, m1, by omega, by omega, fun p1 H1 w1 e1 hp1 h1 hw1 => ?_⟩
  have l1 : w1.length ≤ 900 := by rw [hw1.length, cells_len]; exact Nat.mul_le_mul m30 n30
  refine ⟨p1, rfl, ⟨_, SqL.of h1⟩, fun D hD => ?_⟩
  refine items_gen (F := CellAt) (G := ArcAt m n) (fun e h => CellAt.same e h) (fun e h => ArcAt.tk e h) (fun _ => true) (fun c => c) (SqL.of h1) hw1 hD (by omega) ?_ ?_
  · intro v c H2 e2 hc hv R' _ r2
    walk_at "go"
    refine ⟨rfl, ?_⟩
    walk_at "go"
    refine ⟨g, v, rs, t, m, n, c, rfl, (ht.same e1).same e2, hR, m1, n1, hv, fun va H3 x1 x2 e3 ha p1' p2' => ?_⟩
    refine ⟨(by show 2 ≤ sizeLine; decide), fun b hb => ?_⟩
    have e4 := Same.new hb (.tup [v, .ref va])
    exact r2 _ _ (e3.trans e4) rfl ⟨b, v, va, x1, x2, rfl, upd_same, (hv.same e3).same e4, e4 _ _ ha, p1'.same e4, p2'.same e4⟩
  intro H2 zs e2 hD2 hz
  have hf : (cellsOf m n).filter (fun _ => true) = cellsOf m n := List.filter_eq_self.mpr fun _ _ => rfl
  rw [hf, List.map_id'] at hz
  have lz : zs.length ≤ 900 := by rw [hz.length, cells_len]; exact Nat.mul_le_mul m30 n30
  walk_at "go"
  refine lcAt_open (list_open ?_)
  walk_at "go"
  have e02 := e1.trans e2
  refine ⟨D, rfl, ⟨_, SqL.of hD2⟩, fun D3 hD3 => ?_⟩
  refine items_gen (F := ArcAt m n) (G := CellAt) (fun e h => ArcAt.tk (Tk.of e) h) (fun e h => CellAt.tk e h) (comesF m n (inF R C)) (fun c => c) (SqL.of hD2) hz hD3 (by omega) ?_ ?_
  · intro v' c H3 e3 hc hv R' r1 r2
    obtain ⟨a, vc, va, x1, x2, rfl, ha, hvc, hva, p1', p2'⟩ := hv
    refine w_gtup (SqT.of ha) rfl ⟨_, _, rfl, _, _, rfl, w_gtup (SqT.of hva) rfl (w_gnn ⟨rfl, ?_⟩)⟩
    refine ⟨rfl, ?_⟩
    have hF3 := (hF.same e02).same e3
    unfold comesF at r1 r2
    walk_at "go"
    refine ⟨v, x2, R, C, _, rfl, hF3, p2', ?_⟩
    walk_at "go"
    cases h1 : inF R C (arcF m n c).2 with
    | false =>
      walk_at "go"
      exact r1 _ (Same.refl _) (by rw [h1]; rfl)
    | true =>
      walk_at "go"
      refine ⟨v, x1, R, C, _, rfl, hF3, p1', ?_⟩
      walk_at "go"
      cases h2 : inF R C (arcF m n c).1 with
      | false =>
        walk_at "go"
        exact r2 _ _ (Same.refl _) (by rw [h1, h2]; rfl) hvc
      | true =>
        walk_at "go"
        exact r1 _ (Same.refl _) (by rw [h1, h2]; rfl)
  intro H3 ys e3 hD33 hy
  rw [List.map_id'] at hy
  exact q D3 H3 ys (e02.trans e3) (e02.free hD3) hD33 hy
theorem sc_going_out : FnScope ["grid", "fence", "arcs", "cell", "start", "goal"] ["grid", "fence"] (defScope s_going_out) := ⟨rfl, rfl, rfl, by decide +kernel, rfl, by decide +kernel, by decide +kernel⟩
theorem ok_going_out (T : Tx K mg) : Ok P w K mg base 3 (He.ga K "going_out") ["grid", "fence"] (spGoing K) := by
  obtain ⟨fd, F⟩ := T.f_going_out
  have Ois_in := ok_is_in (P := P) (w := w) (base := base) T
  have Ocells_of := ok_cells_of (P := P) (w := w) (base := base) T
  have Oarc_of := ok_arc_of (P := P) (w := w) (base := base) T
  refine ⟨fd, F.ok (k := 2) sc_going_out (fun vs H Q E h => ?_) (fun cdv A outer s_ H vs Q E hr h => ?_), F.bindsN fun _ _ _ _ _ _ us hl => match us, hl with | [_, _], _ => rfl, F.kp⟩
  · obtain ⟨g, v, rs, t, m, n, R, C, rfl, ht, hR, m1, n1, m30, n30, hF, q⟩ := h
    rfl
  obtain ⟨g, v, rs, t, m, n, R, C, rfl, ht, hR, m1, n1, m30, n30, hF, q⟩ := h
  have hu65 := K3.Room.units65 hr
  have hu64 := Nat.lt_of_succ_lt hu65
  have hu0 := Nat.lt_of_le_of_lt (Nat.le_add_right _ 65) hu65
  have hu1 := Nat.lt_of_le_of_lt (Nat.add_le_add_left (show 1 ≤ 65 by decide) _) hu65
  have ris_in : Room 1 _ := hr.mono (by decide)
  have rcells_of : Room 1 _ := hr.mono (by decide)
  have rarc_of : Room 2 _ := hr.mono (by decide)
  refine ⟨_, pss_cons (by exact ps_setLc (i := 2) (own := [("cell", 3)]) (g := gName 3) (tt := tYes) (te := (tTup (tCons (tVar 3) (tCons (tCall (spArc K) [] E0 (tCons (tVar 0) (tCons (tVar 3) tNil))) tNil)))) (by rfl) sc_going_out.nd rfl rfl (by rfl) (pi_list (pe_f Ocells_of rcells_of T.g_cells_of (pa_cons (pv 0) pa_nil))) (blkOk_by (own := [("cell", 3)]) (N := ["grid", "fence", "arcs", "cell", "start", "goal"]) (sc := defScope s_going_out) (by decide +kernel)) (fun _ _ _ _ _ => (pg_name (i := 3) sc_going_out.nd rfl (Or.inl rfl))) (fun _ _ _ _ _ => pts_nil) (fun _ _ _ _ _ => (pe_tup (pa_cons (pv 3) (pa_cons (pe_f Oarc_of rarc_of T.g_arc_of (pa_cons (pv 0) (pa_cons (pv 3) pa_nil))) pa_nil)))))
      (pss_one (ps_ret (by exact pe_lc (own := [("cell", 3), ("start", 4), ("goal", 5)]) (g := gTup K 2 (gCons (gName 3) (gCons (gTup K 2 (gCons (gName 4) (gCons (gName 5) gNil))) gNil))) (tt := (tAnd (tB (tCall (spIsIn K) [] E0 (tCons (tVar 1) (tCons (tVar 4) tNil)))) (tNot (tB (tCall (spIsIn K) [] E0 (tCons (tVar 1) (tCons (tVar 5) tNil))))))) (te := (tVar 3)) (by rfl) sc_going_out.nd (pi_list (pv 2)) (blkOk_by (own := [("cell", 3), ("start", 4), ("goal", 5)]) (N := ["grid", "fence", "arcs", "cell", "start", "goal"]) (sc := defScope s_going_out) (by decide +kernel)) (fun _ _ _ _ _ => (pg_tup (by rfl) (pgs_cons (pg_name (i := 3) sc_going_out.nd rfl (Or.inl rfl)) (pgs_cons (pg_tup (by rfl) (pgs_cons (pg_name (i := 4) sc_going_out.nd rfl (Or.inl rfl)) (pgs_cons (pg_name (i := 5) sc_going_out.nd rfl (Or.inl rfl)) pgs_nil))) pgs_nil)))) (fun _ _ _ _ _ => (pts_one (pw_and (pt_val (pe_f Ois_in ris_in T.g_is_in (pa_cons (pv 1) (pa_cons (pv 4) pa_nil)))) (pw_and1 (pt_not (pt_val (pe_f Ois_in ris_in T.g_is_in (pa_cons (pv 1) (pa_cons (pv 5) pa_nil))))))).pt)) (fun _ _ _ _ _ => (pv 3))))), ?_⟩
  walk_at "go"
  refine lcAt_open (list_open ?_)
  walk_at "go"
  refine ⟨g, rs, t, m, n, rfl, ht, hR, m1, by omega, by omega, fun p1 H1 w1 e1 hp1 h1 hw1 => ?_⟩
  have l1 : w1.length ≤ 900 := by rw [hw1.length, cells_len]; exact Nat.mul_le_mul m30 n30
  refine ⟨p1, rfl, ⟨_, SqL.of h1⟩, fun D hD => ?_⟩
  refine items_gen (F := CellAt) (G := ArcAt m n) (fun e h => CellAt.same e h) (fun e h => ArcAt.tk e h) (fun _ => true) (fun c => c) (SqL.of h1) hw1 hD (by omega) ?_ ?_
  · intro v c H2 e2 hc hv R' _ r2
    walk_at "go"
    refine ⟨rfl, ?_⟩
    walk_at "go"
    refine ⟨g, v, rs, t, m, n, c, rfl, (ht.same e1).same e2, hR, m1, n1, hv, fun va H3 x1 x2 e3 ha p1' p2' => ?_⟩
    refine ⟨(by show 2 ≤ sizeLine; decide), fun b hb => ?_⟩
    have e4 := Same.new hb (.tup [v, .ref va])
    exact r2 _ _ (e3.trans e4) rfl ⟨b, v, va, x1, x2, rfl, upd_same, (hv.same e3).same e4, e4 _ _ ha, p1'.same e4, p2'.same e4⟩
  intro H2 zs e2 hD2 hz
  have hf : (cellsOf m n).filter (fun _ => true) = cellsOf m n := List.filter_eq_self.mpr fun _ _ => rfl
  rw [hf, List.map_id'] at hz
  have lz : zs.length ≤ 900 := by rw [hz.length, cells_len]; exact Nat.mul_le_mul m30 n30
  walk_at "go"
  refine lcAt_open (list_open ?_)
  walk_at "go"
  have e02 := e1.trans e2
  refine ⟨D, rfl, ⟨_, SqL.of hD2⟩, fun D3 hD3 => ?_⟩
  refine items_gen (F := ArcAt m n) (G := CellAt) (fun e h => ArcAt.tk (Tk.of e) h) (fun e h => CellAt.tk e h) (goesF m n (inF R C)) (fun c => c) (SqL.of hD2) hz hD3 (by omega) ?_ ?_
  · intro v' c H3 e3 hc hv R' r1 r2
    obtain ⟨a, vc, va, x1, x2, rfl, ha, hvc, hva, p1', p2'⟩ := hv
    refine w_gtup (SqT.of ha) rfl ⟨_, _, rfl, _, _, rfl, w_gtup (SqT.of hva) rfl (w_gnn ⟨rfl, ?_⟩)⟩
    refine ⟨rfl, ?_⟩
    have hF3 := (hF.same e02).same e3
    unfold goesF at r1 r2
    walk_at "go"
    refine ⟨v, x1, R, C, _, rfl, hF3, p1', ?_⟩
    walk_at "go"
    cases h1 : inF R C (arcF m n c).1 with
    | false =>
      walk_at "go"
      exact r1 _ (Same.refl _) (by rw [h1]; rfl)
    | true =>
      walk_at "go"
      refine ⟨v, x2, R, C, _, rfl, hF3, p2', ?_⟩
      walk_at "go"
      cases h2 : inF R C (arcF m n c).2 with
      | false =>
        walk_at "go"
        exact r2 _ _ (Same.refl _) (by rw [h1, h2]; rfl) hvc
      | true =>
        walk_at "go"
        exact r1 _ (Same.refl _) (by rw [h1, h2]; rfl)
  intro H3 ys e3 hD33 hy
  rw [List.map_id'] at hy
  exact q D3 H3 ys (e02.trans e3) (e02.free hD3) hD33 hy
theorem sc_sum_shown : FnScope ["grid", "hidden", "cells", "cell"] ["grid", "hidden", "cells"] (defScope s_sum_shown) := ⟨rfl, rfl, rfl, by decide +kernel, rfl, by decide +kernel, by decide +kernel⟩
theorem ok_sum_shown (T : Tx K mg) : Ok P w K mg base 2 (He.ga K "sum_shown") ["grid", "hidden", "cells"] (spSumS K) := by
  obtain ⟨fd, F⟩ := T.f_sum_shown
  have Onumber_at := ok_number_at (P := P) (w := w) (base := base) T
  refine ⟨fd, F.ok (k := 1) sc_sum_shown (fun vs H Q E h => ?_) (fun cdv A outer s_ H vs Q E hr h => ?_), F.bindsN fun _ _ _ _ _ _ us hl => match us, hl with | [_, _, _], _ => rfl, F.kp⟩
  · obtain ⟨g, h, l, rs, t, m, n, ws, ls, hs, lc, rfl, ht, hR, m30, n30, hh, hw, lhs, bhs, hl, hlc, llc, blc, q⟩ := h
    rfl
  obtain ⟨g, h, l, rs, t, m, n, ws, ls, hs, lc, rfl, ht, hR, m30, n30, hh, hw, lhs, bhs, hl, hlc, llc, blc, q⟩ := h
  have hu65 := K3.Room.units65 hr
  have hu64 := Nat.lt_of_succ_lt hu65
  have hu0 := Nat.lt_of_le_of_lt (Nat.le_add_right _ 65) hu65
  have hu1 := Nat.lt_of_le_of_lt (Nat.add_le_add_left (show 1 ≤ 65 by decide) _) hu65
  have rnumber_at : Room 1 _ := hr.mono (by decide)
  refine ⟨_, pss_one (ps_ret (pe_callB (cr_sum (by rfl)) (by rfl) T.z_sum (by decide +kernel) (pa_cons (by exact pe_lc (own := [("cell", 3)]) (g := gName 3) (tt := (tTest (tOp (rNotInC K) (tVar 3) (tVar 1)))) (te := (tCall (spNum K) [] E0 (tCons (tVar 0) (tCons (tVar 3) tNil)))) (by rfl) sc_sum_shown.nd (pi_list (pv 2)) (blkOk_by (own := [("cell", 3)]) (N := ["grid", "hidden", "cells", "cell"]) (sc := defScope s_sum_shown) (by decide +kernel)) (fun _ _ _ _ _ => (pg_name (i := 3) sc_sum_shown.nd rfl (Or.inl rfl))) (fun _ _ _ _ _ => (pts_one (pt_cmpR (op_notInC hu65) (pv 3) (pv 1) (by rfl)))) (fun _ _ _ _ _ => (pe_f Onumber_at rnumber_at T.g_number_at (pa_cons (pv 0) (pa_cons (pv 3) pa_nil))))) pa_nil))), ?_⟩
  walk_at "go"
  refine lcAt_open (list_open ?_)
  walk_at "go"
  refine ⟨l, rfl, ⟨_, SqL.of hl⟩, fun D hD => ?_⟩
  refine items_gen (F := CellAt) (G := fun _ v (x : Int) => v = V.int x) (fun e h => CellAt.same e h) (fun _ h => h) (fun k => !decide (k ∈ hs)) (fun k => at2 t k.1 k.2) (SqL.of hl) hlc hD (by rw [hlc.length]; omega) ?_ ?_
  · intro v c H2 e2 hc hv R' r1 r2
    obtain ⟨c1, c2⟩ := blc c hc
    walk_at "go"
    refine ⟨rfl, ?_⟩
    walk_at "go"
    refine ⟨h, ws, hs, c, hv, rfl, .inl (SqL.of (e2 _ _ hh)), L2.Paired.mapP hw fun _ _ z => z.same e2, by omega, fun k hk => by have := bhs k hk; omega, ⟨by omega, by omega⟩, ?_⟩
    by_cases z : c ∈ hs
    · rw [decide_eq_true z]
      exact ⟨_, rfl, r1 _ (Same.refl _) (by rw [decide_eq_true z]; rfl)⟩
    · rw [decide_eq_false z]
      refine ⟨_, rfl, ?_⟩
      walk_at "go"
      refine ⟨g, v, rs, t, m, n, c.1, c.2, rfl, ht.same e2, hR, hv, c1, c2, ?_⟩
      exact r2 _ _ (Same.refl _) (by rw [decide_eq_false z]; rfl) rfl
  intro H2 zs e2 hD2 hz
  walk_at "go"
  refine ⟨D, _, rfl, SqL.of (by rw [hD2, paired_val hz]), ?_⟩
  exact q H2 e2
theorem sc_places_of : FnScope ["grid", "rows", "number"] ["grid"] (defScope s_places_of) := ⟨rfl, rfl, rfl, by decide +kernel, rfl, by decide +kernel, by decide +kernel⟩
theorem ok_places_of (T : Tx K mg) : Ok P w K mg base 1 (He.ga K "places_of") ["grid"] (spPlaces K) := by
  obtain ⟨fd, F⟩ := T.f_places_of
  refine ⟨fd, F.ok (k := 0) sc_places_of (fun vs H Q E h => ?_) (fun cdv A outer s_ H vs Q E hr h => ?_), F.bindsN fun _ _ _ _ _ _ us hl => match us, hl with | [_], _ => rfl, F.kp⟩
  · obtain ⟨g, rs, t, m, n, rfl, ht, hR, m1, m60, n60, q⟩ := h
    rfl
  obtain ⟨g, rs, t, m, n, rfl, ht, hR, m1, m60, n60, q⟩ := h
  have hu65 := K3.Room.units65 hr
  have hu64 := Nat.lt_of_succ_lt hu65
  have hu0 := Nat.lt_of_le_of_lt (Nat.le_add_right _ 65) hu65
  have hu1 := Nat.lt_of_le_of_lt (Nat.add_le_add_left (show 1 ≤ 65 by decide) _) hu65
  refine ⟨_, pss_cons (by exact ps_setLc (i := 1) (own := [("number", 2)]) (g := gName 2) (tt := tYes) (te := (tTup (tCons (tC (.str "row")) (tCons (tVar 2) tNil)))) (by rfl) sc_places_of.nd rfl rfl (by rfl) (pi_range1 rfl T.z_range (pa_cons (pe_callB call_len_seq (by rfl) T.z_len PySem.boot_len (pa_cons (pv 0) pa_nil)) pa_nil)) (blkOk_by (own := [("number", 2)]) (N := ["grid", "rows", "number"]) (sc := defScope s_places_of) (by decide +kernel)) (fun _ _ _ _ _ => (pg_name (i := 2) sc_places_of.nd rfl (Or.inl rfl))) (fun _ _ _ _ _ => pts_nil) (fun _ _ _ _ _ => (pe_tup (pa_cons pe_str (pa_cons (pv 2) pa_nil)))))
      (pss_one (ps_ret (pe_op op_cat (pv 1) (by exact pe_lc (own := [("number", 2)]) (g := gName 2) (tt := tYes) (te := (tTup (tCons (tC (.str "column")) (tCons (tVar 2) tNil)))) (by rfl) sc_places_of.nd (pi_range1 rfl T.z_range (pa_cons (pe_callB call_len_seq (by rfl) T.z_len PySem.boot_len (pa_cons (pe_ix ix_e (pv 0) pe_int (fun _ _ => rfl)) pa_nil)) pa_nil)) (blkOk_by (own := [("number", 2)]) (N := ["grid", "rows", "number"]) (sc := defScope s_places_of) (by decide +kernel)) (fun _ _ _ _ _ => (pg_name (i := 2) sc_places_of.nd rfl (Or.inl rfl))) (fun _ _ _ _ _ => pts_nil) (fun _ _ _ _ _ => (pe_tup (pa_cons pe_str (pa_cons (pv 2) pa_nil)))))))), ?_⟩
  have lr := ht.rows.length
  have lt := hR.1
  obtain ⟨a0, r0, ha0, hr0, hx0⟩ := row_ofG ht (i := 0) (by omega)
  have hl0 := hR.2 r0 (List.mem_of_getElem? hr0)
  walk_at "go"
  refine lcAt_open (rng_open ?_)
  walk_at "go"
  refine ⟨g, _, rfl, ht.at_.either, ?_⟩
  rw [List.length_map, lr, lt]
  refine ⟨_, rfl, by omega, by omega, fun D hD => ?_⟩
  rw [Int.toNat_natCast]
  refine range_gen (G := PlAt) (fun e h => PlAt.tk e h) (fun i => ((true, i) : Pl)) hD (by omega) ?_ (fun x H' A B ab h => ab _ _ h) ?_
  · intro i H1 e1 hi R' r
    refine w_gname ⟨rfl, ?_⟩
    walk_at "go"
    refine ⟨(by show 2 ≤ sizeLine; decide), fun a ha => ?_⟩
    exact r _ _ (Same.new ha _) ⟨a, rfl, upd_same⟩
  intro H1 z1 e1 hD1 hz1
  walk_at "go"
  refine lcAt_open (rng_open ?_)
  walk_at "go"
  refine w_ixE (ht.at_.same e1) (ref_at ha0) ?_
  walk_at "go"
  refine ⟨a0, _, rfl, (hx0.same e1).either, ?_⟩
  rw [List.length_map, hl0]
  refine ⟨_, rfl, by omega, by omega, fun D2 hD2 => ?_⟩
  rw [Int.toNat_natCast]
  refine range_gen (G := PlAt) (fun e h => PlAt.tk e h) (fun i => ((false, i) : Pl)) hD2 (by omega) ?_ (fun x H' A B ab h => ab _ _ h) ?_
  · intro i H2 e2 hi R' r
    refine w_gname ⟨rfl, ?_⟩
    walk_at "go"
    refine ⟨(by show 2 ≤ sizeLine; decide), fun a ha => ?_⟩
    exact r _ _ (Same.new ha _) ⟨a, rfl, upd_same⟩
  intro H2 z2 e2 hD22 hz2
  refine ⟨D, D2, _, _, rfl, rfl, e2 _ _ hD1, hD22, Nat.le_trans (show _ ≤ 200 by rw [hz1.length, hz2.length, List.length_map, List.length_map, List.length_range, List.length_range]; omega) (by decide), fun p hp => ?_⟩
  have e3 := Same.new hp (.lst (z1 ++ z2))
  refine q p _ (z1 ++ z2) (e1.trans (e2.trans e3)) (e1.free (e2.free hp)) upd_same ?_
  unfold allPl
  exact K3.Paired.app (L2.Paired.mapP hz1 fun _ _ y => y.same (e2.trans e3)) (L2.Paired.mapP hz2 fun _ _ y => y.same e3)
theorem sc_fence_of : FnScope ["places", "rows", "columns", "kind", "number"] ["places"] (defScope s_fence_of) := ⟨rfl, rfl, rfl, by decide +kernel, rfl, by decide +kernel, by decide +kernel⟩
theorem ok_fence_of (T : Tx K mg) : Ok P w K mg base 1 (He.ga K "fence_of") ["places"] (spFenceOf K) := by
  obtain ⟨fd, F⟩ := T.f_fence_of
  refine ⟨fd, F.ok (k := 0) sc_fence_of (fun vs H Q E h => ?_) (fun cdv A outer s_ H vs Q E hr h => ?_), F.bindsN fun _ _ _ _ _ _ us hl => match us, hl with | [_], _ => rfl, F.kp⟩
  · obtain ⟨l, ws, ps, m, n, rfl, hl, hw, nd, hb, m60, n60, q⟩ := h
    rfl
  obtain ⟨l, ws, ps, m, n, rfl, hl, hw, nd, hb, m60, n60, q⟩ := h
  have hu65 := K3.Room.units65 hr
  have hu64 := Nat.lt_of_succ_lt hu65
  have hu0 := Nat.lt_of_le_of_lt (Nat.le_add_right _ 65) hu65
  have hu1 := Nat.lt_of_le_of_lt (Nat.add_le_add_left (show 1 ≤ 65 by decide) _) hu65
  refine ⟨_, pss_cons (ps_set (i := 1) sc_fence_of.nd rfl (Or.inl rfl) (pe_callB cr_sorted (by rfl) T.z_sorted (by decide +kernel) (pa_cons (by exact pe_lc (own := [("kind", 3), ("number", 4)]) (g := gTup K 2 (gCons (gName 3) (gCons (gName 4) gNil))) (tt := (tTest (tOp rEq (tVar 3) (tC (.str "row"))))) (te := (tVar 4)) (by rfl) sc_fence_of.nd (pi_list (pv 0)) (blkOk_by (own := [("kind", 3), ("number", 4)]) (N := ["places", "rows", "columns", "kind", "number"]) (sc := defScope s_fence_of) (by decide +kernel)) (fun _ _ _ _ _ => (pg_tup (by rfl) (pgs_cons (pg_name (i := 3) sc_fence_of.nd rfl (Or.inl rfl)) (pgs_cons (pg_name (i := 4) sc_fence_of.nd rfl (Or.inl rfl)) pgs_nil)))) (fun _ _ _ _ _ => (pts_one (pt_cmpR op_eq (pv 3) pe_str (nomark _)))) (fun _ _ _ _ _ => (pv 4))) pa_nil)))
      (pss_cons (ps_set (i := 2) sc_fence_of.nd rfl (Or.inl rfl) (pe_callB cr_sorted (by rfl) T.z_sorted (by decide +kernel) (pa_cons (by exact pe_lc (own := [("kind", 3), ("number", 4)]) (g := gTup K 2 (gCons (gName 3) (gCons (gName 4) gNil))) (tt := (tTest (tOp rEq (tVar 3) (tC (.str "column"))))) (te := (tVar 4)) (by rfl) sc_fence_of.nd (pi_list (pv 0)) (blkOk_by (own := [("kind", 3), ("number", 4)]) (N := ["places", "rows", "columns", "kind", "number"]) (sc := defScope s_fence_of) (by decide +kernel)) (fun _ _ _ _ _ => (pg_tup (by rfl) (pgs_cons (pg_name (i := 3) sc_fence_of.nd rfl (Or.inl rfl)) (pgs_cons (pg_name (i := 4) sc_fence_of.nd rfl (Or.inl rfl)) pgs_nil)))) (fun _ _ _ _ _ => (pts_one (pt_cmpR op_eq (pv 3) pe_str (nomark _)))) (fun _ _ _ _ _ => (pv 4))) pa_nil)))
      (pss_one (ps_ret (pe_tup (pa_cons (pe_callTy call_tuple_of (by rfl) T.z_tuple (by decide +kernel) (pa_cons (pv 1) pa_nil)) (pa_cons (pe_callTy call_tuple_of (by rfl) T.z_tuple (by decide +kernel) (pa_cons (pv 2) pa_nil)) pa_nil)))))), ?_⟩
  have lp : ps.length ≤ 120 := by
    have := nodup_len nd (k := allPl m n) fun p hp => allPl_mem (hb p hp)
    unfold allPl at this
    rw [List.length_append, List.length_map, List.length_map, List.length_range, List.length_range] at this
    omega
  have kl : ∀ k : Bool, (ps.filter fun p => decide (p.1 = k)).length ≤ 60 := fun k => by
    have nd2 : (ps.filter fun p => decide (p.1 = k)).Nodup := List.Pairwise.sublist List.filter_sublist nd
    have := nodup_len nd2 (k := (List.range 60).map fun i => (k, i)) fun p hp => by
      obtain ⟨h1, h2⟩ := List.mem_filter.mp hp
      have h2 := of_decide_eq_true h2
      have h3 := hb p h1
      refine List.mem_map.mpr ⟨p.2, List.mem_range.mpr ?_, by rw [← h2]⟩
      unfold inPl at h3
      revert h3
      cases p.1 <;> intro h3 <;> simp at h3 <;> omega
    rw [List.length_map, List.length_range] at this
    exact this
  walk_at "go"
  refine lcAt_open (list_open ?_)
  walk_at "go"
  refine ⟨l, rfl, ⟨_, SqL.of hl⟩, fun D hD => ?_⟩
  refine items_gen (F := PlAt) (G := fun _ v (x : Int) => v = V.int x) (fun e h => PlAt.same e h) (fun _ h => h) (fun p => decide (p.1 = true)) (fun p => (p.2 : Int)) (SqL.of hl) hw hD (by rw [hw.length]; omega) ?_ ?_
  · rintro v ⟨k, i⟩ H2 e2 hc ⟨x, rfl, hx⟩ R' r1 r2
    cases k with
    | true =>
      have hx : H2 x = some (.tup [V.str ("row" : Str), V.int (i : Int)]) := hx
      refine w_gtup (SqT.of hx) rfl (w_gnn ⟨rfl, ?_⟩)
      walk_at "go"
      refine ⟨rfl, ?_⟩
      rw [decide_eq_true rfl]
      refine ⟨_, rfl, ?_⟩
      walk_at "go"
      exact r2 _ _ (Same.refl _) rfl rfl
    | false =>
      have hx : H2 x = some (.tup [V.str ("column" : Str), V.int (i : Int)]) := hx
      refine w_gtup (SqT.of hx) rfl (w_gnn ⟨rfl, ?_⟩)
      walk_at "go"
      refine ⟨rfl, ?_⟩
      rw [show decide (V.str ("column" : Str) = V.str ("row" : Str)) = false by decide]
      refine ⟨_, rfl, ?_⟩
      exact r1 _ (Same.refl _) rfl
  intro H2 zs e2 hD2 hz
  walk_at "go"
  refine ⟨D, _, rfl, SqL.of (by rw [hD2, paired_val hz]), by rw [List.length_map]; have := kl true; omega, fun ns p3 pm sr hp3 => ?_⟩
  have e3 := Same.new hp3 (.lst (ns.map V.int))
  have eR : ns = rowsOf m fun p => decide (p ∈ ps) := kind_sorted nd (fun p hp hk => by have := hb p hp; unfold inPl at this; rw [hk] at this; exact this) pm sr
  have h3 : (upd H2 p3 (.lst (ns.map V.int))) p3 = some (.lst (ns.map V.int)) := upd_same
  generalize upd H2 p3 (.lst (ns.map V.int)) = H3 at e3 h3 ⊢
  have e03 := e2.trans e3
  walk_at "go"
  refine lcAt_open (list_open ?_)
  walk_at "go"
  refine ⟨l, rfl, ⟨_, SqL.of (e03 _ _ hl)⟩, fun D4 hD4 => ?_⟩
  refine items_gen (F := PlAt) (G := fun _ v (x : Int) => v = V.int x) (fun e h => PlAt.same e h) (fun _ h => h) (fun p => decide (p.1 = false)) (fun p => (p.2 : Int)) (SqL.of (e03 _ _ hl)) (L2.Paired.mapP hw fun _ _ y => y.same e03) hD4 (by rw [hw.length]; omega) ?_ ?_
  · rintro v ⟨k, i⟩ H5 e5 hc ⟨x, rfl, hx⟩ R' r1 r2
    cases k with
    | true =>
      have hx : H5 x = some (.tup [V.str ("row" : Str), V.int (i : Int)]) := hx
      refine w_gtup (SqT.of hx) rfl (w_gnn ⟨rfl, ?_⟩)
      walk_at "go"
      refine ⟨rfl, ?_⟩
      rw [show decide (V.str ("row" : Str) = V.str ("column" : Str)) = false by decide]
      refine ⟨_, rfl, ?_⟩
      exact r1 _ (Same.refl _) rfl
    | false =>
      have hx : H5 x = some (.tup [V.str ("column" : Str), V.int (i : Int)]) := hx
      refine w_gtup (SqT.of hx) rfl (w_gnn ⟨rfl, ?_⟩)
      walk_at "go"
      refine ⟨rfl, ?_⟩
      rw [decide_eq_true rfl]
      refine ⟨_, rfl, ?_⟩
      walk_at "go"
      exact r2 _ _ (Same.refl _) rfl rfl
  intro H5 ys e5 hD5 hy
  walk_at "go"
  refine ⟨D4, _, rfl, SqL.of (by rw [hD5, paired_val hy]), by rw [List.length_map]; have := kl false; omega, fun ns2 p6 pm2 sr2 hp6 => ?_⟩
  have e6 := Same.new hp6 (.lst (ns2.map V.int))
  have eC : ns2 = colsOf n fun p => decide (p ∈ ps) := kind_sorted nd (fun p hp hk => by have := hb p hp; unfold inPl at this; rw [hk] at this; exact this) pm2 sr2
  have h6 : (upd H5 p6 (.lst (ns2.map V.int))) p6 = some (.lst (ns2.map V.int)) := upd_same
  generalize upd H5 p6 (.lst (ns2.map V.int)) = H6 at e6 h6 ⊢
  have h36 := e6 _ _ (e5 _ _ h3)
  walk_at "go"
  refine ⟨p3, _, rfl, .inl ⟨SqL.of h36, fun t1 ht1 => ?_⟩⟩
  have e7 := Same.new ht1 (.tup (ns.map V.int))
  have h7 : (upd H6 t1 (.tup (ns.map V.int))) t1 = some (.tup (ns.map V.int)) := upd_same
  generalize upd H6 t1 (.tup (ns.map V.int)) = H7 at e7 h7 ⊢
  walk_at "go"
  refine ⟨p6, _, rfl, .inl ⟨SqL.of (e7 _ _ h6), fun t2 ht2 => ?_⟩⟩
  have e8 := Same.new ht2 (.tup (ns2.map V.int))
  have h8 : (upd H7 t2 (.tup (ns2.map V.int))) t2 = some (.tup (ns2.map V.int)) := upd_same
  generalize upd H7 t2 (.tup (ns2.map V.int)) = H8 at e8 h8 ⊢
  walk_at "go"
  refine ⟨(by show 2 ≤ sizeLine; decide), fun a ha => ?_⟩
  have e9 := Same.new ha (.tup [V.ref t1, V.ref t2])
  refine q _ _ (e03.trans (e5.trans (e6.trans (e7.trans (e8.trans e9))))) ⟨a, t1, t2, rfl, SqT.of upd_same, ?_, ?_⟩
  · rw [← eR]
    exact SqT.of (e9 _ _ (e8 _ _ h7))
  · rw [← eC]
    exact SqT.of (e9 _ _ h8)
end
end K3
end F11_part
section F12_part
set_option Elab.async false
set_option linter.all false
set_option maxRecDepth 100000
set_option maxHeartbeats 1000000
set_option pp.deepTerms.threshold 5
open PySem PySem.Spec PyProof.Rows L2
/-- go on as far as nothing is open -/
local macro_rules | `(tactic| walk_at "go") => `(tactic| repeat (first
  | with_reducible refine w_seq ?_ | with_reducible refine w_next ?_ | with_reducible refine w_set ?_ | with_reducible refine w_drop ?_ | with_reducible refine w_ret ?_ | with_reducible refine w_retN ?_
  | with_reducible refine w_if ?_ | ((with_reducible refine' w_var ?hv ?_); (case hv => exact rfl)) | with_reducible refine w_c ?_ | with_reducible refine w_nil ?_ | with_reducible refine w_cons ?_ | with_reducible refine w_op ?_ | with_reducible refine w_un ?_
  | with_reducible refine w_test ?_ | with_reducible refine w_tB ?_ | with_reducible refine w_not ?_ | with_reducible refine w_and ?_ | with_reducible refine w_or ?_ | with_reducible refine w_bl ?_
  | with_reducible refine w_andV ?_ | with_reducible refine w_orV ?_ | with_reducible refine w_notV ?_ | with_reducible refine w_ifE ?_ | with_reducible refine w_chain ?_ | with_reducible refine w_i0 ?_
  | with_reducible refine w_call ?_ | with_reducible refine w_callS ?_ | with_reducible refine w_cB ?_ | with_reducible refine w_tup ?_ | with_reducible refine w_lst ?_ | with_reducible refine w_fldV ?_
  | with_reducible refine w_neF ?_ | with_reducible refine w_neT ?_ | with_reducible refine w_notN ?_ | with_reducible refine w_isN ?_ | with_reducible refine w_gname ?_ | with_reducible refine w_gsub ?_ | with_reducible refine w_asg ?_ | with_reducible refine w_sl ?_ | with_reducible refine w_noP ?_ | with_reducible refine w_int1 ?_ | with_reducible refine w_part ?_ | with_reducible refine w_yes ?_ | with_reducible refine w_nT ?_ | with_reducible refine w_nF ?_ | with_reducible refine w_iteT ?_ | with_reducible refine w_iteF ?_))
namespace K3
theorem any_cell (k : Nat × Nat) : ∀ cs : List (Nat × Nat), ((cs.map cellD).any fun z => PyData.eqv z (cellD k)) = decide (k ∈ cs)
  | [] => rfl
  | x :: cs => by
    rw [List.map_cons, List.any_cons, any_cell k cs, cell_eqv]
    by_cases h : x = k
    · subst h
      simp
    · have : ¬ k = x := fun z => h z.symm
      simp [h, this]
theorem cells_shaped (cs : List (Nat × Nat)) : SeqAt.shaped (.list (cs.map cellD)) = true := by
  obtain ⟨a, b⟩ := lay_cells cs
  unfold SeqAt.shaped
  rw [show (PyData.list (cs.map cellD)).canLay0 = true by simpa only [PyData.canLay0] using a, decide_eq_true (by simp only [PyData.depth]; omega : (PyData.list (cs.map cellD)).depth ≤ 64)]
  rfl
theorem rows_congr {m n : Nat} {F G : Pl → Bool} (h : ∀ p, inPl m n p → F p = G p) : rowsOf m F = rowsOf m G ∧ colsOf n F = colsOf n G := by
  unfold rowsOf colsOf
  constructor
  · congr 1
    exact List.filter_congr fun i hi => h (true, i) (List.mem_range.mp hi)
  · congr 1
    exact List.filter_congr fun i hi => h (false, i) (List.mem_range.mp hi)
theorem allPl_nodup (m n : Nat) : (allPl m n).Nodup := by
  unfold allPl
  rw [List.nodup_append]
  refine ⟨?_, ?_, fun a ha b hb z => ?_⟩
  · exact (List.pairwise_map.mpr (List.Pairwise.imp (fun h e => h (by simpa using e)) List.nodup_range))
  · exact (List.pairwise_map.mpr (List.Pairwise.imp (fun h e => h (by simpa using e)) List.nodup_range))
  · obtain ⟨i, _, rfl⟩ := List.mem_map.mp ha
    obtain ⟨j, _, rfl⟩ := List.mem_map.mp hb
    cases z
theorem allPl_in {m n : Nat} {p : Pl} (h : p ∈ allPl m n) : inPl m n p := by
  unfold allPl at h
  rcases List.mem_append.mp h with h | h
  · obtain ⟨i, hi, rfl⟩ := List.mem_map.mp h
    exact List.mem_range.mp hi
  · obtain ⟨i, hi, rfl⟩ := List.mem_map.mp h
    exact List.mem_range.mp hi
theorem keys_at {H : Hp} : ∀ {kvs : List (List L2.Key × V)} {came : Came} {bs : List Addr}, Paired (CE H) kvs came → IsKeys H kvs bs → Paired (PlAt H) (bs.map V.ref) (keysOf came)
  | _, _, _, .nil, .nil => .nil
  | _, _, _, .cons h t, .cons h' t' => .cons ⟨_, rfl, by rw [← h.1]; exact h'⟩ (keys_at t t')
def spBound (K : PySem.W.Frag) : Sp := fun vs H Q _ => ∃ (g : Addr) (hv v fv : V) (rs : List Addr) (t : List (List Int)) (m n : Nat) (hs : List (Nat × Nat)) (c : Nat × Nat) (R C : List Int), vs = [.ref g, hv, v, fv] ∧ GT K H g rs t ∧ Rect t m n ∧ 1 ≤ m ∧ 1 ≤ n ∧ m ≤ 30 ∧ n ≤ 30 ∧ HidIn K H hv hs m n ∧ CellAt H v c ∧ c ∈ hs ∧ FenceAt K H fv R C ∧
  ∀ a H', Same H H' → H' a = some (.tup [optV (boundF t hs m n (inF R C) c).1, optV (boundF t hs m n (inF R C) c).2]) → Q (.ref a) H'
def spFences (K : PySem.W.Frag) : Sp := fun vs H Q _ => ∃ (g : Addr) (hv v : V) (rs : List Addr) (t : List (List Int)) (m n : Nat) (hs : List (Nat × Nat)) (c : Nat × Nat), vs = [.ref g, hv, v] ∧ GT K H g rs t ∧ Rect t m n ∧ 1 ≤ m ∧ 1 ≤ n ∧ m ≤ 30 ∧ n ≤ 30 ∧ HidIn K H hv hs m n ∧ CellAt H v c ∧ c ∈ hs ∧ 0 ≤ at2 t c.1 c.2 ∧ 0 ≤ roomF m n t c ∧
  ∀ cs a v1 v2 H', (∀ k, k ∈ cs ↔ k ∈ hs) → Srt cs → Same H H' → H' a = some (.tup [v1, v2]) → FenceT K H' v1 (rowsOf m (firstF m n cs t c)) (colsOf n (firstF m n cs t c)) → FenceT K H' v2 (rowsOf m (secondF m n cs t c)) (colsOf n (secondF m n cs t c)) → Q (.ref a) H'
section
variable {P : Program} {w : World} {K : PySem.W.Frag} {mg : Str → Option Value} {base : Heap}
theorem sc_bound : FnScope ["grid", "hidden", "cell", "fence", "cells", "coming", "going", "rest", "other_comes", "one_goes", "other"] ["grid", "hidden", "cell", "fence"] (defScope s_bound) := ⟨rfl, rfl, rfl, by decide +kernel, rfl, by decide +kernel, by decide +kernel⟩
theorem ok_bound (T : Tx K mg) : OkK P w K mg base 5 (He.ga K "bound") ["grid", "hidden", "cell", "fence"] 2 ["cell", "fence"] (spBound K) := by
  obtain ⟨fd, F⟩ := T.f_bound
  have Osum_shown := ok_sum_shown (P := P) (w := w) (base := base) T
  have Ogoing_out := ok_going_out (P := P) (w := w) (base := base) T
  have Ocoming_in := ok_coming_in (P := P) (w := w) (base := base) T
  have Orefuse_shown := ok_refuse_shown (P := P) (w := w) (base := base) T
  have Oread_hidden := ok_read_hidden (P := P) (w := w) (base := base) T
  refine ⟨fd, F.ok (k := 4) sc_bound (fun vs H Q E h => ?_) (fun cdv A outer s_ H vs Q E hr h => ?_), kb_of F fun _ _ _ _ _ _ us ws h1 h2 => match us, ws, h1, h2 with | [_, _], [_, _], _, _ => rfl, F.kp⟩
  · obtain ⟨g, hv, v, fv, rs, t, m, n, hs, c, R, C, rfl, _⟩ := h
    rfl
  obtain ⟨g, hv, v, fv, rs, t, m, n, hs, c, R, C, rfl, ht, hR, m1, n1, m30, n30, hh, hcv, hc, hF, q⟩ := h
  have hu65 := K3.Room.units65 hr
  have hu64 := Nat.lt_of_succ_lt hu65
  have rsum_shown : Room 2 _ := hr.mono (by decide)
  have rgoing_out : Room 3 _ := hr.mono (by decide)
  have rcoming_in : Room 3 _ := hr.mono (by decide)
  have rrefuse_shown : Room 2 _ := hr.mono (by decide)
  have rread_hidden : Room 2 _ := hr.mono (by decide)
  refine ⟨_, pss_cons (ps_set (i := 4) sc_bound.nd rfl (Or.inr rfl) (pe_f Oread_hidden rread_hidden T.g_read_hidden (pa_cons (pv 0) (pa_cons (pv 1) pa_nil))))
      (pss_cons (ps_expr (pe_f Orefuse_shown rrefuse_shown T.g_refuse_shown (pa_cons (pv 0) (pa_cons (pv 4) (pa_cons (pv 2) pa_nil)))))
      (pss_cons (ps_set (i := 5) sc_bound.nd rfl (Or.inl rfl) (pe_f Ocoming_in rcoming_in T.g_coming_in (pa_cons (pv 0) (pa_cons (pv 3) pa_nil))))
      (pss_cons (ps_set (i := 6) sc_bound.nd rfl (Or.inl rfl) (pe_f Ogoing_out rgoing_out T.g_going_out (pa_cons (pv 0) (pa_cons (pv 3) pa_nil))))
      (pss_cons (ps_if (pt_cmpR (op_notInC hu65) (pv 2) (pv 5) (by rfl)) (pss_one (ps_ret (pe_tup (pa_cons pe_non (pa_cons pe_non pa_nil))))) pss_nil)
      (pss_cons (ps_set (i := 7) sc_bound.nd rfl (Or.inl rfl) (pe_op op_sub (pe_f Osum_shown rsum_shown T.g_sum_shown (pa_cons (pv 0) (pa_cons (pv 4) (pa_cons (pv 6) pa_nil)))) (pe_f Osum_shown rsum_shown T.g_sum_shown (pa_cons (pv 0) (pa_cons (pv 4) (pa_cons (pv 5) pa_nil))))))
      (pss_cons (ps_set (i := 8) sc_bound.nd rfl (Or.inl rfl) (pe_callB (cr_any (by rfl)) (by rfl) T.z_any (by decide +kernel) (pa_cons (by exact pe_lc (own := [("other", 10)]) (g := gName 10) (tt := (tTest (tOp (rNeD K) (tVar 10) (tVar 2)))) (te := (tOp (rInD K) (tVar 10) (tVar 4))) (by rfl) sc_bound.nd (pi_list (pv 5)) (blkOk_by (own := [("other", 10)]) (N := ["grid", "hidden", "cell", "fence", "cells", "coming", "going", "rest", "other_comes", "one_goes", "other"]) (sc := defScope s_bound) (by decide +kernel)) (fun _ _ _ _ _ => (pg_name (i := 10) sc_bound.nd rfl (Or.inl rfl))) (fun _ _ _ _ _ => (pts_one (pt_cmpR (op_neD hu64) (pv 10) (pv 2) (nomark _)))) (fun _ _ _ _ _ => (pe_cmpR (op_inD hu65) (pv 10) (pv 4) rfl))) pa_nil)))
      (pss_cons (ps_set (i := 9) sc_bound.nd rfl (Or.inl rfl) (pe_callB (cr_any (by rfl)) (by rfl) T.z_any (by decide +kernel) (pa_cons (by exact pe_lc (own := [("other", 10)]) (g := gName 10) (tt := tYes) (te := (tOp (rInD K) (tVar 10) (tVar 4))) (by rfl) sc_bound.nd (pi_list (pv 6)) (blkOk_by (own := [("other", 10)]) (N := ["grid", "hidden", "cell", "fence", "cells", "coming", "going", "rest", "other_comes", "one_goes", "other"]) (sc := defScope s_bound) (by decide +kernel)) (fun _ _ _ _ _ => (pg_name (i := 10) sc_bound.nd rfl (Or.inl rfl))) (fun _ _ _ _ _ => pts_nil) (fun _ _ _ _ _ => (pe_cmpR (op_inD hu65) (pv 10) (pv 4) rfl))) pa_nil)))
      (pss_one (ps_ret (pe_tup (pa_cons (pe_ifExp (pt_val (pv 8)) pe_non (pv 7)) (pa_cons (pe_ifExp (pt_val (pv 9)) pe_non (pv 7)) pa_nil)))))))))))), ?_⟩
  walk_at "go"
  refine ⟨g, hv, rs, t, m, n, hs, rfl, ht, hR, m1, n1, by omega, by omega, hh, fun l H1 ws cs e1 h1 hw1 hcs lcs srt => ?_⟩
  have inn : ∀ k ∈ cs, k.1 < m ∧ k.2 < n := fun k hk => by
    obtain ⟨p, wp, _, _, _, hmem, _⟩ := hh
    have := drop_mem m1 n1 (hmem k ((hcs k).mp hk))
    exact ⟨this.1, this.2.1⟩
  have hc' : c ∈ cs := (hcs c).mpr hc
  obtain ⟨c1, c2⟩ := inn c hc'
  rw [bound_mem fun k => (hcs k).symm] at q
  walk_at "go"
  refine ⟨g, l, v, rs, t, m, n, ws, cs, c, rfl, ht.same e1, hR, by omega, by omega, h1, hw1, lcs, inn, hcv.same e1, hc', ?_⟩
  walk_at "go"
  refine ⟨g, fv, rs, t, m, n, R, C, rfl, ht.same e1, hR, m1, n1, m30, n30, hF.same e1, fun p2 H2 w2 e2 hp2 h2 hw2 => ?_⟩
  walk_at "go"
  have e12 := e1.trans e2
  refine ⟨g, fv, rs, t, m, n, R, C, rfl, ht.same e12, hR, m1, n1, m30, n30, hF.same e12, fun p3 H3 w3 e3 hp3 h3 hw3 => ?_⟩
  have e13 := e12.trans e3
  have e23 := e2.trans e3
  have h23 := e3 _ _ h2
  have hw23 := L2.Paired.mapP hw2 fun _ _ z => z.same e3
  have hl3 := e23 _ _ h1
  have hw13 := L2.Paired.mapP hw1 fun _ _ z => z.same e23
  have ht3 := ht.same e13
  have hcv3 := hcv.same e13
  generalize hG : inF R C = G at q hw23 hw3
  have lall : ∀ p : Nat × Nat → Bool, ((cellsOf m n).filter p).length ≤ 900 := fun p => by
    refine Nat.le_trans (List.length_filter_le _ _) ?_
    rw [cells_len]
    exact Nat.mul_le_mul m30 n30
  have lco : (comeL m n G).length ≤ 900 := lall _
  have lgo : (goL m n G).length ≤ 900 := lall _
  have bco : ∀ k ∈ comeL m n G, k.1 < m ∧ k.2 < n := fun k hk => (come_mem.mp hk).1
  have bgo : ∀ k ∈ goL m n G, k.1 < m ∧ k.2 < n := fun k hk => (go_mem.mp hk).1
  walk_at "go"
  refine ⟨p2, w2, comeL m n G, c, hcv3, rfl, .inl (SqL.of h23), hw23, by omega, fun k hk => by have := bco k hk; omega, ⟨by omega, by omega⟩, ?_⟩
  walk_at "go"
  by_cases hcm : c ∈ comeL m n G
  · have hcf := (come_mem.mp hcm).2
    rw [decide_eq_true hcm]
    walk_at "go"
    refine ⟨g, l, p3, rs, t, m, n, ws, w3, cs, goL m n G, rfl, ht3, hR, m30, n30, hl3, hw13, lcs, fun k hk => by have := inn k hk; omega, h3, hw3, lgo, bgo, fun H4 e4 => ?_⟩
    walk_at "go"
    refine ⟨g, l, p2, rs, t, m, n, ws, w2, cs, comeL m n G, rfl, ht3.same e4, hR, m30, n30, e4 _ _ hl3, L2.Paired.mapP hw13 fun _ _ z => z.same e4, lcs, fun k hk => by have := inn k hk; omega, e4 _ _ h23, L2.Paired.mapP hw23 fun _ _ z => z.same e4, lco, bco, fun H5 e5 => ?_⟩
    have e45 := e4.trans e5
    walk_at "go"
    refine lcAt_open (list_open ?_)
    walk_at "go"
    refine ⟨p2, rfl, ⟨_, SqL.of (e45 _ _ h23)⟩, fun D hD => ?_⟩
    refine items_gen (F := CellAt) (G := fun _ v (x : Bool) => v = V.bl x) (fun e h => CellAt.same e h) (fun _ h => h) (fun k => !decide (k = c)) (fun k => decide (k ∈ cs)) (SqL.of (e45 _ _ h23)) (L2.Paired.mapP hw23 fun _ _ z => z.same e45) hD (by rw [hw23.length]; omega) ?_ ?_
    · intro vk k H6 e6 hk hvk R' r1 r2
      have e56 := e45.trans e6
      walk_at "go"
      refine ⟨rfl, ?_⟩
      walk_at "go"
      refine ⟨cellD k, cellD c, cell_dp hvk, cell_dp (hcv3.same e56), cell_shaped _, cell_shaped _, ?_⟩
      rw [cell_eqv]
      by_cases z : k = c
      · rw [decide_eq_true z]
        exact ⟨_, rfl, r1 _ (Same.refl _) (by rw [decide_eq_true z]; rfl)⟩
      · rw [decide_eq_false z]
        refine ⟨_, rfl, ?_⟩
        walk_at "go"
        refine ⟨cellD k, cs.map cellD, cell_dp hvk, Dp.lst (SqL.of (e56 _ _ hl3)) (cells_dp (L2.Paired.mapP hw13 fun _ _ y => y.same e56)), cell_shaped _, cells_shaped _, ?_⟩
        rw [any_cell]
        exact r2 _ _ (Same.refl _) (by rw [decide_eq_false z]; rfl) rfl
    intro H6 zs e6 hD6 hz
    walk_at "go"
    refine ⟨D, _, rfl, SqL.of (by rw [hD6, paired_val hz]), ?_⟩
    have e46 := e45.trans e6
    walk_at "go"
    refine lcAt_open (list_open ?_)
    walk_at "go"
    refine ⟨p3, rfl, ⟨_, SqL.of (e46 _ _ h3)⟩, fun D7 hD7 => ?_⟩
    refine items_gen (F := CellAt) (G := fun _ v (x : Bool) => v = V.bl x) (fun e h => CellAt.same e h) (fun _ h => h) (fun _ => true) (fun k => decide (k ∈ cs)) (SqL.of (e46 _ _ h3)) (L2.Paired.mapP hw3 fun _ _ z => z.same e46) hD7 (by rw [hw3.length]; omega) ?_ ?_
    · intro vk k H8 e8 hk hvk R' r1 r2
      have e48 := e46.trans e8
      walk_at "go"
      refine ⟨rfl, ?_⟩
      walk_at "go"
      refine ⟨cellD k, cs.map cellD, cell_dp hvk, Dp.lst (SqL.of (e48 _ _ hl3)) (cells_dp (L2.Paired.mapP hw13 fun _ _ y => y.same e48)), cell_shaped _, cells_shaped _, ?_⟩
      rw [any_cell]
      exact r2 _ _ (Same.refl _) rfl rfl
    intro H8 ys e8 hD8 hy
    walk_at "go"
    refine ⟨D7, _, rfl, SqL.of (by rw [hD8, paired_val hy]), ?_⟩
    have b1 : (((comeL m n G).filter fun k => !decide (k = c)).map fun k => decide (k ∈ cs)).any id = (comeL m n G).any fun k => decide (k ≠ c) && decide (k ∈ cs) := by
      rw [List.any_map, List.any_filter]
      congr 1
      funext k
      simp
    have b2 : (((goL m n G).filter fun _ => true).map fun k => decide (k ∈ cs)).any id = (goL m n G).any fun k => decide (k ∈ cs) := by
      rw [List.any_map, List.any_filter]
      congr 1
    rw [b1, b2]
    have bnd : boundF t cs m n G c = (if ((comeL m n G).any fun k => decide (k ≠ c) && decide (k ∈ cs)) = true then none else some (restF t cs m n G), if ((goL m n G).any fun k => decide (k ∈ cs)) = true then none else some (restF t cs m n G)) := by
      unfold boundF
      rw [if_pos hcf]
    rw [bnd] at q
    generalize ((comeL m n G).any fun k => decide (k ≠ c) && decide (k ∈ cs)) = B1 at q ⊢
    generalize ((goL m n G).any fun k => decide (k ∈ cs)) = B2 at q ⊢
    have rest : shownS t cs (goL m n G) - shownS t cs (comeL m n G) = restF t cs m n G := rfl
    rw [rest]
    have eA := e13.trans (e46.trans e8)
    walk_at "go"
    cases B1 with
    | true =>
      walk_at "go"
      cases B2 with
      | true =>
        walk_at "go"
        exact ⟨(by show 2 ≤ sizeLine; decide), fun a ha => q a _ (eA.trans (Same.new ha _)) upd_same⟩
      | false =>
        walk_at "go"
        exact ⟨(by show 2 ≤ sizeLine; decide), fun a ha => q a _ (eA.trans (Same.new ha _)) upd_same⟩
    | false =>
      walk_at "go"
      cases B2 with
      | true =>
        walk_at "go"
        exact ⟨(by show 2 ≤ sizeLine; decide), fun a ha => q a _ (eA.trans (Same.new ha _)) upd_same⟩
      | false =>
        walk_at "go"
        exact ⟨(by show 2 ≤ sizeLine; decide), fun a ha => q a _ (eA.trans (Same.new ha _)) upd_same⟩
  · rw [decide_eq_false hcm]
    walk_at "go"
    have bnd : boundF t cs m n G c = (none, none) := by
      unfold boundF
      rw [if_neg fun z => hcm (come_mem.mpr ⟨⟨c1, c2⟩, z⟩)]
    rw [bnd] at q
    exact ⟨(by show 2 ≤ sizeLine; decide), fun a ha => q a _ (e13.trans (Same.new ha _)) upd_same⟩
theorem sc_fences : FnScope ["grid", "hidden", "cell", "cells", "start", "goal", "least", "most", "first", "come_to", "place"] ["grid", "hidden", "cell"] (defScope s_fences) := ⟨rfl, rfl, rfl, by decide +kernel, rfl, by decide +kernel, by decide +kernel⟩
theorem ok_fences (T : Tx K mg) : OkK P w K mg base 8 (He.ga K "fences") ["grid", "hidden", "cell"] 2 ["cell"] (spFences K) := by
  obtain ⟨fd, F⟩ := T.f_fences
  have Oways_from := ok_ways_from (P := P) (w := w) (base := base) T
  have Ofence_of := ok_fence_of (P := P) (w := w) (base := base) T
  have Oplaces_of := ok_places_of (P := P) (w := w) (base := base) T
  have Omost_flow := ok_most_flow (P := P) (w := w) (base := base) T
  have Oleast_flow := ok_least_flow (P := P) (w := w) (base := base) T
  have Oarc_of := ok_arc_of (P := P) (w := w) (base := base) T
  have Orefuse_shown := ok_refuse_shown (P := P) (w := w) (base := base) T
  have Oread_hidden := ok_read_hidden (P := P) (w := w) (base := base) T
  refine ⟨fd, F.ok (k := 7) sc_fences (fun vs H Q E h => ?_) (fun cdv A outer s_ H vs Q E hr h => ?_), kb_of F fun _ _ _ _ _ _ us ws h1 h2 => match us, ws, h1, h2 with | [_, _], [_], _, _ => rfl, F.kp⟩
  · obtain ⟨g, hv, v, rs, t, m, n, hs, c, rfl, _⟩ := h
    rfl
  obtain ⟨g, hv, v, rs, t, m, n, hs, c, rfl, ht, hR, m1, n1, m30, n30, hh, hcv, hc, h0, hrm, q⟩ := h
  have hu65 := K3.Room.units65 hr
  have hu64 := Nat.lt_of_succ_lt hu65
  have hu1 := Nat.lt_of_le_of_lt (Nat.add_le_add_left (show 1 ≤ 65 by decide) _) hu65
  have rways_from : Room 2 _ := hr.mono (by decide)
  have rfence_of : Room 1 _ := hr.mono (by decide)
  have rplaces_of : Room 1 _ := hr.mono (by decide)
  have rmost_flow : Room 7 _ := hr.mono (by decide)
  have rleast_flow : Room 7 _ := hr.mono (by decide)
  have rarc_of : Room 2 _ := hr.mono (by decide)
  have rrefuse_shown : Room 2 _ := hr.mono (by decide)
  have rread_hidden : Room 2 _ := hr.mono (by decide)
  refine ⟨_, pss_cons (ps_set (i := 3) sc_fences.nd rfl (Or.inl rfl) (pe_f Oread_hidden rread_hidden T.g_read_hidden (pa_cons (pv 0) (pa_cons (pv 1) pa_nil))))
      (pss_cons (ps_expr (pe_f Orefuse_shown rrefuse_shown T.g_refuse_shown (pa_cons (pv 0) (pa_cons (pv 3) (pa_cons (pv 2) pa_nil)))))
      (pss_cons (ps_asg (pe_f Oarc_of rarc_of T.g_arc_of (pa_cons (pv 0) (pa_cons (pv 2) pa_nil))) (pg_tup (by rfl) (pgs_cons (pg_name (i := 4) sc_fences.nd rfl (Or.inl rfl)) (pgs_cons (pg_name (i := 5) sc_fences.nd rfl (Or.inl rfl)) pgs_nil))))
      (pss_cons (ps_set (i := 6) sc_fences.nd rfl (Or.inl rfl) (pe_f Oleast_flow rleast_flow T.g_least_flow (pa_cons (pv 0) (pa_cons (pv 3) (pa_cons (pv 2) pa_nil)))))
      (pss_cons (ps_set (i := 7) sc_fences.nd rfl (Or.inl rfl) (pe_f Omost_flow rmost_flow T.g_most_flow (pa_cons (pv 0) (pa_cons (pv 3) (pa_cons (pv 2) pa_nil)))))
      (pss_cons (ps_set (i := 8) sc_fences.nd rfl (Or.inl rfl) (pe_gref T.g_NO_FENCE))
      (pss_cons (ps_if (pt_cmpR op_gt (pe_mth0 (pv 6) T.cl_Flow (ok_now T) T.m_Flow_number_now (hr.mono (by decide))) pe_int (nomark _)) (pss_cons (ps_set (i := 9) sc_fences.nd rfl (Or.inr rfl) (pe_f Oways_from rways_from T.g_ways_from (pa_cons (pv 6) (pa_cons (pv 4) pa_nil))))
      (pss_one (ps_set (i := 8) sc_fences.nd rfl (Or.inl rfl) (pe_f Ofence_of rfence_of T.g_fence_of (pa_cons (by exact pe_lc (own := [("place", 10)]) (g := gName 10) (tt := (tTest (tDNotIn (tVar 10) (tVar 9)))) (te := (tVar 10)) (by rfl) sc_fences.nd (pi_list (pe_f Oplaces_of rplaces_of T.g_places_of (pa_cons (pv 0) pa_nil))) (blkOk_by (own := [("place", 10)]) (N := ["grid", "hidden", "cell", "cells", "start", "goal", "least", "most", "first", "come_to", "place"]) (sc := defScope s_fences) (by decide +kernel)) (fun _ _ _ _ _ => (pg_name (i := 10) sc_fences.nd rfl (Or.inl rfl))) (fun _ _ _ _ _ => (pts_one (pt_cmp (pc_dnotin hu1 (pv 10) (pv 9))))) (fun _ _ _ _ _ => (pv 10))) pa_nil))))) pss_nil)
      (pss_one (ps_ret (pe_tup (pa_cons (pv 8) (pa_cons (pe_f Ofence_of rfence_of T.g_fence_of (pa_cons (pe_callTy (call_list_dT (by rfl)) (by rfl) T.z_list (by decide +kernel) (pa_cons (pe_f Oways_from rways_from T.g_ways_from (pa_cons (pv 7) (pa_cons (pv 5) pa_nil))) pa_nil)) pa_nil)) pa_nil))))))))))), ?_⟩
  walk_at "go"
  refine ⟨g, hv, rs, t, m, n, hs, rfl, ht, hR, m1, n1, by omega, by omega, hh, fun l H1 ws cs e1 h1 hw1 hcs lcs srt => ?_⟩
  have inn : ∀ k ∈ cs, k.1 < m ∧ k.2 < n := fun k hk => by
    obtain ⟨p, wp, _, _, _, hmem, _⟩ := hh
    have := drop_mem m1 n1 (hmem k ((hcs k).mp hk))
    exact ⟨this.1, this.2.1⟩
  have hc' : c ∈ cs := (hcs c).mpr hc
  obtain ⟨c1, c2⟩ := inn c hc'
  obtain ⟨pl1, pl2⟩ := arc_place c1 c2
  have hS : StepsOk m n (stF m n cs c) := steps_ok m1 n1 (fun k hk => inn k (others_mem.mp hk).1) (Nat.le_trans (List.length_filter_le _ _) lcs)
  have A1 : Asked K H1 g l v rs t m n ws cs c := ⟨ht.same e1, hR, m1, n1, by omega, by omega, h1, hw1, lcs, inn, hcv.same e1, c1, c2, h0, hrm⟩
  walk_at "go"
  refine ⟨g, l, v, rs, t, m, n, ws, cs, c, rfl, A1.tab, hR, by omega, by omega, h1, hw1, lcs, inn, A1.cell, hc', ?_⟩
  walk_at "go"
  refine ⟨g, v, rs, t, m, n, c, rfl, A1.tab, hR, m1, n1, A1.cell, fun va H2 x1 x2 e2 ha p1 p2 => ?_⟩
  refine w_gtup (SqT.of ha) rfl (w_gnn ?_)
  dsimp only
  have A2 := A1.same e2
  walk_at "go"
  refine ⟨g, l, v, rs, t, m, n, ws, cs, c, rfl, A2, fun F1 H3 np1 rs1 e3 fl1 np10 rs10 => ?_⟩
  have A3 := A2.same e3
  walk_at "go"
  refine ⟨g, l, v, rs, t, m, n, ws, cs, c, rfl, A3, fun F2 H4 np2 rs2 e4 fl2 np20 rs20 => ?_⟩
  have e34 := e3.trans e4
  have e14 := e1.trans (e2.trans e34)
  have fl1' := fl1.same e4
  have A4 := A3.same e4
  have p14 := p1.same e34
  have p24 := p2.same e34
  have fin : ∀ (v1 : V) (o9 : Option V) (H5 : Hp), Same H4 H5 → FenceT K H5 v1 (rowsOf m (firstF m n cs t c)) (colsOf n (firstF m n cs t c)) →
      (tTup (tCons (tVar 8) (tCons (tCall (spFenceOf K) [] E0 (tCons (tCB (fun xs H Q => ∃ d kvs, xs = [V.ref d] ∧ Rd H d (.dT kvs) ∧ ∀ p bs, H p = none → IsKeys H kvs bs → Q (.ref p) (upd H p (.lst (bs.map V.ref)))) (tCons (tCall (spWays K) [] E0 (tCons (tVar 7) (tCons (tVar 5) tNil))) tNil)) tNil)) tNil))) [some (.ref g), some hv, some v, some (.ref l), some x1, some x2, some (.ref F1), some (.ref F2), some v1, o9, none] H5 Q := by
    intro v1 o9 H5 e5 hf1
    walk_at "go"
    refine ⟨F2, x2, c, np2, rs2, _, m, n, _, _, rfl, fl2.same e5, hS, by omega, by omega, p24.same e5, pl2, fun d H6 e6 hd hcame => ?_⟩
    obtain ⟨w1, _⟩ := ways_ok (u := mostF m n cs t c) hS pl2
    obtain ⟨kvs, hkv, hkp⟩ := hcame
    walk_at "go"
    refine ⟨d, kvs, rfl, Rd.of hkv, fun p bs hp hbs => ?_⟩
    have e7 := Same.new hp (.lst (bs.map V.ref))
    have kp := L2.Paired.mapP (keys_at hkp hbs) fun _ _ y => y.same e7
    have h7 : (upd H6 p (.lst (bs.map V.ref))) p = some (.lst (bs.map V.ref)) := upd_same
    generalize upd H6 p (.lst (bs.map V.ref)) = H7 at e7 kp h7 ⊢
    walk_at "go"
    refine ⟨p, _, _, m, n, rfl, h7, kp, w1.ok.nd, w1.ok.place, by omega, by omega, fun v2 H8 e8 hf2 => ?_⟩
    walk_at "go"
    have e58 := e6.trans (e7.trans e8)
    refine ⟨(by show 2 ≤ sizeLine; decide), fun a9 ha9 => ?_⟩
    have e9 := Same.new ha9 (.tup [v1, v2])
    exact q cs a9 v1 v2 _ hcs srt (e14.trans (e5.trans (e58.trans e9))) upd_same (hf1.same (e58.trans e9)) (hf2.same e9)
  obtain ⟨⟨dx1, vc1, d1, kvs1, hob1, hvc1, _⟩, htab1, hrect1, hnd1, hne1⟩ := id fl1'
  walk_at "go"
  refine w_meth (w_var rfl ⟨F1, _, _, rfl, hob1, rfl, w_nil ?_⟩)
  refine ⟨F1, c, np1, rs1, _, m, n, _, rfl, fl1', c1, c2, ?_⟩
  walk_at "go"
  by_cases pos : 0 < at2 (leastF m n cs t c) c.1 c.2
  · rw [decide_eq_true pos]
    walk_at "go"
    refine ⟨F1, x1, c, np1, rs1, _, m, n, _, _, rfl, fl1', hS, by omega, by omega, p14, pl1, fun d H5 e5 hd hcame => ?_⟩
    obtain ⟨w1, _⟩ := ways_ok (u := leastF m n cs t c) hS pl1
    have lk := w1.ok.len
    have hfe : ∀ p, firstF m n cs t c p = !decide (p ∈ keysOf (waysF (leastF m n cs t c) (stF m n cs c) (m + n + 1) (arcF m n c).1)) := fun p => by
      unfold firstF
      rw [decide_eq_true pos, Bool.true_and]
    generalize waysF (leastF m n cs t c) (stF m n cs c) (m + n + 1) (arcF m n c).1 = came at hcame w1 lk hfe
    obtain ⟨kvs, hkv, hkp⟩ := hcame
    walk_at "go"
    refine lcAt_open (list_open ?_)
    walk_at "go"
    have ht5 := A4.tab.same e5
    refine ⟨g, rs, t, m, n, rfl, ht5, hR, m1, by omega, by omega, fun p6 H6 w6 e6 hp6 h6 hw6 => ?_⟩
    have lw6 : w6.length ≤ 120 := by
      rw [hw6.length]
      unfold allPl
      rw [List.length_append, List.length_map, List.length_map, List.length_range, List.length_range]
      omega
    refine ⟨p6, rfl, ⟨_, SqL.of h6⟩, fun D hD => ?_⟩
    refine items_gen (F := PlAt) (G := PlAt) (fun e h => PlAt.same e h) (fun e h => PlAt.tk e h) (fun p => !decide (p ∈ keysOf came)) (fun p => p) (SqL.of h6) hw6 hD (by omega) ?_ ?_
    · intro vp p H7 e7 hp hvp R' r1 r2
      have hvp0 := hvp
      obtain ⟨ap, rfl, hap⟩ := hvp
      walk_at "go"
      refine ⟨rfl, ?_⟩
      walk_at "go"
      refine ⟨_, rfl, _, rfl, d, _, rfl, DGet.t (e7 _ _ (e6 _ _ hkv)) hap, ?_⟩
      rcases came_get hkp p with ⟨hn, hv0⟩ | ⟨i, o, vv, hi, _, hv1, _⟩
      · rw [hv0]
        refine ⟨_, rfl, ?_⟩
        rw [if_pos (by rfl)]
        walk_at "go"
        exact r2 _ _ (Same.refl _) (by rw [decide_eq_false hn]; rfl) hvp0
      · rw [hv1]
        have hm : p ∈ keysOf came := List.mem_map.mpr ⟨_, List.mem_of_getElem? hi, rfl⟩
        refine ⟨_, rfl, ?_⟩
        rw [if_neg (show ¬ (!(some vv : Option V).isSome) = true by simp)]
        exact r1 _ (Same.refl _) (by rw [decide_eq_true hm]; rfl)
    intro H7 zs e7 hD7 hz
    rw [List.map_id'] at hz
    walk_at "go"
    refine ⟨D, zs, _, m, n, rfl, hD7, hz, List.Pairwise.sublist List.filter_sublist (allPl_nodup m n), fun p hp => allPl_in (List.mem_filter.mp hp).1, by omega, by omega, fun v1 H8 e8 hf1 => ?_⟩
    have cg := rows_congr (m := m) (n := n) (F := fun p => decide (p ∈ (allPl m n).filter fun p => !decide (p ∈ keysOf came))) (G := firstF m n cs t c) fun p hp => by
      rw [hfe]
      by_cases z : p ∈ keysOf came
      · rw [decide_eq_true z]
        refine decide_eq_false fun y => ?_
        have := (List.mem_filter.mp y).2
        rw [decide_eq_true z] at this
        cases this
      · rw [decide_eq_false z]
        exact decide_eq_true (List.mem_filter.mpr ⟨allPl_mem hp, by rw [decide_eq_false z]; rfl⟩)
    rw [cg.1, cg.2] at hf1
    exact fin v1 _ H8 (e5.trans (e6.trans (e7.trans e8))) hf1
  · rw [decide_eq_false pos]
    refine w_iteF ?_
    obtain ⟨b1, b2, hnf⟩ := noFence_ok (Bool.and_eq_true_iff.mp (show (noFenceB K (He.ga K "NO_FENCE") && _) = true from T.e)).1
    have hff : ∀ p, firstF m n cs t c p = false := fun p => by
      unfold firstF
      rw [decide_eq_false pos]
      rfl
    have e1 : rowsOf m (firstF m n cs t c) = [] := by unfold rowsOf; simp [hff]
    have e2 : colsOf n (firstF m n cs t c) = [] := by unfold colsOf; simp [hff]
    refine fin _ _ H4 (Same.refl _) ⟨_, b1, b2, rfl, (hnf H4).1, ?_, ?_⟩
    · rw [e1]
      exact (hnf H4).2.1
    · rw [e2]
      exact (hnf H4).2.2
end
end K3
end F12_part
section R1_part
set_option Elab.async false
set_option linter.all false
set_option maxRecDepth 100000
set_option maxHeartbeats 1000000
set_option pp.deepTerms.threshold 5
open PySem PySem.Spec PyProof.Rows L2
/-- go on as far as nothing is open -/
local macro_rules | `(tactic| walk_at "go") => `(tactic| repeat (first
  | with_reducible refine w_seq ?_ | with_reducible refine w_next ?_ | with_reducible refine w_set ?_ | with_reducible refine w_drop ?_ | with_reducible refine w_ret ?_ | with_reducible refine w_retN ?_
  | with_reducible refine w_if ?_ | ((with_reducible refine' w_var ?hv ?_); (case hv => exact rfl)) | with_reducible refine w_c ?_ | with_reducible refine w_nil ?_ | with_reducible refine w_cons ?_ | with_reducible refine w_op ?_ | with_reducible refine w_un ?_
  | with_reducible refine w_test ?_ | with_reducible refine w_tB ?_ | with_reducible refine w_not ?_ | with_reducible refine w_and ?_ | with_reducible refine w_or ?_ | with_reducible refine w_bl ?_
  | with_reducible refine w_andV ?_ | with_reducible refine w_orV ?_ | with_reducible refine w_notV ?_ | with_reducible refine w_ifE ?_ | with_reducible refine w_chain ?_ | with_reducible refine w_i0 ?_
  | with_reducible refine w_call ?_ | with_reducible refine w_callS ?_ | with_reducible refine w_cB ?_ | with_reducible refine w_tup ?_ | with_reducible refine w_lst ?_ | with_reducible refine w_fldV ?_
  | with_reducible refine w_neF ?_ | with_reducible refine w_neT ?_ | with_reducible refine w_notN ?_ | with_reducible refine w_isN ?_ | with_reducible refine w_gname ?_ | with_reducible refine w_gsub ?_ | with_reducible refine w_asg ?_ | with_reducible refine w_sl ?_ | with_reducible refine w_noP ?_ | with_reducible refine w_int1 ?_ | with_reducible refine w_part ?_ | with_reducible refine w_yes ?_ | with_reducible refine w_nT ?_ | with_reducible refine w_nF ?_ | with_reducible refine w_iteT ?_ | with_reducible refine w_iteF ?_))
namespace L2
open PySem PySem.Spec PyProof.Rows
/-! ### keys (n, (i, j)) -/
def lex3 (a b : Int × Int × Int) : Prop := a.1 < b.1 ∨ (a.1 = b.1 ∧ (a.2.1 < b.2.1 ∨ (a.2.1 = b.2.1 ∧ a.2.2 ≤ b.2.2)))
instance (a b : Int × Int × Int) : Decidable (lex3 a b) := by unfold lex3; infer_instance
theorem lex3_trans {a b c : Int × Int × Int} (h : lex3 a b) (k : lex3 b c) : lex3 a c := by unfold lex3 at *; omega
theorem lex3_total (a b : Int × Int × Int) : lex3 a b ∨ lex3 b a := by unfold lex3; omega
theorem lex3_anti {a b : Int × Int × Int} (h : lex3 a b) (k : lex3 b a) : a = b := by
  unfold lex3 at *
  exact Prod.ext (by omega) (Prod.ext (by omega) (by omega))
def k3D (x : Int × Int × Int) : PyData := .tuple [.int x.1, .tuple [.int x.2.1, .int x.2.2]]
theorem dataLe_3 (g : V → Int × Int × Int) : PySem.W.dataLe false (fun v => k3D (g v)) = fun p q => decide (lex3 (g p) (g q)) := by
  funext p q
  show (!PySem.W.dataLt (k3D (g q)) (k3D (g p))) = _
  unfold k3D
  rw [PySem.W.dataLt_pair (by simp [PySem.W.alike]) (by simp [PySem.W.alike, PySem.W.alikeAll]), PySem.W.dataLt_int, PySem.W.dataLt_ii]
  simp only [PyData.eqv, PyData.eqvAll, beq_iff_eq, Bool.and_true, Bool.and_eq_true]
  have yes : ∀ h : lex3 (g p) (g q), decide (lex3 (g p) (g q)) = true := fun h => decide_eq_true h
  have no : ∀ h : ¬ lex3 (g p) (g q), decide (lex3 (g p) (g q)) = false := fun h => decide_eq_false h
  by_cases h1 : (g q).1 = (g p).1
  · by_cases h2 : (g q).2.1 = (g p).2.1 ∧ (g q).2.2 = (g p).2.2
    · rw [if_pos h1, if_pos h2, yes (by unfold lex3; omega)]; rfl
    · rw [if_pos h1, if_neg h2]
      by_cases h3 : (g q).2.1 < (g p).2.1 ∨ ((g q).2.1 = (g p).2.1 ∧ (g q).2.2 < (g p).2.2)
      · rw [decide_eq_true h3, no (by unfold lex3; omega)]; rfl
      · rw [decide_eq_false h3, yes (by unfold lex3; omega)]; rfl
  · rw [if_neg h1]
    by_cases h3 : (g q).1 < (g p).1
    · rw [decide_eq_true h3, no (by unfold lex3; omega)]; rfl
    · rw [decide_eq_false h3, yes (by unfold lex3; omega)]; rfl
theorem pairwise_paired {α β : Type} {F : α → β → Prop} {r : α → α → Prop} {s : β → β → Prop} (hrs : ∀ (v v' : α) (k k' : β), F v k → F v' k' → r v v' → s k k') : ∀ {vs : List α} {ks : List β}, Paired F vs ks → vs.Pairwise r → ks.Pairwise s
  | _, _, .nil, _ => .nil
  | v :: vs, k :: ks, .cons h t, p => by
    obtain ⟨p1, p2⟩ := List.pairwise_cons.mp p
    refine List.pairwise_cons.mpr ⟨fun k' hk' => ?_, pairwise_paired hrs t p2⟩
    obtain ⟨i, hi⟩ := List.getElem?_of_mem hk'
    have li : i < vs.length := by
      rw [Paired.length t]
      exact (List.getElem?_eq_some_iff.mp hi).1
    obtain ⟨y, hy, hF⟩ := K3.Paired.get t (List.getElem?_eq_getElem li)
    rw [hi] at hy
    cases hy
    exact hrs _ _ _ _ h hF (p1 _ (List.getElem_mem li))
/-! ### l.remove(x), data -/
section
variable {X : Cx}
def rRemD (K : PySem.W.Frag) : V → List V → Hp → VK → Prop := fun x xs H Q => ∃ (l : Addr) (ws : List V) (y : V) (ds : List PyData) (d : PyData) (j : Nat), x = .ref l ∧ xs = [y] ∧ H l = some (.lst ws) ∧ DpAll K H ws ds ∧ Dp K H y d ∧ PyData.plainAll ds = true ∧ d.plain = true ∧ PyData.depthAll ds ≤ 60 ∧ d.depth ≤ 60 ∧ PySem.SeqAt.dataPlace ds d = some j ∧ Q .non (upd H l (.lst (ws.eraseIdx j)))
theorem erase_len {α : Type} (l : List α) (j : Nat) : (l.eraseIdx j).length ≤ l.length := by
  rw [List.length_eraseIdx]
  split <;> omega
theorem mt_remD (hu : X.A.units + 65 < cLine) : MtM X "list.remove" (rRemD X.K) := by
  intro pins s σ H x xs v us Q I rx rxs h
  obtain ⟨l, ws, y, ds, d, j, rfl, rfl, hH, hds, hd, pl, pd, dl, dd, hp, q⟩ := h
  cases rx
  cases rxs with
  | cons ry rt =>
    cases rt
    obtain ⟨bs, r1⟩ := Dp.reads I d y _ hd ry
    obtain ⟨z, its, n, r, hl, e⟩ := I.lstM hH
    obtain ⟨as, h4⟩ := Dp.readsAll I ds _ its hds r
    have lr := r.length
    refine PySem.SeqAt.remove_list_data (l := l) (vs := its.toArray) (xs := ds) (j := j) ⟨_, e, rfl, n, rfl⟩ (show ReadsAll s.heap its.toArray.toList ds as from h4) r1 pl pd (by omega) hp (by rw [List.size_toArray]; omega) ?_
    refine ⟨.non, _, I.lset (its' := its.eraseIdx j) (t' := s.toks) hH e ?_ (r.eraseIdx j) ?_, rfl, q⟩
    · show its.toArray.eraseIdxIfInBounds j = (its.eraseIdx j).toArray
      rw [List.eraseIdxIfInBounds_toArray]
    · exact Nat.le_trans (erase_len _ _) z
/-! ### xs[::2] -/
def step2 (n : Nat) : List Nat := sliceRange (sliceBounds none none (some 2) n).1 (sliceBounds none none (some 2) n).2.1 (sliceBounds none none (some 2) n).2.2
def tStep2 (K : PySem.W.Frag) (te : TE) : TE := fun σ H Q => te σ H fun x H1 => ∃ a xs, x = .ref a ∧ SqL K H1 a xs ∧ (step2 xs.length).length ≤ sizeLine ∧ ∀ p, H1 p = none → Q (.ref p) (upd H1 p (.lst ((step2 xs.length).filterMap (xs[·]?))))
theorem vals_pick {xs : List V} {us : List Value} (r : Vals xs us) : ∀ js : List Nat, Vals (js.filterMap (xs[·]?)) (js.filterMap (us[·]?))
  | [] => .nil
  | j :: js => by
    have ih := vals_pick r js
    cases h : xs[j]? with
    | none =>
      have h2 : us[j]? = none := by
        rw [List.getElem?_eq_none_iff] at h ⊢
        rw [← r.length]
        exact h
      rw [List.filterMap_cons_none h, List.filterMap_cons_none h2]
      exact ih
    | some x =>
      obtain ⟨u, hu, ru⟩ := r.get h
      rw [List.filterMap_cons_some h, List.filterMap_cons_some hu]
      exact .cons ru ih
theorem pe_step2 {e : Expr} {te : TE} {k : Nat} {p1 p3 pos : Pos} (he : PE X e te) : PE X (.Subscript e (.Slice none none (some (.Constant (.int 2) k p1)) p3) pos) (tStep2 X.K te) := by
  refine ⟨fun pins s σ H Q I h => ?_⟩
  refine Subscript_ (thn (he.run pins s σ H _ I h) fun v s1 ⟨x, H1, I1, r1, q1⟩ => ?_)
  obtain ⟨a, xs, ex, hx, few, q⟩ := q1
  subst ex
  cases r1
  have hst : PO X (some (.Constant (.int 2) k p1)) (tPart (tC (.int 2))) := po_some pe_int
  refine wpAny_Slice (thn (po_none.run pins s1 σ H1 (fun o H2 => o = none ∧ H2 = H1) I1 ⟨rfl, rfl⟩) fun vl s2 ⟨l, H2, I2, pl, el, e2⟩ => ?_)
  subst el e2
  refine thn (po_none.run pins s2 σ H2 (fun o H3 => o = none ∧ H3 = H2) I2 ⟨rfl, rfl⟩) fun vu s3 ⟨u, H3, I3, pu, eu, e3⟩ => ?_
  subst eu e3
  refine thn (hst.run pins s3 σ H3 (fun o H4 => o = some 2 ∧ H4 = H3) I3 ⟨2, rfl, rfl, rfl⟩) fun vs s4 ⟨o, H4, I4, ps, eo, e4⟩ => ?_
  subst eo e4
  have I5 : Inv X pins σ H4 { s4 with heap := s4.heap.push { cls := .type "slice", data := .fields #[vl, vu, vs] } } := I4.kept (t' := s4.toks) fun b ob q => Heap.get?_push_of_some _ q
  obtain ⟨its, r, ht, hz⟩ := I5.list hx
  have hlen := r.length
  show wpAny (model X.prog X.w) X.A (subscriptTail e (.Slice none none (some (.Constant (.int 2) k p1)) p3) (.ref a) (.ref s4.heap.objs.size)) (EP X pins σ Q) X.xe { s4 with heap := s4.heap.push { cls := .type "slice", data := .fields #[vl, vu, vs] } }
  refine tail_any (ops := [.ref a, .ref s4.heap.objs.size]) ht.isList.typeIs (PySem.slot_list_getitem.lookup) ?_ (by with_unfolding_all rfl)
  refine wpAny_getItem_list_slice ht.isList (Heap.IsSliceOf.new _ vl vu vs) pl pu ps (by decide) ?_ (by rw [List.size_toArray]; omega)
  have epick : slicePick its.toArray none none (some 2) = ((step2 xs.length).filterMap (its[·]?)).toArray := by
    unfold slicePick step2
    rw [List.size_toArray, hlen]
    simp
  rw [epick]
  refine ⟨.ref _, _, I5.laid (t' := s4.toks) (o := .lst ((step2 xs.length).filterMap (xs[·]?))) (fun b ob q => Heap.get?_push_of_some _ q) (Nat.le_refl _) ?_, rfl, q _ (I5.hok.fresh (Nat.le_refl _))⟩
  exact ⟨Nat.le_trans (List.length_filterMap_le _ _) few, _, 0, vals_pick r _, Heap.get?_push_size _ rfl⟩
theorem w_step2 {K : PySem.W.Frag} {te : TE} {σ : L2.St} {H : Hp} {Q : VK} (h : te σ H fun x H1 => ∃ a xs, x = .ref a ∧ SqL K H1 a xs ∧ (step2 xs.length).length ≤ sizeLine ∧ ∀ p, H1 p = none → Q (.ref p) (upd H1 p (.lst ((step2 xs.length).filterMap (xs[·]?))))) : tStep2 K te σ H Q := h
end
end L2
end R1_part
section G1_part
set_option Elab.async false
set_option linter.all false
set_option maxRecDepth 100000
set_option maxHeartbeats 1000000
set_option pp.deepTerms.threshold 5
open PySem PySem.Spec PyProof.Rows L2
/-- go on as far as nothing is open -/
local macro_rules | `(tactic| walk_at "go") => `(tactic| repeat (first
  | with_reducible refine w_seq ?_ | with_reducible refine w_next ?_ | with_reducible refine w_set ?_ | with_reducible refine w_drop ?_ | with_reducible refine w_ret ?_ | with_reducible refine w_retN ?_
  | with_reducible refine w_if ?_ | ((with_reducible refine' w_var ?hv ?_); (case hv => exact rfl)) | with_reducible refine w_c ?_ | with_reducible refine w_nil ?_ | with_reducible refine w_cons ?_ | with_reducible refine w_op ?_ | with_reducible refine w_un ?_
  | with_reducible refine w_test ?_ | with_reducible refine w_tB ?_ | with_reducible refine w_not ?_ | with_reducible refine w_and ?_ | with_reducible refine w_or ?_ | with_reducible refine w_bl ?_
  | with_reducible refine w_andV ?_ | with_reducible refine w_orV ?_ | with_reducible refine w_notV ?_ | with_reducible refine w_ifE ?_ | with_reducible refine w_chain ?_ | with_reducible refine w_i0 ?_
  | with_reducible refine w_call ?_ | with_reducible refine w_callS ?_ | with_reducible refine w_cB ?_ | with_reducible refine w_tup ?_ | with_reducible refine w_lst ?_ | with_reducible refine w_fldV ?_
  | with_reducible refine w_neF ?_ | with_reducible refine w_neT ?_ | with_reducible refine w_notN ?_ | with_reducible refine w_isN ?_ | with_reducible refine w_gname ?_ | with_reducible refine w_gsub ?_ | with_reducible refine w_asg ?_ | with_reducible refine w_sl ?_ | with_reducible refine w_noP ?_ | with_reducible refine w_int1 ?_ | with_reducible refine w_part ?_ | with_reducible refine w_yes ?_ | with_reducible refine w_nT ?_ | with_reducible refine w_nF ?_ | with_reducible refine w_iteT ?_ | with_reducible refine w_iteF ?_))
namespace L2
open PySem PySem.Spec PyProof.Rows
/-- a def's code object -/
def codeOf (K : PySem.W.Frag) (f : Addr) : Value := match K.lookup f with
  | some ⟨_, _, .func fd, _⟩ => fd.code
  | _ => .none
theorem FunD.okC {x ql : Str} {prm : Arguments} {bd : List Stmt} {sc : Scope} {dvs : List V} {kws : List (Str × V)} {f : Addr} {fd : FuncData} {P : Program} {w : World} {K : PySem.W.Frag} {mg : Str → Option Value} {base : Heap} {CX : CXT} {N ps : List Str} {k : Nat} {sp : Sp}
    (F : FunD K x ql prm bd sc dvs kws f fd) (S : FnScope N ps sc) (lens : ∀ zs G Q E, sp zs G Q E → zs.length = ps.length)
    (body : ∀ (J : Around) (up : List Env) (t : Shared) (G : Hp) (zs : List V) (Q : VK) (E : XK), Room k (J.deeper (envOfC ql sc t.heap.objs.size f (codeOf K f))) → sp zs G Q E →
      ∃ r, PSs (cxOf CX P w K mg base N ql sc f (codeOf K f) J up t G E) bd r ∧ r { nx := fun _ G' => Q .non G', rt := Q } (start N zs) G) : FnOk P w K mg base CX (k + 1) f fd ps sp := by
  obtain ⟨_, _, _, _, _, _, _, cdv, _, _, rfl, a, b, _, _⟩ := F.ex
  have e : codeOf K f = cdv := by unfold codeOf; rw [a]
  rw [e] at body
  exact fn_of a b S lens fun J up t G zs Q E => body J up t G zs Q E
end L2
namespace K3
open SLam LamX
theorem CellAt.extn {H H' : Hp} (e : ExtN H H') {v : V} {c : Nat × Nat} (h : CellAt H v c) : CellAt H' v c := let ⟨a, h1, h2⟩ := h; ⟨a, h1, e _ _ h2 fun ps z => by cases z⟩
theorem paired_perm {α β : Type} {F : α → β → Prop} {xs ys : List α} (h : ys.Perm xs) : ∀ {bs : List β}, Paired F xs bs → ∃ cs, Paired F ys cs ∧ cs.Perm bs := by
  induction h with
  | nil => intro bs hb; exact ⟨bs, hb, .refl _⟩
  | cons x _ ih =>
    intro bs hb
    cases hb with
    | cons h t =>
      obtain ⟨cs, h1, h2⟩ := ih t
      exact ⟨_, .cons h h1, h2.cons _⟩
  | swap x y l =>
    intro bs hb
    cases hb with
    | cons h t =>
      cases t with
      | cons h' t => exact ⟨_, .cons h' (.cons h t), .swap ..⟩
  | trans _ _ ih1 ih2 =>
    intro bs hb
    obtain ⟨cs, h1, h2⟩ := ih2 hb
    obtain ⟨ds, h3, h4⟩ := ih1 h1
    exact ⟨ds, h3, h4.trans h2⟩
/-! ### number_at over what is frozen -/
def spNumS (K : PySem.W.Frag) : Sp := fun vs H Q _ => ∃ (g c a : Addr) (gs : List V) (i j : Nat) (r : List Int), vs = [.ref g, .ref c] ∧ SqE K H g gs ∧ SqT K H c [.int (i : Int), .int (j : Int)] ∧ atI gs (i : Int) = some (.ref a) ∧ SqE K H a (r.map V.int) ∧ j < r.length ∧ Q (.int (r.getD j 0)) H
/-- where a def's lambda is told, among the tables TT -/
structure Told (K : PySem.W.Frag) (mg : Str → Option Value) (base : Heap) (x : Str) (c P : Addr) (TT : List (Addr × Str)) : Prop where
  code : codeOf K (He.ga K x) = .ref c
  tab : TabB base mg c P
  mem : (P, x ++ (".<locals>.<lambda>" : Str)) ∈ TT
  one : ∀ p ∈ TT, p.1 = P → p.2 = x ++ (".<locals>.<lambda>" : Str)
def keyF (t : List (List Int)) (k : Nat × Nat) : Int × Int × Int := (-(at2 t k.1 k.2), (k.1 : Int), (k.2 : Int))
theorem sqB_ext {K : PySem.W.Frag} {H H1 : Hp} (e : ExtN H H1) {a : Addr} {xs : List V} : ∀ {b : Bool}, SqB K H b a xs → SqB K H1 b a xs
  | false, h => sql_ext e h
  | true, h => by
    rcases h with (h | ⟨o, h⟩) | h
    · exact .inl (.inl (e _ _ h fun ps z => by cases z))
    · exact .inl (.inr ⟨o, e _ _ h fun ps z => by cases z⟩)
    · exact .inr h
theorem sqE_ext {K : PySem.W.Frag} {H H1 : Hp} {a : Addr} {xs : List V} (h : SqE K H a xs) (e : ExtN H H1) : SqE K H1 a xs := h.imp fun _ z => sqB_ext e z
theorem GT.extn {K : PySem.W.Frag} {H H' : Hp} (e : ExtN H H') {g : Addr} {rs : List Addr} {t : List (List Int)} (h : GT K H g rs t) : GT K H' g rs t := ⟨sqE_ext h.at_ e, L2.Paired.mapP h.rows fun _ _ z => sqE_ext z e⟩
theorem frz_sqe {K : PySem.W.Frag} {H HZ : Hp} (z : Frz H HZ) {a : Addr} {xs : List V} (h : SqE K H a xs) : SqE K HZ a xs := h.imp fun b y => match b, y with
  | false, y => z.sql y
  | true, y => z.sqt y
def spGreatest (TT : List (Addr × Str)) (K : PySem.W.Frag) : Sp := fun vs H Q _ => ∃ (g l : Addr) (rs : List Addr) (t : List (List Int)) (m n : Nat) (ws : List V) (hs : List (Nat × Nat)), vs = [.ref g, .ref l] ∧ GT K H g rs t ∧ Rect t m n ∧ H l = some (.lst ws) ∧ Paired (CellAt H) ws hs ∧ hs.length ≤ 100 ∧ (∀ k ∈ hs, k.1 < m ∧ k.2 < n) ∧ Tabs (TT) H ∧
  ∀ p H' ws' hs', ExtN H H' → Tabs (TT) H' → H' p = some (.lst ws') → Paired (CellAt H') ws' hs' → hs'.Perm hs → hs'.Pairwise (fun a b => lex3 (keyF t a) (keyF t b)) → Q (.ref p) H'
section
variable {P : Program} {w : World} {K : PySem.W.Frag} {mg : Str → Option Value} {base : Heap}
theorem sc_numberS : FnScope ["grid", "cell", "row", "column"] ["grid", "cell"] (defScope s_number_at) := ⟨rfl, rfl, rfl, by decide +kernel, rfl, by decide +kernel, by decide +kernel⟩
theorem ok_numberS (T : Tx K mg) : Ok P w K mg base 1 (He.ga K "number_at") ["grid", "cell"] (spNumS K) := by
  obtain ⟨fd, F⟩ := T.f_number_at
  refine ⟨fd, F.ok (k := 0) sc_numberS (fun vs H Q E h => ?_) (fun cdv A outer s_ H vs Q E hr h => ?_), F.bindsN fun _ _ _ _ _ _ us hl => match us, hl with | [_, _], _ => rfl, F.kp⟩
  · obtain ⟨g, c, a, gs, i, j, r, rfl, hg, hc, ha, hr', hj, q⟩ := h
    rfl
  obtain ⟨g, c, a, gs, i, j, r, rfl, hg, hc, ha, hr', hj, q⟩ := h
  have hu65 := K3.Room.units65 hr
  have hu64 := Nat.lt_of_succ_lt hu65
  have hu0 := Nat.lt_of_le_of_lt (Nat.le_add_right _ 65) hu65
  have hu1 := Nat.lt_of_le_of_lt (Nat.add_le_add_left (show 1 ≤ 65 by decide) _) hu65
  refine ⟨_, pss_cons (ps_asg (pv 1) (pg_tup (by rfl) (pgs_cons (pg_name (i := 2) sc_numberS.nd rfl (Or.inl rfl)) (pgs_cons (pg_name (i := 3) sc_numberS.nd rfl (Or.inl rfl)) pgs_nil))))
      (pss_one (ps_ret (pe_ix ix_e (pe_ix ix_e (pv 0) (pv 2) (fun _ _ => rfl)) (pv 3) (fun _ _ => rfl)))), ?_⟩
  walk_at "go"
  refine w_gtup hc rfl (w_gnn ?_)
  dsimp only
  walk_at "go"
  refine w_ixE hg ha ?_
  walk_at "go"
  refine w_ixE hr' (at_getD hj) ?_
  exact q
theorem sc_greatest : FnScope ["grid", "cells"] ["grid", "cells"] (defScope s_greatest_first) := ⟨rfl, rfl, rfl, by decide +kernel, rfl, by decide +kernel, by decide +kernel⟩
theorem ok_greatest_first {c PT : Addr} {TT : List (Addr × Str)} (T : Tx K mg) (B : Told K mg base "greatest_first" c PT TT) : Ok P w K mg base 5 (He.ga K "greatest_first") ["grid", "cells"] (spGreatest TT K) := by
  obtain ⟨fd, F⟩ := T.f_greatest_first
  have Onumber_at := ok_numberS (P := P) (w := w) (base := base) T
  refine ⟨fd, F.okC (k := 4) sc_greatest (fun vs H Q E h => ?_) (fun A outer s_ H vs Q E hr h => ?_), F.bindsN fun _ _ _ _ _ _ us hl => match us, hl with | [_, _], _ => rfl, F.kp⟩
  · obtain ⟨g, l, rs, t, m, n, ws, hs, rfl, _⟩ := h
    rfl
  obtain ⟨g, l, rs, t, m, n, ws, hs, rfl, ht, hR, hl, hw, lhs, bhs, hT, q⟩ := h
  refine ⟨_, pss_one (ps_ret (pe_sortedLam (T := TT) (x := "cell") (k := 1) (tb := (tTup (tCons (tUn (rU fun i => .int (-i)) (tCall (spNumS K) [] E0 (tCons (tVar 0) (tCons (tVar 2) tNil)))) (tCons (tVar 2) tNil)))) (by rfl) T.z_sorted (pa_cons (pv 1) pa_nil) B.tab B.code B.mem B.one (lam1_by (sc := defScope s_greatest_first) (by decide +kernel)) (show ("cell" : Str) ∉ [("grid" : Str), "cells"] by decide) rfl hr (fun _ _ _ _ _ _ => rfl) fun A s HZ f c' hA => ?_)), ?_⟩
  · exact pe_tup (pa_cons (pe_un un_neg (pe_f Onumber_at hA T.g_number_at (pa_cons (pv 0) (pa_cons (pv 2) pa_nil)))) (pa_cons (pv 2) pa_nil))
  · have kd : ∀ v, ∃ d : Int × Int × Int, ∀ k : Nat × Nat, CellAt H v k → d = keyF t k := fun v => by
      by_cases z : ∃ k, CellAt H v k
      · obtain ⟨k, hk⟩ := z
        refine ⟨keyF t k, fun k' hk' => ?_⟩
        obtain ⟨a, rfl, ha⟩ := hk
        obtain ⟨a', e, ha'⟩ := hk'
        cases e
        rw [ha] at ha'
        simp only [Option.some.injEq, HO.tup.injEq, List.cons.injEq, V.int.injEq, and_true] at ha'
        have : k = k' := Prod.ext (by omega) (by omega)
        rw [this]
      · exact ⟨(0, 0, 0), fun k hk => absurd ⟨k, hk⟩ z⟩
    obtain ⟨kg, kgs⟩ : ∃ kg : V → Int × Int × Int, ∀ v k, CellAt H v k → kg v = keyF t k := ⟨fun v => (kd v).choose, fun v k hk => (kd v).choose_spec k hk⟩
    have kfs : ∀ v k, CellAt H v k → k3D (kg v) = .tuple [.int (-(at2 t k.1 k.2)), cellD k] := fun v k hk => by rw [kgs v k hk]; rfl
    walk_at "go"
    refine w_sortL ?_
    walk_at "go"
    refine ⟨l, ws, fun v => k3D (kg v), rfl, SqL.of hl, hT, by rw [hw.length]; omega, fun v hv => ?_, fun v hv H2 HZ e2 fz => ?_, fun p H2 e2 t2 p0 => ?_⟩
    · exact ⟨_, _, _, rfl⟩
    · obtain ⟨iv, hiv⟩ := List.getElem?_of_mem hv
      obtain ⟨k, hk0, hk⟩ := K3.Paired.get hw hiv
      obtain ⟨k1, k2⟩ := bhs k (List.mem_of_getElem? hk0)
      dsimp only
      rw [kfs v k hk]
      obtain ⟨ar, r, har, hr', hxr⟩ := row_ofG ht (i := k.1) (by rw [hR.1]; exact k1)
      have lrr := hR.2 r (List.mem_of_getElem? hr')
      obtain ⟨va, rfl, hva⟩ := hk
      have zl : ∀ {a xs}, SqE K H a xs → SqE K HZ a xs := fun h => frz_sqe fz (sqE_ext h e2)
      have zt : SqT K HZ va [.int (k.1 : Int), .int (k.2 : Int)] := fz.sqt (SqT.of (e2 _ _ hva fun ps z => by cases z))
      walk_at "go"
      refine ⟨g, va, ar, _, k.1, k.2, r, rfl, zl ht.at_, zt, ref_at har, zl hxr, by omega, ?_⟩
      rw [← at2_of hr']
      refine ⟨_, rfl, ?_⟩
      walk_at "go"
      refine ⟨(by show 2 ≤ sizeLine; decide), fun p hp => ?_⟩
      exact Dp.tup (SqT.of upd_same) (.cons (.int _) (.cons (Dp.tup ((Same.new hp _).sqt zt) (.cons (.int _) (.cons (.int _) .nil))) .nil))
    · have le : PySem.W.dataLe false (fun v => k3D (kg v)) = fun p q => decide (lex3 (kg p) (kg q)) := dataLe_3 kg
      rw [le]
      have pm := List.mergeSort_perm ws (fun p q => decide (lex3 (kg p) (kg q)))
      have srt : (ws.mergeSort fun p q => decide (lex3 (kg p) (kg q))).Pairwise fun a b => decide (lex3 (kg a) (kg b)) = true := List.pairwise_mergeSort (le := fun p q => decide (lex3 (kg p) (kg q))) (fun a b c h1 h2 => decide_eq_true (lex3_trans (of_decide_eq_true h1) (of_decide_eq_true h2))) (fun a b => by
        rcases lex3_total (kg a) (kg b) with h | h
        · rw [decide_eq_true h]; rfl
        · rw [decide_eq_true h, Bool.or_true]) ws
      generalize ws.mergeSort (fun p q => decide (lex3 (kg p) (kg q))) = ys at pm srt ⊢
      obtain ⟨hs', h1, h2⟩ := paired_perm pm hw
      have e3 : ExtN H2 (upd H2 p (.lst ys)) := ExtN.of fun b o e => by rw [upd_ne (ne_of_none e p0)]; exact e
      refine q p _ ys hs' (e2.trans e3) (t2.ext fun b o e => by rw [upd_ne (ne_of_none e p0)]; exact e) upd_same (L2.Paired.mapP h1 fun _ _ z => (z.extn e2).extn e3) h2 ?_
      exact pairwise_paired (F := CellAt H) (fun v v' k k' hv hv' hle => by
        have := of_decide_eq_true hle
        rw [kgs v k hv, kgs v' k' hv'] at this
        exact this) h1 srt
end
end K3
end G1_part
section G2_part
set_option Elab.async false
set_option linter.all false
set_option maxRecDepth 100000
set_option maxHeartbeats 1000000
set_option pp.deepTerms.threshold 5
open PySem PySem.Spec PyProof.Rows L2
/-- go on as far as nothing is open -/
local macro_rules | `(tactic| walk_at "go") => `(tactic| repeat (first
  | with_reducible refine w_seq ?_ | with_reducible refine w_next ?_ | with_reducible refine w_set ?_ | with_reducible refine w_drop ?_ | with_reducible refine w_ret ?_ | with_reducible refine w_retN ?_
  | with_reducible refine w_if ?_ | ((with_reducible refine' w_var ?hv ?_); (case hv => exact rfl)) | with_reducible refine w_c ?_ | with_reducible refine w_nil ?_ | with_reducible refine w_cons ?_ | with_reducible refine w_op ?_ | with_reducible refine w_un ?_
  | with_reducible refine w_test ?_ | with_reducible refine w_tB ?_ | with_reducible refine w_not ?_ | with_reducible refine w_and ?_ | with_reducible refine w_or ?_ | with_reducible refine w_bl ?_
  | with_reducible refine w_andV ?_ | with_reducible refine w_orV ?_ | with_reducible refine w_notV ?_ | with_reducible refine w_ifE ?_ | with_reducible refine w_chain ?_ | with_reducible refine w_i0 ?_
  | with_reducible refine w_call ?_ | with_reducible refine w_callS ?_ | with_reducible refine w_cB ?_ | with_reducible refine w_tup ?_ | with_reducible refine w_lst ?_ | with_reducible refine w_fldV ?_
  | with_reducible refine w_neF ?_ | with_reducible refine w_neT ?_ | with_reducible refine w_notN ?_ | with_reducible refine w_isN ?_ | with_reducible refine w_gname ?_ | with_reducible refine w_gsub ?_ | with_reducible refine w_asg ?_ | with_reducible refine w_sl ?_ | with_reducible refine w_noP ?_ | with_reducible refine w_int1 ?_ | with_reducible refine w_part ?_ | with_reducible refine w_yes ?_ | with_reducible refine w_nT ?_ | with_reducible refine w_nF ?_ | with_reducible refine w_iteT ?_ | with_reducible refine w_iteF ?_))
namespace K3
open SLam LamX
/-! ### hides: what is made of a grid alone -/
def secretL (t : List (List Int)) (m n : Nat) (few : Int) : List (Nat × Nat) := (cellsOf m n).dropLast.filter fun k => decide (1 ≤ at2 t k.1 k.2) && decide (at2 t k.1 k.2 < few)
def widthF (t : List (List Int)) (m n : Nat) (cs : List (Nat × Nat)) (c : Nat × Nat) : Int := at2 (mostF m n cs t c) c.1 c.2 - at2 (leastF m n cs t c) c.1 c.2
def safeB (t : List (List Int)) (m n : Nat) (cs ss : List (Nat × Nat)) (width : Int) : Bool := ss.all fun c => decide (c ∈ cs) && decide (width ≤ widthF t m n cs c)
/-- the first of ss that is not safe -/
def badF (t : List (List Int)) (m n : Nat) (cs : List (Nat × Nat)) (width : Int) (c : Nat × Nat) : Bool := !(decide (c ∈ cs) && decide (width ≤ widthF t m n cs c))
def unsF (t : List (List Int)) (m n : Nat) (cs ss : List (Nat × Nat)) (width : Int) : Option (Nat × Nat) := ss.find? (badF t m n cs width)
theorem uns_none {t : List (List Int)} {m n : Nat} {cs ss : List (Nat × Nat)} {w : Int} : unsF t m n cs ss w = none ↔ safeB t m n cs ss w = true := by
  unfold unsF safeB badF
  rw [List.find?_eq_none, List.all_eq_true]
  simp
theorem find_at {α : Type} {p : α → Bool} {l : List α} {i : Nat} {c : α} (h : (l.take i).find? p = none) (hc : l[i]? = some c) : (p c = false → (l.take (i + 1)).find? p = none) ∧ (p c = true → l.find? p = some c) := by
  refine ⟨fun z => ?_, fun z => ?_⟩
  · rw [List.take_add_one, hc, List.find?_append, h]
    simp [z]
  · rw [← List.take_append_drop i l, List.find?_append, h]
    have li := (List.getElem?_eq_some_iff.mp hc).1
    have e : l.drop i = c :: l.drop (i + 1) := by
      rw [List.drop_eq_getElem_cons li]
      congr 1
      exact (List.getElem?_eq_some_iff.mp hc).2
    rw [e, List.find?_cons_of_pos z]
    rfl
def spAllBut (K : PySem.W.Frag) : Sp := fun vs H Q _ => ∃ (g : Addr) (rs : List Addr) (t : List (List Int)) (m n : Nat), vs = [.ref g] ∧ GT K H g rs t ∧ Rect t m n ∧ 1 ≤ m ∧ m ≤ 60 ∧ n ≤ 60 ∧ ∀ p H' ws, Same H H' → H p = none → H' p = some (.lst ws) → Paired (CellAt H') ws (cellsOf m n).dropLast → Q (.ref p) H'
def spSecret (K : PySem.W.Frag) : Sp := fun vs H Q _ => ∃ (g : Addr) (rs : List Addr) (t : List (List Int)) (m n : Nat) (few : Int), vs = [.ref g, .int few] ∧ GT K H g rs t ∧ Rect t m n ∧ 1 ≤ m ∧ m ≤ 60 ∧ n ≤ 60 ∧ ∀ p H' ws, Same H H' → H p = none → H' p = some (.lst ws) → Paired (CellAt H') ws (secretL t m n few) → Q (.ref p) H'
def spRefFW (K : PySem.W.Frag) : Sp := fun vs H Q _ => ∃ few width : Int, vs = [.int few, .int width] ∧ 2 ≤ few ∧ 1 ≤ width ∧ Q .non H
def spWidth (K : PySem.W.Frag) : Sp := fun vs H Q _ => ∃ (g h : Addr) (v : V) (rs : List Addr) (t : List (List Int)) (m n : Nat) (ws : List V) (cs : List (Nat × Nat)) (c : Nat × Nat), vs = [.ref g, .ref h, v] ∧ Asked K H g h v rs t m n ws cs c ∧ ∀ H', Same H H' → Q (.int (widthF t m n cs c)) H'
def spFirstU (K : PySem.W.Frag) : Sp := fun vs H Q _ => ∃ (g h sl : Addr) (width : Int) (rs : List Addr) (t : List (List Int)) (m n : Nat) (ws us : List V) (cs ss : List (Nat × Nat)), vs = [.ref g, .ref h, .ref sl, .int width] ∧ GT K H g rs t ∧ Grid t m n ∧ m ≤ 30 ∧ n ≤ 30 ∧ H h = some (.lst ws) ∧ Paired (CellAt H) ws cs ∧ cs.length ≤ 100 ∧ (∀ k ∈ cs, k.1 < m ∧ k.2 < n) ∧
  H sl = some (.lst us) ∧ Paired (CellAt H) us ss ∧ (∀ k ∈ ss, k.1 < m ∧ k.2 < n) ∧ ∀ H', Same H H' → (unsF t m n cs ss width = none → Q .non H') ∧ (∀ c, unsF t m n cs ss width = some c → ∀ v, CellAt H' v c → Q v H')
section
variable {P : Program} {w : World} {K : PySem.W.Frag} {mg : Str → Option Value} {base : Heap}
theorem sc_all_but_last : FnScope ["grid"] ["grid"] (defScope s_all_but_last) := ⟨rfl, rfl, rfl, by decide +kernel, rfl, by decide +kernel, by decide +kernel⟩
theorem ok_all_but_last (T : Tx K mg) : Ok P w K mg base 2 (He.ga K "all_but_last") ["grid"] (spAllBut K) := by
  obtain ⟨fd, F⟩ := T.f_all_but_last
  have Ocells_of := ok_cells_of (P := P) (w := w) (base := base) T
  refine ⟨fd, F.ok (k := 1) sc_all_but_last (fun vs H Q E h => ?_) (fun cdv A outer s_ H vs Q E hr h => ?_), F.bindsN fun _ _ _ _ _ _ us hl => match us, hl with | [_], _ => rfl, F.kp⟩
  · obtain ⟨g, rs, t, m, n, rfl, ht, hR, m1, m60, n60, q⟩ := h
    rfl
  obtain ⟨g, rs, t, m, n, rfl, ht, hR, m1, m60, n60, q⟩ := h
  have hu65 := K3.Room.units65 hr
  have hu64 := Nat.lt_of_succ_lt hu65
  have hu0 := Nat.lt_of_le_of_lt (Nat.le_add_right _ 65) hu65
  have hu1 := Nat.lt_of_le_of_lt (Nat.add_le_add_left (show 1 ≤ 65 by decide) _) hu65
  have rcells_of : Room 1 _ := hr.mono (by decide)
  refine ⟨_, pss_one (ps_ret (pe_slice sl_list (pe_f Ocells_of rcells_of T.g_cells_of (pa_cons (pv 0) pa_nil)) po_none (po_some (pe_un un_neg pe_int)))), ?_⟩
  walk_at "go"
  refine ⟨g, rs, t, m, n, rfl, ht, hR, m1, by omega, by omega, fun p H' ws e hp h hw => ?_⟩
  walk_at "go"
  refine ⟨_, rfl, ?_⟩
  walk_at "go"
  refine ⟨p, ws, rfl, SqL.of h, fun p2 hp2 => ?_⟩
  rw [cut_last]
  have e2 := Same.new hp2 (.lst ws.dropLast)
  exact q p2 _ ws.dropLast (e.trans e2) (e.free hp2) upd_same (L2.Paired.mapP (paired_drop hw) fun _ _ z => z.same e2)
theorem sc_secret_cells : FnScope ["grid", "few", "cell"] ["grid", "few"] (defScope s_secret_cells) := ⟨rfl, rfl, rfl, by decide +kernel, rfl, by decide +kernel, by decide +kernel⟩
theorem ok_secret_cells (T : Tx K mg) : Ok P w K mg base 3 (He.ga K "secret_cells") ["grid", "few"] (spSecret K) := by
  obtain ⟨fd, F⟩ := T.f_secret_cells
  have Oall_but_last := ok_all_but_last (P := P) (w := w) (base := base) T
  have Onumber_at := ok_number_at (P := P) (w := w) (base := base) T
  refine ⟨fd, F.ok (k := 2) sc_secret_cells (fun vs H Q E h => ?_) (fun cdv A outer s_ H vs Q E hr h => ?_), F.bindsN fun _ _ _ _ _ _ us hl => match us, hl with | [_, _], _ => rfl, F.kp⟩
  · obtain ⟨g, rs, t, m, n, few, rfl, ht, hR, m1, m60, n60, q⟩ := h
    rfl
  obtain ⟨g, rs, t, m, n, few, rfl, ht, hR, m1, m60, n60, q⟩ := h
  have hu65 := K3.Room.units65 hr
  have hu64 := Nat.lt_of_succ_lt hu65
  have hu0 := Nat.lt_of_le_of_lt (Nat.le_add_right _ 65) hu65
  have hu1 := Nat.lt_of_le_of_lt (Nat.add_le_add_left (show 1 ≤ 65 by decide) _) hu65
  have rall_but_last : Room 2 _ := hr.mono (by decide)
  have rnumber_at : Room 1 _ := hr.mono (by decide)
  refine ⟨_, pss_one (ps_ret (by exact pe_lc (own := [("cell", 2)]) (g := gName 2) (tt := (tB (tChain (rI0 fun i j => .bl (decide (i ≤ j))) (rI0 fun i j => .bl (decide (i < j))) (tC (.int 1)) (tCall (spNum K) [] E0 (tCons (tVar 0) (tCons (tVar 2) tNil))) (tVar 1)))) (te := (tVar 2)) (by rfl) sc_secret_cells.nd (pi_list (pe_f Oall_but_last rall_but_last T.g_all_but_last (pa_cons (pv 0) pa_nil))) (blkOk_by (own := [("cell", 2)]) (N := ["grid", "few", "cell"]) (sc := defScope s_secret_cells) (by decide +kernel)) (fun _ _ _ _ _ => (pg_name (i := 2) sc_secret_cells.nd rfl (Or.inl rfl))) (fun _ _ _ _ _ => (pts_one (pt_chain op_le op_lt pe_int (pe_f Onumber_at rnumber_at T.g_number_at (pa_cons (pv 0) (pa_cons (pv 2) pa_nil))) (pv 1)))) (fun _ _ _ _ _ => (pv 2)))), ?_⟩
  walk_at "go"
  refine lcAt_open (list_open ?_)
  walk_at "go"
  refine ⟨g, rs, t, m, n, rfl, ht, hR, m1, m60, n60, fun p1 H1 w1 e1 hp1 h1 hw1 => ?_⟩
  have l1 : w1.length ≤ 3600 := by
    rw [hw1.length, List.length_dropLast, cells_len]
    exact Nat.le_trans (Nat.sub_le _ _) (Nat.mul_le_mul m60 n60)
  refine ⟨p1, rfl, ⟨_, SqL.of h1⟩, fun D hD => ?_⟩
  refine items_gen (F := CellAt) (G := CellAt) (fun e h => CellAt.same e h) (fun e h => CellAt.tk e h) (fun k => decide (1 ≤ at2 t k.1 k.2) && decide (at2 t k.1 k.2 < few)) (fun c => c) (SqL.of h1) hw1 hD (by omega) ?_ ?_
  · intro v c H2 e2 hc hv R' r1 r2
    obtain ⟨c1, c2⟩ := cells_mem.mp (List.dropLast_subset _ hc)
    walk_at "go"
    refine ⟨rfl, ?_⟩
    walk_at "go"
    refine ⟨g, v, rs, t, m, n, c.1, c.2, rfl, (ht.same e1).same e2, hR, hv, c1, c2, ?_⟩
    walk_at "go"
    by_cases z1 : 1 ≤ at2 t c.1 c.2
    · rw [decide_eq_true z1]
      walk_at "go"
      by_cases z2 : at2 t c.1 c.2 < few
      · rw [decide_eq_true z2]
        walk_at "go"
        exact r2 _ _ (Same.refl _) (by simp [z1, z2]) hv
      · rw [decide_eq_false z2]
        walk_at "go"
        exact r1 _ (Same.refl _) (by simp [z2])
    · rw [decide_eq_false z1]
      walk_at "go"
      exact r1 _ (Same.refl _) (by simp [z1])
  intro H2 zs e2 hD2 hz
  rw [List.map_id'] at hz
  walk_at "go"
  exact q D H2 zs (e1.trans e2) (e1.free hD) hD2 hz
theorem sc_refuse_few_and_width : FnScope ["few", "width"] ["few", "width"] (defScope s_refuse_few_and_width) := ⟨rfl, rfl, rfl, by decide +kernel, rfl, by decide +kernel, by decide +kernel⟩
theorem ok_refuse_few_and_width (T : Tx K mg) : Ok P w K mg base 1 (He.ga K "refuse_few_and_width") ["few", "width"] (spRefFW K) := by
  obtain ⟨fd, F⟩ := T.f_refuse_few_and_width
  refine ⟨fd, F.ok (k := 0) sc_refuse_few_and_width (fun vs H Q E h => ?_) (fun cdv A outer s_ H vs Q E hr h => ?_), F.bindsN fun _ _ _ _ _ _ us hl => match us, hl with | [_, _], _ => rfl, F.kp⟩
  · obtain ⟨few, width, rfl, f2, w1, q⟩ := h
    rfl
  obtain ⟨few, width, rfl, f2, w1, q⟩ := h
  have hu65 := K3.Room.units65 hr
  have hu64 := Nat.lt_of_succ_lt hu65
  have hu0 := Nat.lt_of_le_of_lt (Nat.le_add_right _ 65) hu65
  have hu1 := Nat.lt_of_le_of_lt (Nat.add_le_add_left (show 1 ≤ 65 by decide) _) hu65
  refine ⟨_, pss_cons (ps_if (pt_cmpR op_lt (pv 0) (pe_gint T.i_LEAST_FEW) (nomark _)) (pss_one ps_dead) pss_nil)
      (pss_one (ps_if (pt_cmpR op_lt (pv 1) (pe_gint T.i_LEAST_WIDTH) (nomark _)) (pss_one ps_dead) pss_nil)), ?_⟩
  walk_at "go"
  rw [decide_eq_false (by omega : ¬ few < 2)]
  walk_at "go"
  rw [decide_eq_false (by omega : ¬ width < 1)]
  walk_at "go"
  exact q
theorem sc_reach_width : FnScope ["grid", "hidden", "cell"] ["grid", "hidden", "cell"] (defScope s_reach_width) := ⟨rfl, rfl, rfl, by decide +kernel, rfl, by decide +kernel, by decide +kernel⟩
theorem ok_reach_width (T : Tx K mg) : Ok P w K mg base 8 (He.ga K "reach_width") ["grid", "hidden", "cell"] (spWidth K) := by
  obtain ⟨fd, F⟩ := T.f_reach_width
  refine ⟨fd, F.ok (k := 7) sc_reach_width (fun vs H Q E h => ?_) (fun cdv A outer s_ H vs Q E hr h => ?_), F.bindsN fun _ _ _ _ _ _ us hl => match us, hl with | [_, _, _], _ => rfl, F.kp⟩
  · obtain ⟨g, h, v, rs, t, m, n, ws, cs, c, rfl, A, q⟩ := h
    rfl
  obtain ⟨g, h, v, rs, t, m, n, ws, cs, c, rfl, A, q⟩ := h
  have Omost_flow := ok_most_flow (P := P) (w := w) (base := base) T
  have rmost_flow : Room 7 _ := hr.mono (by decide)
  have Oleast_flow := ok_least_flow (P := P) (w := w) (base := base) T
  have rleast_flow : Room 7 _ := hr.mono (by decide)
  have hu65 := K3.Room.units65 hr
  have hu64 := Nat.lt_of_succ_lt hu65
  have hu0 := Nat.lt_of_le_of_lt (Nat.le_add_right _ 65) hu65
  have hu1 := Nat.lt_of_le_of_lt (Nat.add_le_add_left (show 1 ≤ 65 by decide) _) hu65
  refine ⟨_, pss_one (ps_ret (pe_op op_sub (pe_mth0 (pe_f Omost_flow rmost_flow T.g_most_flow (pa_cons (pv 0) (pa_cons (pv 1) (pa_cons (pv 2) pa_nil)))) T.cl_Flow (ok_now T) T.m_Flow_number_now (hr.mono (by decide))) (pe_mth0 (pe_f Oleast_flow rleast_flow T.g_least_flow (pa_cons (pv 0) (pa_cons (pv 1) (pa_cons (pv 2) pa_nil)))) T.cl_Flow (ok_now T) T.m_Flow_number_now (hr.mono (by decide))))), ?_⟩
  walk_at "go"
  refine w_meth ?_
  walk_at "go"
  refine ⟨g, h, v, rs, t, m, n, ws, cs, c, rfl, A, fun F2 H2 np2 rs2 e2 fl2 np20 rs20 => ?_⟩
  obtain ⟨⟨dx2, vc2, d2, kvs2, hob2, hvc2, _⟩, htab2, hrect2, hnd2, hne2⟩ := id fl2
  refine ⟨F2, _, _, rfl, hob2, rfl, w_nil ?_⟩
  refine ⟨F2, c, np2, rs2, _, m, n, _, rfl, fl2, A.c1, A.c2, ?_⟩
  refine w_meth ?_
  walk_at "go"
  refine ⟨g, h, v, rs, t, m, n, ws, cs, c, rfl, A.same e2, fun F1 H1 np1 rs1 e1 fl1 np10 rs10 => ?_⟩
  obtain ⟨⟨dx1, vc1, d1, kvs1, hob1, hvc1, _⟩, htab1, hrect1, hnd1, hne1⟩ := id fl1
  refine ⟨F1, _, _, rfl, hob1, rfl, w_nil ?_⟩
  refine ⟨F1, c, np1, rs1, _, m, n, _, rfl, fl1, A.c1, A.c2, ?_⟩
  walk_at "go"
  exact q H1 (e2.trans e1)
theorem sc_first_unsafe : FnScope ["grid", "hidden", "secret", "width", "cell"] ["grid", "hidden", "secret", "width"] (defScope s_first_unsafe) := ⟨rfl, rfl, rfl, by decide +kernel, rfl, by decide +kernel, by decide +kernel⟩
theorem ok_first_unsafe (T : Tx K mg) : Ok P w K mg base 9 (He.ga K "first_unsafe") ["grid", "hidden", "secret", "width"] (spFirstU K) := by
  obtain ⟨fd, F⟩ := T.f_first_unsafe
  have Oreach_width := ok_reach_width (P := P) (w := w) (base := base) T
  refine ⟨fd, F.ok (k := 8) sc_first_unsafe (fun vs H Q E h => ?_) (fun cdv A outer s_ H vs Q E hr h => ?_), F.bindsN fun _ _ _ _ _ _ us hl => match us, hl with | [_, _, _, _], _ => rfl, F.kp⟩
  · obtain ⟨g, h, sl, width, rs, t, m, n, ws, us, cs, ss, rfl, ht, gt, m30, n30, hh, hw, lcs, bcs, hs, hu, bss, q⟩ := h
    rfl
  obtain ⟨g, h, sl, width, rs, t, m, n, ws, us, cs, ss, rfl, ht, gt, m30, n30, hh, hw, lcs, bcs, hs, hu, bss, q⟩ := h
  have hu65 := K3.Room.units65 hr
  have hu64 := Nat.lt_of_succ_lt hu65
  have hu0 := Nat.lt_of_le_of_lt (Nat.le_add_right _ 65) hu65
  have hu1 := Nat.lt_of_le_of_lt (Nat.add_le_add_left (show 1 ≤ 65 by decide) _) hu65
  have rreach_width : Room 8 _ := hr.mono (by decide)
  refine ⟨_, pss_cons (ps_for (passes_of rfl) (by rfl) (pi_list (pv 2)) (pg_name (i := 4) sc_first_unsafe.nd rfl (Or.inl rfl)) (pss_one (ps_if (pw_or (pt_cmpR (op_notInC hu65) (pv 4) (pv 1) (by rfl)) (pw_or1 (pt_cmpR op_lt (pe_f Oreach_width rreach_width T.g_reach_width (pa_cons (pv 0) (pa_cons (pv 1) (pa_cons (pv 4) pa_nil)))) (pv 3) (nomark _)))).pt (pss_one (ps_ret (pv 4))) pss_nil)))
      (pss_one (ps_ret pe_non)), ?_⟩
  walk_at "go"
  refine list_open ?_
  walk_at "go"
  refine ⟨sl, rfl, ⟨_, SqL.of hs⟩, ?_⟩
  refine for_list (xs := us) (fun (i : Nat) σ H' => ∃ o4 : Option V, σ = [some (.ref g), some (.ref h), some (.ref sl), some (.int width), o4] ∧ Same H H' ∧ (ss.take i).find? (badF t m n cs width) = none) ⟨none, rfl, Same.refl _, rfl⟩ (fun i σ H' _ ⟨_, _, e, _⟩ => SqL.of (e _ _ hs)) ?_ ?_
  · rintro i v σ H1 hx ⟨o4, rfl, e1, sf⟩
    obtain ⟨c, hc, hv⟩ := K3.Paired.get hu hx
    obtain ⟨c1, c2⟩ := bss c (List.mem_of_getElem? hc)
    have hv1 := hv.same e1
    obtain ⟨next, bad⟩ := find_at sf hc
    have bc : badF t m n cs width c = !(decide (c ∈ cs) && decide (width ≤ widthF t m n cs c)) := rfl
    walk_at "go"
    refine ⟨h, ws, cs, c, hv1, rfl, .inl (SqL.of (e1 _ _ hh)), L2.Paired.mapP hw fun _ _ z => z.same e1, by omega, fun k hk => by have := bcs k hk; omega, ⟨by omega, by omega⟩, ?_⟩
    walk_at "go"
    by_cases z1 : c ∈ cs
    · rw [decide_eq_true z1] at bc ⊢
      walk_at "go"
      refine ⟨g, h, v, rs, t, m, n, ws, cs, c, rfl, ⟨ht.same e1, gt.rect, gt.m1, gt.n1, by omega, by omega, e1 _ _ hh, L2.Paired.mapP hw fun _ _ z => z.same e1, lcs, bcs, hv1, c1, c2, gt.nn c.1 c1 c.2 c2, gt.room c1 c2⟩, fun H2 e2 => ?_⟩
      walk_at "go"
      have e12 := e1.trans e2
      by_cases z2 : width ≤ widthF t m n cs c
      · rw [decide_eq_false (by omega : ¬ widthF t m n cs c < width)]
        walk_at "go"
        exact ⟨_, rfl, e12, next (by rw [bc, decide_eq_true z2]; rfl)⟩
      · rw [decide_eq_true (by omega : widthF t m n cs c < width)]
        walk_at "go"
        exact (q H2 e12).2 c (bad (by rw [bc, decide_eq_false z2]; rfl)) v (hv1.same e2)
    · rw [decide_eq_false z1] at bc ⊢
      walk_at "go"
      exact (q H1 e1).2 c (bad (by rw [bc]; rfl)) v hv1
  rintro σ H1 ⟨o4, rfl, e1, sf⟩
  rw [hu.length, List.take_length] at sf
  walk_at "go"
  exact (q H1 e1).1 sf
end
end K3
end G2_part
section G3_part
set_option Elab.async false
set_option linter.all false
set_option maxRecDepth 100000
set_option maxHeartbeats 1000000
set_option pp.deepTerms.threshold 5
open PySem PySem.Spec PyProof.Rows L2
/-- go on as far as nothing is open -/
local macro_rules | `(tactic| walk_at "go") => `(tactic| repeat (first
  | with_reducible refine w_seq ?_ | with_reducible refine w_next ?_ | with_reducible refine w_set ?_ | with_reducible refine w_drop ?_ | with_reducible refine w_ret ?_ | with_reducible refine w_retN ?_
  | with_reducible refine w_if ?_ | ((with_reducible refine' w_var ?hv ?_); (case hv => exact rfl)) | with_reducible refine w_c ?_ | with_reducible refine w_nil ?_ | with_reducible refine w_cons ?_ | with_reducible refine w_op ?_ | with_reducible refine w_un ?_
  | with_reducible refine w_test ?_ | with_reducible refine w_tB ?_ | with_reducible refine w_not ?_ | with_reducible refine w_and ?_ | with_reducible refine w_or ?_ | with_reducible refine w_bl ?_
  | with_reducible refine w_andV ?_ | with_reducible refine w_orV ?_ | with_reducible refine w_notV ?_ | with_reducible refine w_ifE ?_ | with_reducible refine w_chain ?_ | with_reducible refine w_i0 ?_
  | with_reducible refine w_call ?_ | with_reducible refine w_callS ?_ | with_reducible refine w_cB ?_ | with_reducible refine w_tup ?_ | with_reducible refine w_lst ?_ | with_reducible refine w_fldV ?_
  | with_reducible refine w_neF ?_ | with_reducible refine w_neT ?_ | with_reducible refine w_notN ?_ | with_reducible refine w_isN ?_ | with_reducible refine w_gname ?_ | with_reducible refine w_gsub ?_ | with_reducible refine w_asg ?_ | with_reducible refine w_sl ?_ | with_reducible refine w_noP ?_ | with_reducible refine w_int1 ?_ | with_reducible refine w_part ?_ | with_reducible refine w_yes ?_ | with_reducible refine w_nT ?_ | with_reducible refine w_nF ?_ | with_reducible refine w_iteT ?_ | with_reducible refine w_iteF ?_))
namespace L2
open PySem PySem.Spec PyProof.Rows
section
variable {X : Cx} {CX : CXT} {k n : Nat} {f : Addr} {fd : FuncData} {ps ks : List Str} {sp : Sp} {E : St → XK} {x : Str} {p pos : Pos} {e : Expr} {es : List Expr} {kws : List Keyword} {t tk : TA} {g : List Value → List Value → List Value} {gV : List V → List V → List V}
theorem run_fnNS {pins : List (Addr × Obj)} {σ : St} {H : Hp} {s : Shared} {Q : VK} {us ws : List Value} {vs zs : List V} (F : FnOk X.prog X.w X.K X.mg X.base CX k f fd ps sp) (hr : Room k X.A) (hb : KBn X.K fd ps n ks g gV) (hx : PassesAt CX X σ (E σ))
    (I : Inv X pins σ H s) (r : Vals vs us) (rz : Vals zs ws) (l1 : vs.length = n) (l2 : zs.length = ks.length) (h : sp (gV vs zs) H Q (E σ)) : wpAny (model X.prog X.w) X.A (call (.ref f) us (ks.zip ws)) (EP X pins σ Q) X.xe s := by
  have r2 := hb.rel r rz
  refine wpAny_call (codeAny_mono (F.run X.A X.stack s H ⟨us, ks.zip ws⟩ (g us ws) (gV vs zs) Q (E σ) hr I.env0 (hb.to s us ws I.kIn (r.length.symm.trans l1) (rz.length.symm.trans l2)) r2 h) fun r s' hq => ?_)
  cases r with
  | error e => exact hx pins H s e s' I hq
  | ok fl =>
    cases fl with
    | ret u => exact I.after hq
    | next => exact False.elim hq
    | brk => exact False.elim hq
    | cont => exact False.elim hq
def tCallNS (n m : Nat) (sp : Sp) (gV : List V → List V → List V) (E : St → XK) (t tk : TA) : TE := fun σ H Q => t σ H fun vs H1 => tk σ H1 fun zs H2 => vs.length = n ∧ zs.length = m ∧ sp (gV vs zs) H2 Q (E σ)
theorem pe_callNS (F : FnOk X.prog X.w X.K X.mg X.base CX k f fd ps sp) (hr : Room k X.A) (hg : Gl X x) (hm : X.mg x = some (.ref f)) (hk : PySem.W.keepIn X.K (.ref f) = true) (hb : KBn X.K fd ps n ks g gV) (hx : ∀ σ, PassesAt CX X σ (E σ))
    (ha : PA X (e :: es) t) (hkw : PK X kws tk) (hall : (backToKw pos (keywordEach kws X.env)).all (·.1.isSome) = true := by rfl) (hks : (backToKw pos (keywordEach kws X.env)).filterMap (·.1) = ks := by rfl)
    (hdb : (x == ("__debug__" : Str)) = false := by decide) (he : starEach (e :: es) X.env = (false, eval e X.env) :: starEach es X.env := by rfl)
    (hpl : ((backTo pos (starEach (e :: es) X.env)).any (·.1) || (backToKw pos (keywordEach kws X.env)).any (·.1.isNone)) = false := by rfl) :
    PE X (.Call (.Name x p) (e :: es) kws pos) (tCallNS n ks.length sp gV E t tk) := by
  refine ⟨fun pins s σ H Q I h => ?_⟩
  refine wpAny_Call_Name_kw (ld_glob I hg hm ?_ hdb)
  refine PySem.W.callWith_KW (h₀ := X.base) I.ok.mod.kin hk hall (thn (ha.run pos pins s σ H _ I h) fun us s1 ⟨vs, H1, I1, r, q⟩ => ?_) hpl he
  refine thn (hkw.run pos pins s1 σ H1 _ I1 q) fun ws s2 ⟨zs, H2, I2, rz, l1, l2, q2⟩ => ⟨I2.kIn, ?_⟩
  rw [hks]
  exact run_fnNS F hr hb (hx σ) I2 r rz l1 l2 q2
theorem pe_fKS {W : WX} (tkW : Takes X W) (O : OkK X.prog X.w X.K X.mg X.base k f ps n ks sp) (hr : Room k X.A) (hm : X.mg x = some (.ref f)) (ha : PA X (e :: es) t) (hkw : PK X kws tk) (hg : Gl X x := by rfl) (hall : (backToKw pos (keywordEach kws X.env)).all (·.1.isSome) = true := by rfl)
    (hks : (backToKw pos (keywordEach kws X.env)).filterMap (·.1) = ks := by rfl) (hdb : (x == ("__debug__" : Str)) = false := by decide) (he : starEach (e :: es) X.env = (false, eval e X.env) :: starEach es X.env := by rfl)
    (hpl : ((backTo pos (starEach (e :: es) X.env)).any (·.1) || (backToKw pos (keywordEach kws X.env)).any (·.1.isNone)) = false := by rfl) : PE X (.Call (.Name x p) (e :: es) kws pos) (tCallNS n ks.length sp (fun vs zs => vs ++ zs) (WE W) t tk) := by
  obtain ⟨fd, F, b, kp⟩ := O.run
  exact pe_callNS F hr hg hm kp b (fun σ => passAt tkW σ) ha hkw hall hks hdb he hpl
theorem w_callNS {σ : L2.St} {H : Hp} {Q : VK} {m : Nat} (h : t σ H fun vs H1 => tk σ H1 fun zs H2 => vs.length = n ∧ zs.length = m ∧ sp (vs ++ zs) H2 Q (E σ)) : tCallNS n m sp (fun vs zs => vs ++ zs) E t tk σ H Q := h
end
theorem PE.or {X : Cx} {e : Expr} {t1 t2 : TE} (a : PE X e t1) (b : PE X e t2) : PE X e (fun σ H Q => t1 σ H Q ∨ t2 σ H Q) := ⟨fun pins s σ H Q I h => h.elim (a.run pins s σ H Q I) (b.run pins s σ H Q I)⟩
end L2
namespace K3
open SLam LamX
/-! ### the refusals -/
theorem and2 {a b : Bool} (h : (a && b) = true) : a = true ∧ b = true := Bool.and_eq_true_iff.mp h
section
variable {K : PySem.W.Frag} {mg : Str → Option Value}
theorem oexcB_ok {C : Addr} (h : oexcB K C = true) : ∃ nm q N bs bm sn sub ab col dd k0 k1 k2 k3 k5, K.lookup C = some (excClassObj nm q C N bs bm true sn sub ab col dd k0 k1 k2 k3 k5 "ValueError.__new__") ∧ PySem.HandSPX.refsVE bm = true := by
  unfold oexcB at h
  split at h
  · rename_i dd cd sl ho
    split at h
    · rename_i C' bm k0 k1 k2 k3 n k5 hm hs
      simp only [Bool.and_eq_true, beq_iff_eq, Bool.not_eq_true'] at h
      obtain ⟨rfl, rfl, hdel, hhd, ht⟩ := h
      obtain ⟨nm, bs, mro, ns, qn, hd, sn, sub, ab, col, del⟩ := cd
      dsimp only at hm hdel hhd
      subst hm hdel hhd
      have hsl : sl = #[k0, k1, k2, k3, some (.builtin "ValueError.__new__"), k5] := by
        obtain ⟨l⟩ := sl
        simp only at hs
        rw [hs]
      subst hsl
      exact ⟨nm, qn, ns, bs, bm, sn, sub, ab, col, dd, k0, k1, k2, k3, k5, ho, ht⟩
    · cases h
  · cases h
/-- what K says of the error class x -/
structure ErrC (K : PySem.W.Frag) (x : Str) : Prop where
  o : OexC K (He.ga K x)
  f : XfC K (He.ga K x)
  k : kclsB K (He.ga K x) = true
  m : PySem.W.exmOne K (.ref (He.ga K x)) (.ref (He.ga K "HallError")) = some true
  v : PySem.W.kitOne K (.ref (He.ga K x)) (.type "ValueError") = some true
  i : ∀ y ∈ errN, PySem.W.kitOne K (.ref (He.ga K x)) (.ref (He.ga K y)) = some (x == y)
theorem Tx.err (T : Tx K mg) {x : Str} (hx : x ∈ errN) : ErrC K x := by
  have e := (and2 (and2 T.e).2).2
  have q := List.all_eq_true.mp e x hx
  obtain ⟨q1, q⟩ := and2 q
  obtain ⟨q2, q⟩ := and2 q
  obtain ⟨q3, q⟩ := and2 q
  obtain ⟨q4, q5⟩ := and2 q
  obtain ⟨r1, r⟩ := and2 (show (oexcB K (He.ga K x) && _) = true from q1)
  obtain ⟨r2, r⟩ := and2 r
  obtain ⟨r3, r⟩ := and2 r
  obtain ⟨r4, r5⟩ := and2 r
  have X := xfB_ok r5
  exact ⟨⟨oexcB_ok r1, eqB_ok r2, X.exC, eqB_ok r3, r4⟩, X, q2, eqB_ok q3, eqB_ok q4, fun y hy => eqB_ok (List.all_eq_true.mp q5 y hy)⟩
end
/-- an exception of the error class x, with these fields -/
def Err (K : PySem.W.Frag) (x : Str) (fs : List (Str × V)) (cls : Value) (d : Option Addr) (H : Hp) : Prop := cls = .ref (He.ga K x) ∧ ∃ dd, d = some dd ∧ H dd = some (.xd fs)
/-- __init__(self, f) of an error class -/
def spE1 (K : PySem.W.Frag) (x f : Str) : Sp := fun vs H Q _ => ∃ (a : Addr) (v : V), vs = [.ref a, v] ∧ H a = some (exo a (He.ga K x) none) ∧
  ∀ dx, H dx = none → dx ≠ a → Q .non (upd (upd H dx (exd dx [(f, v)])) a (exo a (He.ga K x) (some dx)))
def spE2 (K : PySem.W.Frag) (x f g : Str) : Sp := fun vs H Q _ => ∃ (a : Addr) (v u : V), vs = [.ref a, v, u] ∧ H a = some (exo a (He.ga K x) none) ∧
  ∀ dx, H dx = none → dx ≠ a → Q .non (upd (upd (upd H dx (exd dx [(f, v)])) a (exo a (He.ga K x) (some dx))) dx (exd dx [(g, u), (f, v)]))
/-- what the making of it asks: all that was tracked stands, its dict is new -/
def gErr1 (K : PySem.W.Frag) (x f : Str) (v : V) (H1 : Hp) (Q : XK) : Prop := [v].length ≤ 1000 ∧ ∀ a, H1 a = none → spE1 K x f (.ref a :: ([v] ++ [])) (upd H1 a (exo a (He.ga K x) none))
  (fun u H2 => u = .non ∧ ∃ (d : Addr) (fs : List (Str × V)), H2 a = some (exo a (He.ga K x) (some d)) ∧ H2 d = some (exd d fs) ∧ H1 d = none ∧ Q (.ref (He.ga K x)) (some d) (upd (del H2 a) d (.xd fs))) (fun _ _ _ => False)
def gErr2 (K : PySem.W.Frag) (x f g : Str) (v u : V) (H1 : Hp) (Q : XK) : Prop := [v, u].length ≤ 1000 ∧ ∀ a, H1 a = none → spE2 K x f g (.ref a :: ([v, u] ++ [])) (upd H1 a (exo a (He.ga K x) none))
  (fun u H2 => u = .non ∧ ∃ (d : Addr) (fs : List (Str × V)), H2 a = some (exo a (He.ga K x) (some d)) ∧ H2 d = some (exd d fs) ∧ H1 d = none ∧ Q (.ref (He.ga K x)) (some d) (upd (del H2 a) d (.xd fs))) (fun _ _ _ => False)
theorem del_none {H : Hp} {a b : Addr} (h : H a = none) (q : H b = none) : (if b = a then none else H b) = (none : Option HO) := by split <;> first | rfl | exact q
theorem gErr1_of {K : PySem.W.Frag} {x f : Str} {v : V} {H : Hp} {Q : XK} (q : ∀ (d : Addr) (H' : Hp), Same H H' → H' d = some (.xd [(f, v)]) → Q (.ref (He.ga K x)) (some d) H') : gErr1 K x f v H Q := by
  refine ⟨(by show 1 ≤ 1000; decide), fun a ha => ⟨a, v, rfl, upd_same, fun dx hd hne => ⟨rfl, dx, [(f, v)], upd_same, by rw [upd_ne hne]; exact upd_same, ?_, ?_⟩⟩⟩
  · rw [upd_ne hne] at hd
    exact hd
  · rw [upd_ne hne] at hd
    refine q dx _ (fun b o hb => ?_) upd_same
    rw [upd_ne (ne_of_none hb hd), del_ne (ne_of_none hb ha), upd_ne (ne_of_none hb ha), upd_ne (ne_of_none hb hd), upd_ne (ne_of_none hb ha)]
    exact hb
theorem gErr2_of {K : PySem.W.Frag} {x f g : Str} {v u : V} {H : Hp} {Q : XK} (q : ∀ (d : Addr) (H' : Hp), Same H H' → H' d = some (.xd [(g, u), (f, v)]) → Q (.ref (He.ga K x)) (some d) H') : gErr2 K x f g v u H Q := by
  refine ⟨(by show 2 ≤ 1000; decide), fun a ha => ⟨a, v, u, rfl, upd_same, fun dx hd hne => ⟨rfl, dx, [(g, u), (f, v)], by rw [upd_ne (Ne.symm hne)]; exact upd_same, upd_same, ?_, ?_⟩⟩⟩
  · rw [upd_ne hne] at hd
    exact hd
  · rw [upd_ne hne] at hd
    refine q dx _ (fun b o hb => ?_) upd_same
    rw [upd_ne (ne_of_none hb hd), del_ne (ne_of_none hb ha), upd_ne (ne_of_none hb hd), upd_ne (ne_of_none hb ha), upd_ne (ne_of_none hb hd), upd_ne (ne_of_none hb ha)]
    exact hb
def tErr1 (K : PySem.W.Frag) (x f : Str) (te : TE) (W : WX) : TS := fun _ σ H => te σ H fun v H1 => gErr1 K x f v H1 fun cls d H' => W cls d σ H'
def tErr2 (K : PySem.W.Frag) (x f g : Str) (te tu : TE) (W : WX) : TS := fun _ σ H => te σ H fun v H1 => tu σ H1 fun u H2 => gErr2 K x f g v u H2 fun cls d H' => W cls d σ H'
theorem w_err1 {K : PySem.W.Frag} {x f : Str} {te : TE} {W : WX} {D : Ends} {σ : L2.St} {H : Hp} (h : te σ H fun v H1 => gErr1 K x f v H1 fun cls d H' => W cls d σ H') : tErr1 K x f te W D σ H := h
theorem w_err2 {K : PySem.W.Frag} {x f g : Str} {te tu : TE} {W : WX} {D : Ends} {σ : L2.St} {H : Hp} (h : te σ H fun v H1 => tu σ H1 fun u H2 => gErr2 K x f g v u H2 fun cls d H' => W cls d σ H') : tErr2 K x f g te tu W D σ H := h
section
variable {X : Cx} {x f g : Str} {k : Nat} {fI : Addr} {p pos pos2 : Pos} {e e2 : Expr} {te te2 : TE} {ta : TA} {ps : List Str} {W : WX}
theorem ps_err1 (C : ErrC X.K x) (iC : Meth X.K (He.ga X.K x) "__init__" fI) (O : Ok X.prog X.w X.K X.mg X.base k fI ps (spE1 X.K x f)) (hr : Room (k + 1) X.A) (hm : X.mg x = some (.ref (He.ga X.K x))) (tk : Takes X W)
    (ha : PE X e te) (hc : X.calm = true := by rfl) (hg : Gl X x := by rfl) (hdb : (x == ("__debug__" : Str)) = false := by decide) (he : starEach (e :: []) X.env = (false, eval e X.env) :: starEach [] X.env := by rfl) (hpl : (backTo pos (starEach [] X.env)).any (·.1) = false := by rfl) :
    PS X (.Raise (some (.Call (.Name x p) [e] [] pos)) none pos2) (tErr1 X.K x f te W) := by
  obtain ⟨fd, F, b, kp⟩ := O.run
  exact ps_raise (pos := pos2) hc tk (pmk_oex (pos := pos) (p := p) C.o iC.at_ (beq_iff_eq.mp iC.fn) F hr b .nil passL hg hm (pa_cons ha pa_nil he) hdb he hpl)
theorem ps_err2 (C : ErrC X.K x) (iC : Meth X.K (He.ga X.K x) "__init__" fI) (O : Ok X.prog X.w X.K X.mg X.base k fI ps (spE2 X.K x f g)) (hr : Room (k + 1) X.A) (hm : X.mg x = some (.ref (He.ga X.K x))) (tk : Takes X W)
    (ha : PE X e te) (ha2 : PE X e2 te2) (hc : X.calm = true := by rfl) (hg : Gl X x := by rfl) (hdb : (x == ("__debug__" : Str)) = false := by decide) (he : starEach (e :: [e2]) X.env = (false, eval e X.env) :: starEach [e2] X.env := by rfl)
    (he2 : starEach (e2 :: []) X.env = (false, eval e2 X.env) :: starEach [] X.env := by rfl) (hpl : (backTo pos (starEach [e2] X.env)).any (·.1) = false := by rfl) :
    PS X (.Raise (some (.Call (.Name x p) [e, e2] [] pos)) none pos2) (tErr2 X.K x f g te te2 W) := by
  obtain ⟨fd, F, b, kp⟩ := O.run
  exact ps_raise (pos := pos2) hc tk (pmk_oex (pos := pos) (p := p) C.o iC.at_ (beq_iff_eq.mp iC.fn) F hr b .nil passL hg hm (pa_cons ha (pa_cons ha2 pa_nil he2) he) hdb he hpl)
end
section
variable {P : Program} {w : World} {K : PySem.W.Frag} {mg : Str → Option Value} {base : Heap}
theorem sc_NoFit : FnScope ["self", "name"] ["self", "name"] (defScope s_NoFit_init) := ⟨rfl, rfl, rfl, by decide +kernel, rfl, by decide +kernel, by decide +kernel⟩
theorem ok_NoFit (T : Tx K mg) : Ok P w K mg base 1 (He.ma K (He.ga K "NoFit") "__init__") ["self", "name"] (spE1 K "NoFit" "name") := by
  obtain ⟨fd, F⟩ := T.f_NoFit_init
  refine ⟨fd, F.ok sc_NoFit (fun vs H Q E h => ?_) (fun cdv A outer s H vs Q E hr h => ?_), F.bindsN fun _ _ _ _ _ _ us hl => match us, hl with | [_, _], _ => rfl, F.kp⟩
  · obtain ⟨a, v, rfl, _⟩ := h
    rfl
  obtain ⟨a, v, rfl, ha, q⟩ := h
  refine ⟨_, pss_one (ps_ost (pv 0) (pv 1)), ?_⟩
  exact ⟨_, rfl, _, rfl, a, _, rfl, (T.err (x := "NoFit") (by decide)).o, T.n_NoFit_name, .inl ⟨ha, fun dx hd hne => q dx hd hne⟩⟩
theorem sc_Unsafe : FnScope ["self", "cell"] ["self", "cell"] (defScope s_Unsafe_init) := ⟨rfl, rfl, rfl, by decide +kernel, rfl, by decide +kernel, by decide +kernel⟩
theorem ok_Unsafe (T : Tx K mg) : Ok P w K mg base 1 (He.ma K (He.ga K "Unsafe") "__init__") ["self", "cell"] (spE1 K "Unsafe" "cell") := by
  obtain ⟨fd, F⟩ := T.f_Unsafe_init
  refine ⟨fd, F.ok sc_Unsafe (fun vs H Q E h => ?_) (fun cdv A outer s H vs Q E hr h => ?_), F.bindsN fun _ _ _ _ _ _ us hl => match us, hl with | [_, _], _ => rfl, F.kp⟩
  · obtain ⟨a, v, rfl, _⟩ := h
    rfl
  obtain ⟨a, v, rfl, ha, q⟩ := h
  refine ⟨_, pss_one (ps_ost (pv 0) (pv 1)), ?_⟩
  exact ⟨_, rfl, _, rfl, a, _, rfl, (T.err (x := "Unsafe") (by decide)).o, T.n_Unsafe_cell, .inl ⟨ha, fun dx hd hne => q dx hd hne⟩⟩
theorem sc_BadCount : FnScope ["self", "what", "count"] ["self", "what", "count"] (defScope s_BadCount_init) := ⟨rfl, rfl, rfl, by decide +kernel, rfl, by decide +kernel, by decide +kernel⟩
theorem ok_BadCount (T : Tx K mg) : Ok P w K mg base 1 (He.ma K (He.ga K "BadCount") "__init__") ["self", "what", "count"] (spE2 K "BadCount" "what" "count") := by
  obtain ⟨fd, F⟩ := T.f_BadCount_init
  refine ⟨fd, F.ok sc_BadCount (fun vs H Q E h => ?_) (fun cdv A outer s H vs Q E hr h => ?_), F.bindsN fun _ _ _ _ _ _ us hl => match us, hl with | [_, _, _], _ => rfl, F.kp⟩
  · obtain ⟨a, v, u, rfl, _⟩ := h
    rfl
  obtain ⟨a, v, u, rfl, ha, q⟩ := h
  refine ⟨_, pss_cons (ps_ost (pv 0) (pv 1)) (pss_one (ps_ost (pv 0) (pv 2))), ?_⟩
  refine ⟨_, rfl, _, rfl, a, _, rfl, (T.err (x := "BadCount") (by decide)).o, T.n_BadCount_what, .inl ⟨ha, fun dx hd hne => ?_⟩⟩
  refine ⟨_, rfl, _, rfl, a, _, rfl, (T.err (x := "BadCount") (by decide)).o, T.n_BadCount_count, .inr ⟨dx, _, upd_same, by rw [upd_ne hne]; exact upd_same, (by show 1 ≤ 900; decide), ?_⟩⟩
  have := q dx hd hne
  exact this
theorem sc_NoCell : FnScope ["self", "row", "column"] ["self", "row", "column"] (defScope s_NoCell_init) := ⟨rfl, rfl, rfl, by decide +kernel, rfl, by decide +kernel, by decide +kernel⟩
theorem ok_NoCell (T : Tx K mg) : Ok P w K mg base 1 (He.ma K (He.ga K "NoCell") "__init__") ["self", "row", "column"] (spE2 K "NoCell" "row" "column") := by
  obtain ⟨fd, F⟩ := T.f_NoCell_init
  refine ⟨fd, F.ok sc_NoCell (fun vs H Q E h => ?_) (fun cdv A outer s H vs Q E hr h => ?_), F.bindsN fun _ _ _ _ _ _ us hl => match us, hl with | [_, _, _], _ => rfl, F.kp⟩
  · obtain ⟨a, v, u, rfl, _⟩ := h
    rfl
  obtain ⟨a, v, u, rfl, ha, q⟩ := h
  refine ⟨_, pss_cons (ps_ost (pv 0) (pv 1)) (pss_one (ps_ost (pv 0) (pv 2))), ?_⟩
  refine ⟨_, rfl, _, rfl, a, _, rfl, (T.err (x := "NoCell") (by decide)).o, T.n_NoCell_row, .inl ⟨ha, fun dx hd hne => ?_⟩⟩
  refine ⟨_, rfl, _, rfl, a, _, rfl, (T.err (x := "NoCell") (by decide)).o, T.n_NoCell_column, .inr ⟨dx, _, upd_same, by rw [upd_ne hne]; exact upd_same, (by show 1 ≤ 900; decide), ?_⟩⟩
  have := q dx hd hne
  exact this
end
end K3
end G3_part
section G4_part
set_option Elab.async false
set_option linter.all false
set_option maxRecDepth 100000
set_option maxHeartbeats 1000000
set_option pp.deepTerms.threshold 5
open PySem PySem.Spec PyProof.Rows L2
/-- go on as far as nothing is open -/
local macro_rules | `(tactic| walk_at "go") => `(tactic| repeat (first
  | with_reducible refine w_seq ?_ | with_reducible refine w_next ?_ | with_reducible refine w_set ?_ | with_reducible refine w_drop ?_ | with_reducible refine w_ret ?_ | with_reducible refine w_retN ?_
  | with_reducible refine w_if ?_ | ((with_reducible refine' w_var ?hv ?_); (case hv => exact rfl)) | with_reducible refine w_c ?_ | with_reducible refine w_nil ?_ | with_reducible refine w_cons ?_ | with_reducible refine w_op ?_ | with_reducible refine w_un ?_
  | with_reducible refine w_test ?_ | with_reducible refine w_tB ?_ | with_reducible refine w_not ?_ | with_reducible refine w_and ?_ | with_reducible refine w_or ?_ | with_reducible refine w_bl ?_
  | with_reducible refine w_andV ?_ | with_reducible refine w_orV ?_ | with_reducible refine w_notV ?_ | with_reducible refine w_ifE ?_ | with_reducible refine w_chain ?_ | with_reducible refine w_i0 ?_
  | with_reducible refine w_call ?_ | with_reducible refine w_callS ?_ | with_reducible refine w_cB ?_ | with_reducible refine w_tup ?_ | with_reducible refine w_lst ?_ | with_reducible refine w_fldV ?_
  | with_reducible refine w_neF ?_ | with_reducible refine w_neT ?_ | with_reducible refine w_notN ?_ | with_reducible refine w_isN ?_ | with_reducible refine w_gname ?_ | with_reducible refine w_gsub ?_ | with_reducible refine w_asg ?_ | with_reducible refine w_sl ?_ | with_reducible refine w_noP ?_ | with_reducible refine w_int1 ?_ | with_reducible refine w_part ?_ | with_reducible refine w_yes ?_ | with_reducible refine w_nT ?_ | with_reducible refine w_nF ?_ | with_reducible refine w_iteT ?_ | with_reducible refine w_iteF ?_))
namespace K3
open SLam LamX
theorem fit_more {t u : List (List Int)} {cs cs' : List (Nat × Nat)} {m n : Nat} (h : Fit t cs u m n) (s : ∀ k ∈ cs, k ∈ cs') : Fit t cs' u m n := ⟨h.1, h.2.1, h.2.2.1, fun i hi j hj hn => h.2.2.2 i hi j hj fun z => hn (s _ z)⟩
theorem width_mono {t : List (List Int)} {m n : Nat} {cs cs' : List (Nat × Nat)} {c : Nat × Nat} (g : Grid t m n) (hb : ∀ k ∈ cs', k.1 < m ∧ k.2 < n) (hl : cs.length ≤ 100) (hl' : cs'.length ≤ 100) (hlast : (m - 1, n - 1) ∉ cs') (s : ∀ k ∈ cs, k ∈ cs') (hc : c ∈ cs) : widthF t m n cs c ≤ widthF t m n cs' c := by
  obtain ⟨a1, a2⟩ := least_ok g (fun k hk => hb k (s k hk)) hl hc
  obtain ⟨b1, b2⟩ := least_ok g hb hl' (s c hc)
  obtain ⟨c1, c2⟩ := most_ok g (fun k hk => hb k (s k hk)) hl hc fun z => hlast (s _ z)
  obtain ⟨d1, d2⟩ := most_ok g hb hl' (s c hc) hlast
  have e1 := b2 _ (fit_more a1 s)
  have e2 := d2 _ (fit_more c1 s)
  unfold widthF
  omega
theorem safe_iff {t : List (List Int)} {m n : Nat} {cs ss : List (Nat × Nat)} {w : Int} : safeB t m n cs ss w = true ↔ ∀ c ∈ ss, c ∈ cs ∧ w ≤ widthF t m n cs c := by
  unfold safeB
  simp [List.all_eq_true]
theorem safe_mono {t : List (List Int)} {m n : Nat} {cs cs' ss : List (Nat × Nat)} {w : Int} (g : Grid t m n) (hb : ∀ k ∈ cs', k.1 < m ∧ k.2 < n) (hl : cs.length ≤ 100) (hl' : cs'.length ≤ 100) (hlast : (m - 1, n - 1) ∉ cs') (s : ∀ k ∈ cs, k ∈ cs') (h : safeB t m n cs ss w = true) : safeB t m n cs' ss w = true := by
  rw [safe_iff] at h ⊢
  intro c hc
  obtain ⟨h1, h2⟩ := h c hc
  exact ⟨s c h1, Int.le_trans h2 (width_mono g hb hl hl' hlast s h1)⟩
theorem safe_out {t : List (List Int)} {m n : Nat} {cs ss : List (Nat × Nat)} {w : Int} {c : Nat × Nat} (h1 : c ∈ ss) (h2 : c ∉ cs) : safeB t m n cs ss w = false := by
  cases h : safeB t m n cs ss w with
  | false => rfl
  | true => exact absurd (safe_iff.mp h c h1).1 h2
theorem width_same {t : List (List Int)} {m n : Nat} {cs cs' : List (Nat × Nat)} {c : Nat × Nat} (g : Grid t m n) (hb : ∀ k ∈ cs, k ∈ (cellsOf m n).dropLast) (hl : cs.length ≤ 100) (hl' : cs'.length ≤ 100) (s : ∀ k, k ∈ cs' ↔ k ∈ cs) (hc : c ∈ cs) : widthF t m n cs' c = widthF t m n cs c := by
  have inb : ∀ k ∈ cs, k.1 < m ∧ k.2 < n := fun k hk => cells_mem.mp (List.dropLast_subset _ (hb k hk))
  have last : (m - 1, n - 1) ∉ cs := fun z => (drop_mem g.m1 g.n1 (hb _ z)).2.2 rfl
  have h1 := width_mono g inb hl' hl last (fun k hk => (s k).mp hk) ((s c).mpr hc)
  have h2 := width_mono g (fun k hk => inb k ((s k).mp hk)) hl hl' (fun z => last ((s _).mp z)) (fun k hk => (s k).mpr hk) hc
  omega
theorem uns_same {t : List (List Int)} {m n : Nat} {cs cs' ss : List (Nat × Nat)} {w : Int} (g : Grid t m n) (hb : ∀ k ∈ cs, k ∈ (cellsOf m n).dropLast) (hl : cs.length ≤ 100) (hl' : cs'.length ≤ 100) (s : ∀ k, k ∈ cs' ↔ k ∈ cs) : unsF t m n cs' ss w = unsF t m n cs ss w := by
  have e : badF t m n cs' w = badF t m n cs w := funext fun c => by
    unfold badF
    by_cases h : c ∈ cs
    · rw [width_same g hb hl hl' s h, decide_eq_true h, decide_eq_true ((s c).mpr h)]
    · rw [decide_eq_false h, decide_eq_false (fun z => h ((s c).mp z))]
      rfl
  unfold unsF
  rw [e]
/-- the cells, the greatest number first, else in reading order -/
def ordF (t : List (List Int)) (cs : List (Nat × Nat)) : List (Nat × Nat) := cs.mergeSort fun a b => decide (lex3 (keyF t a) (keyF t b))
theorem key_inj {t : List (List Int)} {a b : Nat × Nat} (h : keyF t a = keyF t b) : a = b := by
  unfold keyF at h
  injection h with h1 h2
  injection h2 with h2 h3
  exact Prod.ext (by omega) (by omega)
theorem ord_one {t : List (List Int)} {cs os : List (Nat × Nat)} (p : os.Perm cs) (q : os.Pairwise fun a b => lex3 (keyF t a) (keyF t b)) : os = ordF t cs := by
  have srt : (ordF t cs).Pairwise fun a b => decide (lex3 (keyF t a) (keyF t b)) = true := List.pairwise_mergeSort (le := fun a b => decide (lex3 (keyF t a) (keyF t b))) (fun a b c h1 h2 => decide_eq_true (lex3_trans (of_decide_eq_true h1) (of_decide_eq_true h2))) (fun a b => by
        rcases lex3_total (keyF t a) (keyF t b) with h | h
        · rw [decide_eq_true h]; rfl
        · rw [decide_eq_true h, Bool.or_true]) cs
  refine List.Perm.eq_of_pairwise (le := fun a b => lex3 (keyF t a) (keyF t b)) (fun a b _ _ h1 h2 => key_inj (lex3_anti h1 h2)) q (srt.imp fun h => of_decide_eq_true h) (p.trans (List.mergeSort_perm _ _).symm)
/-- one cell's turn: shown from now on, if all stay safe -/
def stepF (t : List (List Int)) (m n : Nat) (ss : List (Nat × Nat)) (w : Int) (hi : List (Nat × Nat)) (c : Nat × Nat) : List (Nat × Nat) := if c ∉ ss ∧ unsF t m n (othersF hi c) ss w = none then othersF hi c else hi
def hidF (t : List (List Int)) (m n : Nat) (few w : Int) : List (Nat × Nat) := (ordF t (cellsOf m n).dropLast).foldl (stepF t m n (secretL t m n few) w) (cellsOf m n).dropLast
theorem step_sub {t : List (List Int)} {m n : Nat} {ss : List (Nat × Nat)} {w : Int} {hi : List (Nat × Nat)} {c : Nat × Nat} : (∀ k ∈ stepF t m n ss w hi c, k ∈ hi) ∧ (stepF t m n ss w hi c).length ≤ hi.length := by
  unfold stepF
  split
  · exact ⟨fun k hk => (others_mem.mp hk).1, List.length_filter_le _ _⟩
  · exact ⟨fun _ h => h, Nat.le_refl _⟩
theorem steps_sub {t : List (List Int)} {m n : Nat} {ss : List (Nat × Nat)} {w : Int} : ∀ (os hi : List (Nat × Nat)), (∀ k ∈ os.foldl (stepF t m n ss w) hi, k ∈ hi) ∧ (os.foldl (stepF t m n ss w) hi).length ≤ hi.length
  | [], hi => ⟨fun _ h => h, Nat.le_refl _⟩
  | c :: os, hi => by
    obtain ⟨a1, a2⟩ := steps_sub os (stepF t m n ss w hi c)
    obtain ⟨b1, b2⟩ := step_sub (t := t) (m := m) (n := n) (ss := ss) (w := w) (hi := hi) (c := c)
    exact ⟨fun k hk => b1 k (a1 k hk), Nat.le_trans a2 b2⟩
theorem hid_sub {t : List (List Int)} {m n : Nat} {few w : Int} : (∀ k ∈ hidF t m n few w, k ∈ (cellsOf m n).dropLast) ∧ (hidF t m n few w).length ≤ (cellsOf m n).dropLast.length := steps_sub _ _
/-- an object apart from all that was known -/
def Apart (H : Hp) (p : Addr) : Prop := ∀ q o, H q = some o → (∀ ps, o ≠ .tbl ps) → q ≠ p
theorem Apart.none {H : Hp} {p : Addr} (h : H p = none) : Apart H p := fun q o e _ z => by rw [z, h] at e; cases e
theorem Apart.ext {H H' : Hp} (e : ExtN H H') {p : Addr} (h : Apart H' p) : Apart H p := fun q o hq n => h q o (e q o hq n) n
def spHidC (TT : List (Addr × Str)) (K : PySem.W.Frag) : Sp := fun vs H Q E => ∃ (g : Addr) (few width : Int) (rs : List Addr) (t : List (List Int)) (m n : Nat), vs = [.ref g, .int few, .int width] ∧ GT K H g rs t ∧ Grid t m n ∧ m ≤ 10 ∧ n ≤ 10 ∧ 2 ≤ few ∧ 1 ≤ width ∧ Tabs (TT) H ∧
  (unsF t m n (cellsOf m n).dropLast (secretL t m n few) width = none → ∀ p H' ws, ExtN H H' → Tabs (TT) H' → Apart H p → H' p = some (.lst ws) → Paired (CellAt H') ws (hidF t m n few width) → Q (.ref p) H') ∧
  (∀ c, unsF t m n (cellsOf m n).dropLast (secretL t m n few) width = some c → ∀ d H' v, Same H H' → H' d = some (.xd [("cell", v)]) → CellAt H' v c → E (.ref (He.ga K "Unsafe")) (some d) H')
def spSafe (K : PySem.W.Frag) : Sp := fun vs H Q _ => ∃ (g : Addr) (hv : V) (few width : Int) (rs : List Addr) (t : List (List Int)) (m n : Nat) (hs : List (Nat × Nat)), vs = [.ref g, hv, .int few, .int width] ∧ GT K H g rs t ∧ Grid t m n ∧ m ≤ 10 ∧ n ≤ 10 ∧ 2 ≤ few ∧ 1 ≤ width ∧ HidIn K H hv hs m n ∧
  ∀ H', Same H H' → Q (.bl (decide (unsF t m n hs (secretL t m n few) width = none))) H'
section
variable {P : Program} {w : World} {K : PySem.W.Frag} {mg : Str → Option Value} {base : Heap}
theorem sc_hidden_cells : FnScope ["grid", "few", "width", "secret", "hidden", "unsafe", "cell", "fewer", "other"] ["grid", "few", "width"] (defScope s_hidden_cells) := ⟨rfl, rfl, rfl, by decide +kernel, rfl, by decide +kernel, by decide +kernel⟩
theorem ok_hidden_cells {ct PT : Addr} {TT : List (Addr × Str)} (T : Tx K mg) (B : Told K mg base "greatest_first" ct PT TT) : OkK P w K mg base 10 (He.ga K "hidden_cells") ["grid", "few", "width"] 1 ["few", "width"] (spHidC TT K) := by
  obtain ⟨fd, F⟩ := T.f_hidden_cells
  have Orefuse_few_and_width := ok_refuse_few_and_width (P := P) (w := w) (base := base) T
  have Osecret_cells := ok_secret_cells (P := P) (w := w) (base := base) T
  have Oall_but_last := ok_all_but_last (P := P) (w := w) (base := base) T
  have Ofirst_unsafe := ok_first_unsafe (P := P) (w := w) (base := base) T
  have Ogreatest_first := ok_greatest_first (P := P) (w := w) (base := base) T B
  refine ⟨fd, F.ok (k := 9) sc_hidden_cells (fun vs H Q E h => ?_) (fun cdv A outer s_ H vs Q E hr h => ?_), kb_of F fun _ _ _ _ _ _ us ws h1 h2 => match us, ws, h1, h2 with | [_], [_, _], _, _ => rfl, F.kp⟩
  · obtain ⟨g, few, width, rs, t, m, n, rfl, _⟩ := h
    rfl
  obtain ⟨g, few, width, rs, t, m, n, rfl, ht, gt, m10, n10, f2, w1, hT, q1, q2⟩ := h
  have hu65 := K3.Room.units65 hr
  have hu64 := Nat.lt_of_succ_lt hu65
  have rrefuse_few_and_width : Room 1 _ := hr.mono (by decide)
  have rsecret_cells : Room 3 _ := hr.mono (by decide)
  have rall_but_last : Room 2 _ := hr.mono (by decide)
  have rfirst_unsafe : Room 9 _ := hr
  have rgreatest_first : Room 5 _ := hr.mono (by decide)
  have hR := gt.rect
  have m1 := gt.m1
  have n1 := gt.n1
  have m60 : m ≤ 60 := by omega
  have n60 : n ≤ 60 := by omega
  have m30 : m ≤ 30 := by omega
  have n30 : n ≤ 30 := by omega
  have hl : (cellsOf m n).dropLast.length ≤ 100 := by
    rw [List.length_dropLast, cells_len]
    exact Nat.le_trans (Nat.sub_le _ _) (Nat.mul_le_mul m10 n10)
  have inb : ∀ k ∈ (cellsOf m n).dropLast, k.1 < m ∧ k.2 < n := fun k hk => cells_mem.mp (List.dropLast_subset _ hk)
  have ins : ∀ k ∈ secretL t m n few, k.1 < m ∧ k.2 < n := fun k hk => inb k (List.mem_filter.mp hk).1
  have ls : (secretL t m n few).length ≤ 100 := Nat.le_trans (List.length_filter_le _ _) hl
  have lastc : (m - 1, n - 1) ∉ (cellsOf m n).dropLast := fun z => (drop_mem m1 n1 z).2.2 rfl
  unfold hidF at q1
  generalize hS : secretL t m n few = ss at q1 q2 ins ls
  generalize hC : (cellsOf m n).dropLast = cs at q1 q2 hl inb lastc
  refine ⟨_, pss_cons (ps_expr (pe_f Orefuse_few_and_width rrefuse_few_and_width T.g_refuse_few_and_width (pa_cons (pv 1) (pa_cons (pv 2) pa_nil))))
      (pss_cons (ps_set (i := 3) sc_hidden_cells.nd rfl (Or.inl rfl) (pe_f Osecret_cells rsecret_cells T.g_secret_cells (pa_cons (pv 0) (pa_cons (pv 1) pa_nil))))
      (pss_cons (ps_set (i := 4) sc_hidden_cells.nd rfl (Or.inl rfl) (pe_f Oall_but_last rall_but_last T.g_all_but_last (pa_cons (pv 0) pa_nil)))
      (pss_cons (ps_set (i := 5) sc_hidden_cells.nd rfl (Or.inl rfl) (pe_f Ofirst_unsafe rfirst_unsafe T.g_first_unsafe (pa_cons (pv 0) (pa_cons (pv 4) (pa_cons (pv 3) (pa_cons (pv 2) pa_nil))))))
      (pss_cons (ps_if (pt_cmp (pc_notN (pv 5))) (pss_one (ps_err1 (T.err (x := "Unsafe") (by decide)) T.m_Unsafe_init (ok_Unsafe T) (hr.mono (by decide)) T.g_Unsafe (takes_of rfl rfl rfl rfl) (pv 5))) pss_nil)
      (pss_cons (ps_for (passes_of rfl) (by rfl) (pi_list (pe_f Ogreatest_first rgreatest_first T.g_greatest_first (pa_cons (pv 0) (pa_cons (pv 4) pa_nil)))) (pg_name (i := 6) sc_hidden_cells.nd rfl (Or.inr rfl)) (pss_cons (by exact ps_setLc (i := 7) (own := [("other", 8)]) (g := gName 8) (tt := (tTest (tOp (rNeD K) (tVar 8) (tVar 6)))) (te := (tVar 8)) (by rfl) sc_hidden_cells.nd rfl rfl (by rfl) (pi_list (pv 4)) (blkOk_by (own := [("other", 8)]) (N := ["grid", "few", "width", "secret", "hidden", "unsafe", "cell", "fewer", "other"]) (sc := defScope s_hidden_cells) (by decide +kernel)) (fun _ _ _ _ _ => (pg_name (i := 8) sc_hidden_cells.nd rfl (Or.inl rfl))) (fun _ _ _ _ _ => (pts_one (pt_cmpR (op_neD hu64) (pv 8) (pv 6) (nomark _)))) (fun _ _ _ _ _ => (pv 8)))
      (pss_one (ps_if (pw_and (pt_cmpR (op_notInC hu65) (pv 6) (pv 3) (by rfl)) (pw_and1 (pt_cmp (pc_isN (pe_f Ofirst_unsafe rfirst_unsafe T.g_first_unsafe (pa_cons (pv 0) (pa_cons (pv 7) (pa_cons (pv 3) (pa_cons (pv 2) pa_nil))))))))).pt (pss_one (ps_set (i := 4) sc_hidden_cells.nd rfl (Or.inl rfl) (pv 7))) pss_nil))))
      (pss_one (ps_ret (pv 4)))))))), ?_⟩
  walk_at "go"
  refine ⟨few, width, rfl, f2, w1, ?_⟩
  walk_at "go"
  refine ⟨g, rs, t, m, n, few, rfl, ht, hR, m1, m60, n60, fun sl H1 us e1 sl0 hs hu => ?_⟩
  rw [hS] at hu
  walk_at "go"
  refine ⟨g, rs, t, m, n, rfl, ht.same e1, hR, m1, m60, n60, fun ph H2 wh e2 ph0 hh hw => ?_⟩
  rw [hC] at hw
  have e12 := e1.trans e2
  have hs2 := e2 _ _ hs
  have hu2 := L2.Paired.mapP hu fun _ _ z => CellAt.same e2 z
  walk_at "go"
  refine ⟨g, ph, sl, width, rs, t, m, n, wh, us, cs, ss, rfl, ht.same e12, gt, m30, n30, hh, hw, hl, inb, hs2, hu2, ins, fun H3 e3 => ⟨fun sf => ?_, fun c sf v hv => ?_⟩⟩
  case refine_2 =>
    obtain ⟨va, rfl, hva⟩ := id hv
    walk_at "go"
    rw [decide_eq_false ((fun z => nomatch z) : ¬ V.ref va = V.non)]
    walk_at "go"
    refine w_err1 ?_
    walk_at "go"
    exact gErr1_of fun d H4 e4 hd => q2 c sf d H4 _ ((e12.trans e3).trans e4) hd (hv.same e4)
  have e123 := e12.trans e3
  walk_at "go"
  rw [decide_eq_true (rfl : V.non = V.non)]
  walk_at "go"
  refine list_open ?_
  walk_at "go"
  refine ⟨g, ph, rs, t, m, n, wh, cs, rfl, ht.same e123, hR, e3 _ _ hh, L2.Paired.mapP hw fun _ _ z => CellAt.same e3 z, hl, inb, hT.ext e123, fun p H4 ws' hs' e4 t4 hp hw' pm srt => ?_⟩
  have hord : hs' = ordF t cs := ord_one pm srt
  have mem : ∀ k, k ∈ hs' ↔ k ∈ cs := fun k => pm.mem_iff
  rw [← hord] at q1
  refine ⟨p, rfl, ⟨_, SqL.of hp⟩, ?_⟩
  have ht4 := (ht.same e123).extn e4
  have hs4 := e4 _ _ (e3 _ _ hs2) fun ps z => by cases z
  have hu4 := L2.Paired.mapP hu2 fun _ _ z => CellAt.extn e4 (CellAt.same e3 z)
  have hh4 := e4 _ _ (e3 _ _ hh) fun ps z => by cases z
  have hw4 := L2.Paired.mapP hw fun _ _ z => CellAt.extn e4 (CellAt.same e3 z)
  have eN : ∀ {H'}, Same H4 H' → ExtN H H' := fun e => ((ExtN.of e123).trans e4).trans (ExtN.of e)
  have ap0 : Apart H ph := (Apart.none ph0).ext (ExtN.of e1)
  clear hh hw hs hu hs2 hu2 ht e1 e2 e3 e12 e123 e4 hT sl0 ph0
  refine for_list (xs := ws') (fun (i : Nat) σ H' => ∃ (pi : Addr) (wi : List V) (hi : List (Nat × Nat)) (o6 o7 o8 : Option V), σ = [some (.ref g), some (.int few), some (.int width), some (.ref sl), some (.ref pi), some .non, o6, o7, o8] ∧ Same H4 H' ∧ H' pi = some (.lst wi) ∧ Paired (CellAt H') wi hi ∧ (∀ k ∈ hi, k ∈ cs) ∧ hi.length ≤ 100 ∧ Apart H pi ∧ (hs'.take i).foldl (stepF t m n ss width) cs = hi)
    ⟨ph, wh, cs, none, none, none, rfl, Same.refl _, hh4, hw4, fun _ h => h, hl, ap0, rfl⟩ (fun i σ H' _ ⟨_, _, _, _, _, _, _, e, _⟩ => SqL.of (e _ _ hp)) ?_ ?_
  · rintro i v σ H5 hx ⟨pi, wi, hi, o6, o7, o8, rfl, e5, hpi, hwi, sub, lhi, api, fold⟩
    obtain ⟨c, hc, hv⟩ := K3.Paired.get hw' hx
    have hcm : c ∈ cs := (mem c).mp (List.mem_of_getElem? hc)
    obtain ⟨c1, c2⟩ := inb c hcm
    have hv5 := hv.same e5
    have lo : (othersF hi c).length ≤ 100 := Nat.le_trans (List.length_filter_le _ _) lhi
    have subo : ∀ k ∈ othersF hi c, k ∈ cs := fun k hk => sub k (others_mem.mp hk).1
    have nxt : (hs'.take (i + 1)).foldl (stepF t m n ss width) cs = stepF t m n ss width hi c := by
      rw [List.take_add_one, hc, List.foldl_append, fold]
      rfl
    walk_at "go"
    refine lcAt_open (list_open ?_)
    walk_at "go"
    refine ⟨pi, rfl, ⟨_, SqL.of hpi⟩, fun D hD => ?_⟩
    refine items_gen (F := CellAt) (G := CellAt) (fun e h => CellAt.same e h) (fun e h => CellAt.tk e h) (fun k => !decide (k = c)) (fun c => c) (SqL.of hpi) hwi hD (by rw [hwi.length]; omega) ?_ ?_
    · intro v' c' H6 e6 hc' hv' R' r1 r2
      walk_at "go"
      refine ⟨rfl, ?_⟩
      walk_at "go"
      refine ⟨cellD c', cellD c, cell_dp hv', cell_dp (hv5.same e6), cell_shaped _, cell_shaped _, ?_⟩
      rw [cell_eqv]
      by_cases z : c' = c
      · rw [decide_eq_true z]
        walk_at "go"
        exact r1 _ (Same.refl _) (by rw [decide_eq_true z]; rfl)
      · rw [decide_eq_false z]
        walk_at "go"
        exact r2 _ _ (Same.refl _) (by rw [decide_eq_false z]; rfl) hv'
    intro H6 zs e6 hD6 hz
    rw [List.map_id'] at hz
    have hz : Paired (CellAt H6) zs (othersF hi c) := hz
    have e56 := e5.trans e6
    walk_at "go"
    refine ⟨sl, us, ss, c, hv5.same e6, rfl, .inl (SqL.of (e56 _ _ hs4)), L2.Paired.mapP hu4 fun _ _ z => z.same e56, by omega, fun k hk => by have := ins k hk; omega, ⟨by omega, by omega⟩, ?_⟩
    by_cases z1 : c ∈ ss
    · rw [decide_eq_true z1]
      walk_at "go"
      exact ⟨pi, wi, hi, _, _, _, rfl, e56, e6 _ _ hpi, L2.Paired.mapP hwi fun _ _ z => CellAt.same e6 z, sub, lhi, api, by rw [nxt]; unfold stepF; rw [if_neg fun z => z.1 z1]⟩
    · rw [decide_eq_false z1]
      walk_at "go"
      refine ⟨g, D, sl, width, rs, t, m, n, zs, us, othersF hi c, ss, rfl, ht4.same e56, gt, m30, n30, hD6, hz, lo, fun k hk => inb k (subo k hk), e56 _ _ hs4, L2.Paired.mapP hu4 fun _ _ z => z.same e56, ins, fun H7 e7 => ⟨fun sf2 => ?_, fun k2 sf2 v2 hv2 => ?_⟩⟩
      · walk_at "go"
        rw [decide_eq_true (rfl : V.non = V.non)]
        walk_at "go"
        exact ⟨D, zs, othersF hi c, _, _, _, rfl, e56.trans e7, e7 _ _ hD6, L2.Paired.mapP hz fun _ _ z => CellAt.same e7 z, subo, lo, (Apart.none hD).ext (eN e5), by rw [nxt]; unfold stepF; rw [if_pos ⟨z1, sf2⟩]⟩
      · obtain ⟨va, rfl, hva⟩ := hv2
        walk_at "go"
        rw [decide_eq_false ((fun z => nomatch z) : ¬ V.ref va = V.non)]
        walk_at "go"
        exact ⟨pi, wi, hi, _, _, _, rfl, e56.trans e7, e7 _ _ (e6 _ _ hpi), L2.Paired.mapP hwi fun _ _ z => CellAt.same e7 (CellAt.same e6 z), sub, lhi, api, by rw [nxt]; unfold stepF; rw [if_neg fun z => by rw [sf2] at z; cases z.2]⟩
  · rintro σ H5 ⟨pi, wi, hi, o6, o7, o8, rfl, e5, hpi, hwi, sub, lhi, api, fold⟩
    have lw : hs'.length = ws'.length := hw'.length.symm
    rw [← lw, List.take_length] at fold
    subst fold
    walk_at "go"
    exact q1 sf pi H5 wi (eN e5) (t4.ext e5) api hpi hwi
theorem sc_is_safe : FnScope ["grid", "hidden", "few", "width", "cells"] ["grid", "hidden", "few", "width"] (defScope s_is_safe) := ⟨rfl, rfl, rfl, by decide +kernel, rfl, by decide +kernel, by decide +kernel⟩
theorem ok_is_safe (T : Tx K mg) : OkK P w K mg base 10 (He.ga K "is_safe") ["grid", "hidden", "few", "width"] 2 ["few", "width"] (spSafe K) := by
  obtain ⟨fd, F⟩ := T.f_is_safe
  have Orefuse_few_and_width := ok_refuse_few_and_width (P := P) (w := w) (base := base) T
  have Osecret_cells := ok_secret_cells (P := P) (w := w) (base := base) T
  have Oread_hidden := ok_read_hidden (P := P) (w := w) (base := base) T
  have Ofirst_unsafe := ok_first_unsafe (P := P) (w := w) (base := base) T
  refine ⟨fd, F.ok (k := 9) sc_is_safe (fun vs H Q E h => ?_) (fun cdv A outer s_ H vs Q E hr h => ?_), kb_of F fun _ _ _ _ _ _ us ws h1 h2 => match us, ws, h1, h2 with | [_, _], [_, _], _, _ => rfl, F.kp⟩
  · obtain ⟨g, hv, few, width, rs, t, m, n, hs, rfl, _⟩ := h
    rfl
  obtain ⟨g, hv, few, width, rs, t, m, n, hs, rfl, ht, gt, m10, n10, f2, w1, hh, q⟩ := h
  have rrefuse_few_and_width : Room 1 _ := hr.mono (by decide)
  have rsecret_cells : Room 3 _ := hr.mono (by decide)
  have rread_hidden : Room 2 _ := hr.mono (by decide)
  have rfirst_unsafe : Room 9 _ := hr
  have hR := gt.rect
  have m1 := gt.m1
  have n1 := gt.n1
  have m60 : m ≤ 60 := by omega
  have n60 : n ≤ 60 := by omega
  refine ⟨_, pss_cons (ps_expr (pe_f Orefuse_few_and_width rrefuse_few_and_width T.g_refuse_few_and_width (pa_cons (pv 2) (pa_cons (pv 3) pa_nil))))
      (pss_cons (ps_set (i := 4) sc_is_safe.nd rfl (Or.inl rfl) (pe_f Oread_hidden rread_hidden T.g_read_hidden (pa_cons (pv 0) (pa_cons (pv 1) pa_nil))))
      (pss_one (ps_ret (pe_cmpR op_isN (pe_f Ofirst_unsafe rfirst_unsafe T.g_first_unsafe (pa_cons (pv 0) (pa_cons (pv 4) (pa_cons (pe_f Osecret_cells rsecret_cells T.g_secret_cells (pa_cons (pv 0) (pa_cons (pv 2) pa_nil))) (pa_cons (pv 3) pa_nil))))) pe_non rfl)))), ?_⟩
  walk_at "go"
  refine ⟨few, width, rfl, f2, w1, ?_⟩
  walk_at "go"
  obtain ⟨hp, hws, hpe, hsq, hcells, hmem, hlen⟩ := id hh
  refine ⟨g, hv, rs, t, m, n, hs, rfl, ht, hR, m1, n1, m60, n60, hh, fun l H1 ws cs e1 h1 hw1 hcs lcs srt => ?_⟩
  walk_at "go"
  refine ⟨g, rs, t, m, n, few, rfl, ht.same e1, hR, m1, m60, n60, fun sl H2 us e2 sl0 hs2 hu2 => ?_⟩
  have e12 := e1.trans e2
  walk_at "go"
  have inb : ∀ k ∈ cs, k.1 < m ∧ k.2 < n := fun k hk => cells_mem.mp (List.dropLast_subset _ (hmem k ((hcs k).mp hk)))
  refine ⟨g, l, sl, width, rs, t, m, n, ws, us, cs, secretL t m n few, rfl, ht.same e12, gt, by omega, by omega, e2 _ _ h1, L2.Paired.mapP hw1 fun _ _ z => CellAt.same e2 z, by omega, inb, hs2, hu2, fun k hk => cells_mem.mp (List.dropLast_subset _ (List.mem_filter.mp hk).1), fun H3 e3 => ⟨fun sf => ?_, fun c sf v hv => ?_⟩⟩
  · walk_at "go"
    refine ⟨rfl, ?_⟩
    have := q H3 (e12.trans e3)
    rw [← uns_same gt hmem (by omega) (by omega) hcs, decide_eq_true sf] at this
    rw [decide_eq_true (rfl : V.non = V.non)]
    exact this
  · obtain ⟨va, rfl, hva⟩ := id hv
    walk_at "go"
    refine ⟨rfl, ?_⟩
    have := q H3 (e12.trans e3)
    rw [← uns_same gt hmem (by omega) (by omega) hcs, decide_eq_false (fun z => by rw [sf] at z; cases z)] at this
    rw [decide_eq_false ((fun z => nomatch z) : ¬ V.ref va = V.non)]
    exact this
end
end K3
end G4_part
section X1_part
set_option Elab.async false
set_option linter.all false
set_option maxRecDepth 100000
set_option maxHeartbeats 1000000
set_option pp.deepTerms.threshold 5
open PySem PySem.Spec PyProof.Rows L2
/-- go on as far as nothing is open -/
local macro_rules | `(tactic| walk_at "go") => `(tactic| repeat (first
  | with_reducible refine w_seq ?_ | with_reducible refine w_next ?_ | with_reducible refine w_set ?_ | with_reducible refine w_drop ?_ | with_reducible refine w_ret ?_ | with_reducible refine w_retN ?_
  | with_reducible refine w_if ?_ | ((with_reducible refine' w_var ?hv ?_); (case hv => exact rfl)) | with_reducible refine w_c ?_ | with_reducible refine w_nil ?_ | with_reducible refine w_cons ?_ | with_reducible refine w_op ?_ | with_reducible refine w_un ?_
  | with_reducible refine w_test ?_ | with_reducible refine w_tB ?_ | with_reducible refine w_not ?_ | with_reducible refine w_and ?_ | with_reducible refine w_or ?_ | with_reducible refine w_bl ?_
  | with_reducible refine w_andV ?_ | with_reducible refine w_orV ?_ | with_reducible refine w_notV ?_ | with_reducible refine w_ifE ?_ | with_reducible refine w_chain ?_ | with_reducible refine w_i0 ?_
  | with_reducible refine w_call ?_ | with_reducible refine w_callS ?_ | with_reducible refine w_cB ?_ | with_reducible refine w_tup ?_ | with_reducible refine w_lst ?_ | with_reducible refine w_fldV ?_
  | with_reducible refine w_neF ?_ | with_reducible refine w_neT ?_ | with_reducible refine w_notN ?_ | with_reducible refine w_isN ?_ | with_reducible refine w_gname ?_ | with_reducible refine w_gsub ?_ | with_reducible refine w_asg ?_ | with_reducible refine w_sl ?_ | with_reducible refine w_noP ?_ | with_reducible refine w_int1 ?_ | with_reducible refine w_part ?_ | with_reducible refine w_yes ?_ | with_reducible refine w_nT ?_ | with_reducible refine w_nF ?_ | with_reducible refine w_iteT ?_ | with_reducible refine w_iteF ?_))

namespace K3
open SLam LamX
/-! ### what is refused -/
def CellI (H : Hp) (v : V) (c : Int × Int) : Prop := ∃ a, v = .ref a ∧ H a = some (.tup [.int c.1, .int c.2])
theorem CellI.same {H H' : Hp} (e : Same H H') {v : V} {c : Int × Int} (h : CellI H v c) : CellI H' v c := let ⟨a, h1, h2⟩ := h; ⟨a, h1, e _ _ h2⟩
theorem CellI.ext {H H' : Hp} (e : ExtN H H') {v : V} {c : Int × Int} (h : CellI H v c) : CellI H' v c := let ⟨a, h1, h2⟩ := h; ⟨a, h1, e _ _ h2 fun ps z => by cases z⟩
theorem CellI.tk {H H' : Hp} (e : Tk H H') {v : V} {c : Int × Int} (h : CellI H v c) : CellI H' v c := let ⟨a, h1, h2⟩ := h; ⟨a, h1, e _ _ h2⟩
def inB (m n : Nat) (c : Int × Int) : Prop := 0 ≤ c.1 ∧ c.1 < (m : Int) ∧ 0 ≤ c.2 ∧ c.2 < (n : Int)
instance (m n : Nat) (c : Int × Int) : Decidable (inB m n c) := by unfold inB; infer_instance
def natC (c : Int × Int) : Nat × Nat := (c.1.toNat, c.2.toNat)
theorem CellI.nat {H : Hp} {v : V} {c : Int × Int} {m n : Nat} (h : CellI H v c) (b : inB m n c) : CellAt H v (natC c) := by
  obtain ⟨a, e, h⟩ := h
  obtain ⟨b1, b2, b3, b4⟩ := b
  refine ⟨a, e, ?_⟩
  rw [h]
  unfold natC
  rw [Int.toNat_of_nonneg b1, Int.toNat_of_nonneg b3]
def NoC (K : PySem.W.Frag) (H : Hp) (E : XK) (c : Int × Int) : Prop := ∀ d H', Same H H' → H' d = some (.xd [("column", .int c.2), ("row", .int c.1)]) → E (.ref (He.ga K "NoCell")) (some d) H'
def NoF (K : PySem.W.Frag) (H : Hp) (E : XK) : Prop := ∀ d H', Same H H' → H' d = some (.xd [("name", .str ("cell" : Str))]) → E (.ref (He.ga K "NoFit")) (some d) H'
def BadC (K : PySem.W.Frag) (H : Hp) (E : XK) (what : Str) (x : Int) : Prop := ∀ d H', Same H H' → H' d = some (.xd [("count", .int x), ("what", .str what)]) → E (.ref (He.ga K "BadCount")) (some d) H'
theorem NoC.mono {K : PySem.W.Frag} {H H1 : Hp} {E : XK} {c : Int × Int} (h : NoC K H E c) (s : Same H H1) : NoC K H1 E c := fun d H' e => h d H' (s.trans e)
theorem NoF.mono {K : PySem.W.Frag} {H H1 : Hp} {E : XK} (h : NoF K H E) (s : Same H H1) : NoF K H1 E := fun d H' e => h d H' (s.trans e)
theorem BadC.mono {K : PySem.W.Frag} {H H1 : Hp} {E : XK} {w : Str} {x : Int} (h : BadC K H E w x) (s : Same H H1) : BadC K H1 E w x := fun d H' e => h d H' (s.trans e)
def spRefuseE (K : PySem.W.Frag) : Sp := fun vs H _ E => ∃ (g : Addr) (v : V) (rs : List Addr) (t : List (List Int)) (m n : Nat) (c : Int × Int), vs = [.ref g, v] ∧ GT K H g rs t ∧ Rect t m n ∧ 1 ≤ m ∧ CellI H v c ∧ ¬ inB m n c ∧ NoC K H E c
/-- what a hidden cell is refused for -/
def badC (m n : Nat) (c : Int × Int) : Bool := !decide (inB m n c) || decide (natC c = (m - 1, n - 1))
def HidI (H : Hp) (v : V) (hs : List (Int × Int)) : Prop := ∃ p ws, v = .ref p ∧ H p = some (.lst ws) ∧ Paired (CellI H) ws hs ∧ hs.length ≤ 100
def spReadE (K : PySem.W.Frag) : Sp := fun vs H _ E => ∃ (g : Addr) (hv : V) (rs : List Addr) (t : List (List Int)) (m n : Nat) (hs : List (Int × Int)) (c : Int × Int), vs = [.ref g, hv] ∧ GT K H g rs t ∧ Rect t m n ∧ 1 ≤ m ∧ 1 ≤ n ∧ m ≤ 60 ∧ n ≤ 60 ∧ HidI H hv hs ∧ hs.find? (badC m n) = some c ∧ NoC K H E c
def spShownE (K : PySem.W.Frag) : Sp := fun vs H _ E => ∃ (g l : Addr) (v : V) (rs : List Addr) (t : List (List Int)) (m n : Nat) (ws : List V) (cs : List (Nat × Nat)) (c : Int × Int), vs = [.ref g, .ref l, v] ∧ GT K H g rs t ∧ Rect t m n ∧ 1 ≤ m ∧ 1 ≤ n ∧ m ≤ 60 ∧ n ≤ 60 ∧ H l = some (.lst ws) ∧ Paired (CellAt H) ws cs ∧ cs.length ≤ 100 ∧ (∀ k ∈ cs, k.1 < m ∧ k.2 < n) ∧ CellI H v c ∧
  ((¬ inB m n c ∧ NoC K H E c) ∨ (inB m n c ∧ natC c ∉ cs ∧ NoF K H E))
/-- asked of hidden cells, one of which is none, or of a cell that is not hidden -/
def AskE (K : PySem.W.Frag) (H : Hp) (E : XK) (hv v : V) (m n : Nat) : Prop := (∃ hs c, HidI H hv hs ∧ hs.find? (badC m n) = some c ∧ NoC K H E c) ∨ ∃ hs c, HidIn K H hv hs m n ∧ CellI H v c ∧ ((¬ inB m n c ∧ NoC K H E c) ∨ (inB m n c ∧ natC c ∉ hs ∧ NoF K H E))
def spAskE (K : PySem.W.Frag) : Sp := fun vs H _ E => ∃ (g : Addr) (hv v : V) (rs : List Addr) (t : List (List Int)) (m n : Nat), vs = [.ref g, hv, v] ∧ GT K H g rs t ∧ Rect t m n ∧ 1 ≤ m ∧ 1 ≤ n ∧ m ≤ 60 ∧ n ≤ 60 ∧ AskE K H E hv v m n
def spBoundE (K : PySem.W.Frag) : Sp := fun vs H _ E => ∃ (g : Addr) (hv v f : V) (rs : List Addr) (t : List (List Int)) (m n : Nat), vs = [.ref g, hv, v, f] ∧ GT K H g rs t ∧ Rect t m n ∧ 1 ≤ m ∧ 1 ≤ n ∧ m ≤ 60 ∧ n ≤ 60 ∧ AskE K H E hv v m n
def spFitsE (K : PySem.W.Frag) : Sp := fun vs H _ E => ∃ (g : Addr) (hv v : V) (rs : List Addr) (t : List (List Int)) (m n : Nat) (hs : List (Int × Int)) (c : Int × Int), vs = [.ref g, hv, v] ∧ GT K H g rs t ∧ Rect t m n ∧ 1 ≤ m ∧ 1 ≤ n ∧ m ≤ 60 ∧ n ≤ 60 ∧ HidI H hv hs ∧ hs.find? (badC m n) = some c ∧ NoC K H E c
def FwE (K : PySem.W.Frag) (H : Hp) (E : XK) (few width : Int) : Prop := (few < 2 ∧ BadC K H E "few" few) ∨ (2 ≤ few ∧ width < 1 ∧ BadC K H E "width" width)
def spRefFWE (K : PySem.W.Frag) : Sp := fun vs H _ E => ∃ few width : Int, vs = [.int few, .int width] ∧ FwE K H E few width
def spSafeE (K : PySem.W.Frag) : Sp := fun vs H _ E => ∃ (g : Addr) (hv : V) (few width : Int) (rs : List Addr) (t : List (List Int)) (m n : Nat), vs = [.ref g, hv, .int few, .int width] ∧ (FwE K H E few width ∨ (2 ≤ few ∧ 1 ≤ width ∧ GT K H g rs t ∧ Rect t m n ∧ 1 ≤ m ∧ 1 ≤ n ∧ m ≤ 60 ∧ n ≤ 60 ∧ ∃ hs c, HidI H hv hs ∧ hs.find? (badC m n) = some c ∧ NoC K H E c))
def spHidE (K : PySem.W.Frag) : Sp := fun vs H _ E => ∃ (g : Addr) (few width : Int), vs = [.ref g, .int few, .int width] ∧ FwE K H E few width
section
variable {P : Program} {w : World} {K : PySem.W.Frag} {mg : Str → Option Value} {base : Heap}
theorem scE_refuse_no_cell : FnScope ["grid", "cell", "row", "column"] ["grid", "cell"] (defScope s_refuse_no_cell) := ⟨rfl, rfl, rfl, by decide +kernel, rfl, by decide +kernel, by decide +kernel⟩
theorem okE_refuse_no_cell (T : Tx K mg) : Ok P w K mg base 3 (He.ga K "refuse_no_cell") ["grid", "cell"] (spRefuseE K) := by
  obtain ⟨fd, F⟩ := T.f_refuse_no_cell
  refine ⟨fd, F.ok (k := 2) scE_refuse_no_cell (fun vs H Q E h => ?_) (fun cdv A outer s_ H vs Q E hr h => ?_), F.bindsN fun _ _ _ _ _ _ us hl => match us, hl with | [_, _], _ => rfl, F.kp⟩
  · obtain ⟨g, v, rs, t, m, n, ⟨i, j⟩, rfl, ht, hR, m1, ⟨a, rfl, ha⟩, nb, q⟩ := h
    rfl
  obtain ⟨g, v, rs, t, m, n, ⟨i, j⟩, rfl, ht, hR, m1, ⟨a, rfl, ha⟩, nb, q⟩ := h
  have hu65 := K3.Room.units65 hr
  have hu64 := Nat.lt_of_succ_lt hu65
  refine ⟨_, (pss_cons (ps_asg (pv 1) (pg_tup (by rfl) (pgs_cons (pg_name (i := 2) scE_refuse_no_cell.nd rfl (Or.inl rfl)) (pgs_cons (pg_name (i := 3) scE_refuse_no_cell.nd rfl (Or.inl rfl)) pgs_nil))))
      (pss_one (ps_if (pt_not (pw_and (pt_chain op_le op_lt pe_int (pv 2) (pe_callB call_len_seq (by rfl) T.z_len PySem.boot_len (pa_cons (pv 0) pa_nil))) (pw_and1 (pt_chain op_le op_lt pe_int (pv 3) (pe_callB call_len_seq (by rfl) T.z_len PySem.boot_len (pa_cons (pe_ix ix_e (pv 0) pe_int (fun _ _ => rfl)) pa_nil))))).pt) (pss_one (ps_err2 (T.err (x := "NoCell") (by decide)) T.m_NoCell_init (ok_NoCell T) (hr.mono (by decide)) T.g_NoCell (takes_of rfl rfl rfl rfl) (pv 2) (pv 3))) pss_nil))), ?_⟩
  obtain ⟨a0, r0, ha0, hr0, hx0⟩ := row_ofG ht (i := 0) (by have := hR.1; omega)
  have ln : r0.length = n := hR.2 _ (List.mem_of_getElem? hr0)
  have lr := ht.rows.length
  have lt := hR.1
  unfold inB at nb
  dsimp only at nb ha
  walk_at "go"
  refine w_gtup (SqT.of ha) rfl (w_gnn ?_)
  dsimp only
  have fin : ∀ D : L2.Ends, tErr2 K "NoCell" "row" "column" (tVar 2) (tVar 3) (fun cls d _ H => E cls d H) D [some (.ref g), some (.ref a), some (.int i), some (.int j)] H := fun D => by
    refine w_err2 ?_
    walk_at "go"
    exact gErr2_of fun d H' e hd => q d H' e hd
  walk_at "go"
  by_cases z1 : 0 ≤ i
  case neg =>
    rw [decide_eq_false z1]
    walk_at "go"
    exact fin _
  rw [decide_eq_true z1]
  walk_at "go"
  refine ⟨g, _, rfl, ht.at_.either, ?_⟩
  rw [List.length_map, lr, lt]
  walk_at "go"
  by_cases z2 : i < (m : Int)
  case neg =>
    rw [decide_eq_false z2]
    walk_at "go"
    exact fin _
  rw [decide_eq_true z2]
  walk_at "go"
  by_cases z3 : 0 ≤ j
  case neg =>
    rw [decide_eq_false z3]
    walk_at "go"
    exact fin _
  rw [decide_eq_true z3]
  walk_at "go"
  refine w_ixE ht.at_ (ref_at ha0) ?_
  walk_at "go"
  refine ⟨a0, _, rfl, hx0.either, ?_⟩
  rw [List.length_map, ln]
  walk_at "go"
  rw [decide_eq_false (fun z4 => nb ⟨z1, z2, z3, z4⟩)]
  walk_at "go"
  exact fin _
theorem scE_read_hidden : FnScope ["grid", "hidden", "cell"] ["grid", "hidden"] (defScope s_read_hidden) := ⟨rfl, rfl, rfl, by decide +kernel, rfl, by decide +kernel, by decide +kernel⟩
theorem okE_read_hidden (T : Tx K mg) : Ok P w K mg base 4 (He.ga K "read_hidden") ["grid", "hidden"] (spReadE K) := by
  obtain ⟨fd, F⟩ := T.f_read_hidden
  have Olast_cell := ok_last_cell (P := P) (w := w) (base := base) T
  have Orefuse_no_cell := ok_refuse_no_cell (P := P) (w := w) (base := base) T
  have OErefuse_no_cell := okE_refuse_no_cell (P := P) (w := w) (base := base) T
  refine ⟨fd, F.ok (k := 3) scE_read_hidden (fun vs H Q E h => ?_) (fun cdv A outer s_ H vs Q E hr h => ?_), F.bindsN fun _ _ _ _ _ _ us hl => match us, hl with | [_, _], _ => rfl, F.kp⟩
  · obtain ⟨g, hv, rs, t, m, n, hs, c, rfl, ht, hR, m1, n1, m60, n60, ⟨p, ws, rfl, hp, hw, hlen⟩, hf, q⟩ := h
    rfl
  obtain ⟨g, hv, rs, t, m, n, hs, c, rfl, ht, hR, m1, n1, m60, n60, ⟨p, ws, rfl, hp, hw, hlen⟩, hf, q⟩ := h
  have hu65 := K3.Room.units65 hr
  have hu64 := Nat.lt_of_succ_lt hu65
  have rlast_cell : Room 1 _ := hr.mono (by decide)
  have rrefuse_no_cell : Room 1 _ := hr.mono (by decide)
  have rErefuse_no_cell : Room 3 _ := hr.mono (by decide)
  refine ⟨_, (pss_cons (ps_for (passes_of rfl) (by rfl) (pi_list (pv 1)) (pg_name (i := 2) scE_read_hidden.nd rfl (Or.inl rfl)) (pss_cons (ps_expr (PE.or (pe_f Orefuse_no_cell rrefuse_no_cell T.g_refuse_no_cell (pa_cons (pv 0) (pa_cons (pv 2) pa_nil))) (pe_fE (takes_of rfl rfl rfl rfl) OErefuse_no_cell rErefuse_no_cell T.g_refuse_no_cell (pa_cons (pv 0) (pa_cons (pv 2) pa_nil)))))
      (pss_one (ps_if (pt_cmpR (op_eqD hu64) (pv 2) (pe_f Olast_cell rlast_cell T.g_last_cell (pa_cons (pv 0) pa_nil)) (nomark _)) (pss_one (ps_err2 (T.err (x := "NoCell") (by decide)) T.m_NoCell_init (ok_NoCell T) (hr.mono (by decide)) T.g_NoCell (takes_of rfl rfl rfl rfl) (pe_ix ix_tup (pv 2) pe_int (fun _ _ => rfl)) (pe_ix ix_tup (pv 2) pe_int (fun _ _ => rfl)))) pss_nil))))
      (pss_one ps_dead)), ?_⟩
  walk_at "go"
  refine list_open ?_
  walk_at "go"
  refine ⟨p, rfl, ⟨_, SqL.of hp⟩, ?_⟩
  refine for_list (xs := ws) (fun (i : Nat) σ H' => ∃ o2 : Option V, σ = [some (.ref g), some (.ref p), o2] ∧ Same H H' ∧ (hs.take i).find? (badC m n) = none) ⟨none, rfl, Same.refl _, rfl⟩ (fun i σ H' _ ⟨_, _, e, _⟩ => SqL.of (e _ _ hp)) ?_ ?_
  · rintro i v σ H1 hx ⟨o2, rfl, e1, sf⟩
    obtain ⟨x, hc, hv⟩ := K3.Paired.get hw hx
    have hv1 := hv.same e1
    obtain ⟨next, bad⟩ := find_at sf hc
    by_cases b : inB m n x
    case neg =>
      have hb : badC m n x = true := by unfold badC; rw [decide_eq_false b]; rfl
      have e : x = c := Option.some.inj ((bad hb).symm.trans hf)
      subst e
      walk_at "go"
      refine .inr ?_
      walk_at "go"
      exact ⟨g, v, rs, t, m, n, x, rfl, ht.same e1, hR, m1, hv1, b, q.mono e1⟩
    have hn := hv1.nat b
    have nb : (natC x).1 < m ∧ (natC x).2 < n := by
      obtain ⟨b1, b2, b3, b4⟩ := b
      unfold natC
      dsimp only
      omega
    walk_at "go"
    refine .inl ?_
    walk_at "go"
    refine ⟨g, v, rs, t, m, n, (natC x).1, (natC x).2, rfl, ht.same e1, hR, hn, nb.1, nb.2, ?_⟩
    walk_at "go"
    refine ⟨g, rs, t, m, n, rfl, ht.same e1, hR, m1, n1, fun a H2 e2 ha => ?_⟩
    refine ⟨cellD (natC x), cellD (m - 1, n - 1), cell_dp (hn.same e2), cell_dp ha, cell_shaped _, cell_shaped _, ?_⟩
    rw [cell_eqv]
    have e12 := e1.trans e2
    by_cases z : natC x = (m - 1, n - 1)
    · have hb : badC m n x = true := by unfold badC; rw [decide_eq_true z, Bool.or_true]
      have e : x = c := Option.some.inj ((bad hb).symm.trans hf)
      subst e
      rw [decide_eq_true z]
      obtain ⟨va, rfl, hva⟩ := hv.same e12
      walk_at "go"
      refine w_err2 ?_
      walk_at "go"
      refine w_ixT (SqT.of hva) rfl ?_
      walk_at "go"
      refine w_ixT (SqT.of hva) rfl ?_
      exact gErr2_of fun d H' e hd => q d H' (e12.trans e) hd
    · rw [decide_eq_false z]
      walk_at "go"
      exact ⟨_, rfl, e12, next (by unfold badC; rw [decide_eq_true b, decide_eq_false z]; rfl)⟩
  · rintro σ H1 ⟨o2, rfl, e1, sf⟩
    rw [hw.length, List.take_length, hf] at sf
    cases sf
theorem scE_refuse_shown : FnScope ["grid", "hidden", "cell"] ["grid", "hidden", "cell"] (defScope s_refuse_shown) := ⟨rfl, rfl, rfl, by decide +kernel, rfl, by decide +kernel, by decide +kernel⟩
theorem okE_refuse_shown (T : Tx K mg) : Ok P w K mg base 4 (He.ga K "refuse_shown") ["grid", "hidden", "cell"] (spShownE K) := by
  obtain ⟨fd, F⟩ := T.f_refuse_shown
  have Orefuse_no_cell := ok_refuse_no_cell (P := P) (w := w) (base := base) T
  have OErefuse_no_cell := okE_refuse_no_cell (P := P) (w := w) (base := base) T
  refine ⟨fd, F.ok (k := 3) scE_refuse_shown (fun vs H Q E h => ?_) (fun cdv A outer s_ H vs Q E hr h => ?_), F.bindsN fun _ _ _ _ _ _ us hl => match us, hl with | [_, _, _], _ => rfl, F.kp⟩
  · obtain ⟨g, l, v, rs, t, m, n, ws, cs, c, rfl, ht, hR, m1, n1, m60, n60, hl, hw, lcs, bcs, hv, q⟩ := h
    rfl
  obtain ⟨g, l, v, rs, t, m, n, ws, cs, c, rfl, ht, hR, m1, n1, m60, n60, hl, hw, lcs, bcs, hv, q⟩ := h
  have hu65 := K3.Room.units65 hr
  have hu64 := Nat.lt_of_succ_lt hu65
  have rrefuse_no_cell : Room 1 _ := hr.mono (by decide)
  have rErefuse_no_cell : Room 3 _ := hr.mono (by decide)
  refine ⟨_, (pss_cons (ps_expr (PE.or (pe_f Orefuse_no_cell rrefuse_no_cell T.g_refuse_no_cell (pa_cons (pv 0) (pa_cons (pv 2) pa_nil))) (pe_fE (takes_of rfl rfl rfl rfl) OErefuse_no_cell rErefuse_no_cell T.g_refuse_no_cell (pa_cons (pv 0) (pa_cons (pv 2) pa_nil)))))
      (pss_one (ps_if (pt_cmpR (op_notInC hu65) (pv 2) (pv 1) (by rfl)) (pss_one (ps_err1 (T.err (x := "NoFit") (by decide)) T.m_NoFit_init (ok_NoFit T) (hr.mono (by decide)) T.g_NoFit (takes_of rfl rfl rfl rfl) pe_str)) pss_nil))), ?_⟩
  walk_at "go"
  rcases q with ⟨b, q⟩ | ⟨b, nm, q⟩
  · refine .inr ?_
    walk_at "go"
    exact ⟨g, v, rs, t, m, n, c, rfl, ht, hR, m1, hv, b, q⟩
  refine .inl ?_
  walk_at "go"
  have hn := hv.nat b
  have nb : (natC c).1 < m ∧ (natC c).2 < n := by
    obtain ⟨b1, b2, b3, b4⟩ := b
    unfold natC
    dsimp only
    omega
  refine ⟨g, v, rs, t, m, n, (natC c).1, (natC c).2, rfl, ht, hR, hn, nb.1, nb.2, ?_⟩
  walk_at "go"
  refine ⟨l, ws, cs, natC c, hn, rfl, .inl (SqL.of hl), hw, by omega, fun k hk => by have := bcs k hk; omega, ⟨by omega, by omega⟩, ?_⟩
  rw [decide_eq_false nm]
  walk_at "go"
  refine w_err1 ?_
  walk_at "go"
  exact gErr1_of fun d H' e hd => q d H' e hd
theorem scE_reach : FnScope ["grid", "hidden", "cell", "cells", "least", "most"] ["grid", "hidden", "cell"] (defScope s_reach) := ⟨rfl, rfl, rfl, by decide +kernel, rfl, by decide +kernel, by decide +kernel⟩
theorem okE_reach (T : Tx K mg) : OkK P w K mg base 5 (He.ga K "reach") ["grid", "hidden", "cell"] 2 ["cell"] (spAskE K) := by
  obtain ⟨fd, F⟩ := T.f_reach
  have Oread_hidden := ok_read_hidden (P := P) (w := w) (base := base) T
  have Orefuse_shown := ok_refuse_shown (P := P) (w := w) (base := base) T
  have OEread_hidden := okE_read_hidden (P := P) (w := w) (base := base) T
  have OErefuse_shown := okE_refuse_shown (P := P) (w := w) (base := base) T
  refine ⟨fd, F.ok (k := 4) scE_reach (fun vs H Q E h => ?_) (fun cdv A outer s_ H vs Q E hr h => ?_), kb_of F fun _ _ _ _ _ _ us ws h1 h2 => match us, ws, h1, h2 with | [_, _], [_], _, _ => rfl, F.kp⟩
  · obtain ⟨g, hv, v, rs, t, m, n, rfl, ht, hR, m1, n1, m60, n60, q⟩ := h
    rfl
  obtain ⟨g, hv, v, rs, t, m, n, rfl, ht, hR, m1, n1, m60, n60, q⟩ := h
  have hu65 := K3.Room.units65 hr
  have hu64 := Nat.lt_of_succ_lt hu65
  have rread_hidden : Room 2 _ := hr.mono (by decide)
  have rrefuse_shown : Room 2 _ := hr.mono (by decide)
  have rEread_hidden : Room 4 _ := hr.mono (by decide)
  have rErefuse_shown : Room 4 _ := hr.mono (by decide)
  refine ⟨_, (pss_cons (ps_set (i := 3) scE_reach.nd rfl (Or.inl rfl) (PE.or (pe_f Oread_hidden rread_hidden T.g_read_hidden (pa_cons (pv 0) (pa_cons (pv 1) pa_nil))) (pe_fE (takes_of rfl rfl rfl rfl) OEread_hidden rEread_hidden T.g_read_hidden (pa_cons (pv 0) (pa_cons (pv 1) pa_nil)))))
      (pss_cons (ps_expr (PE.or (pe_f Orefuse_shown rrefuse_shown T.g_refuse_shown (pa_cons (pv 0) (pa_cons (pv 3) (pa_cons (pv 2) pa_nil)))) (pe_fE (takes_of rfl rfl rfl rfl) OErefuse_shown rErefuse_shown T.g_refuse_shown (pa_cons (pv 0) (pa_cons (pv 3) (pa_cons (pv 2) pa_nil))))))
      (pss_cons ps_dead
      (pss_cons ps_dead
      (pss_one ps_dead))))), ?_⟩
  walk_at "go"
  rcases q with ⟨hs, c, hh, hf, q⟩ | ⟨hs, c, hh, hc, q⟩
  · refine .inr ?_
    walk_at "go"
    exact ⟨g, hv, rs, t, m, n, hs, c, rfl, ht, hR, m1, n1, m60, n60, hh, hf, q⟩
  refine .inl ?_
  walk_at "go"
  obtain ⟨hp, hws, rfl, hsq, hcells, hmem, hlen⟩ := id hh
  refine ⟨g, _, rs, t, m, n, hs, rfl, ht, hR, m1, n1, m60, n60, hh, fun l H1 ws cs e1 h1 hw1 hcs lcs srt => ?_⟩
  walk_at "go"
  refine .inr ?_
  walk_at "go"
  exact ⟨g, l, v, rs, t, m, n, ws, cs, c, rfl, ht.same e1, hR, m1, n1, m60, n60, h1, hw1, by omega, fun k hk => cells_mem.mp (List.dropLast_subset _ (hmem k ((hcs k).mp hk))), hc.same e1, q.imp (fun z => ⟨z.1, z.2.mono e1⟩) fun z => ⟨z.1, fun y => z.2.1 ((hcs _).mp y), z.2.2.mono e1⟩⟩
theorem scE_fences : FnScope ["grid", "hidden", "cell", "cells", "start", "goal", "least", "most", "first", "come_to", "place"] ["grid", "hidden", "cell"] (defScope s_fences) := ⟨rfl, rfl, rfl, by decide +kernel, rfl, by decide +kernel, by decide +kernel⟩
theorem okE_fences (T : Tx K mg) : OkK P w K mg base 5 (He.ga K "fences") ["grid", "hidden", "cell"] 2 ["cell"] (spAskE K) := by
  obtain ⟨fd, F⟩ := T.f_fences
  have Oread_hidden := ok_read_hidden (P := P) (w := w) (base := base) T
  have Orefuse_shown := ok_refuse_shown (P := P) (w := w) (base := base) T
  have OEread_hidden := okE_read_hidden (P := P) (w := w) (base := base) T
  have OErefuse_shown := okE_refuse_shown (P := P) (w := w) (base := base) T
  refine ⟨fd, F.ok (k := 4) scE_fences (fun vs H Q E h => ?_) (fun cdv A outer s_ H vs Q E hr h => ?_), kb_of F fun _ _ _ _ _ _ us ws h1 h2 => match us, ws, h1, h2 with | [_, _], [_], _, _ => rfl, F.kp⟩
  · obtain ⟨g, hv, v, rs, t, m, n, rfl, ht, hR, m1, n1, m60, n60, q⟩ := h
    rfl
  obtain ⟨g, hv, v, rs, t, m, n, rfl, ht, hR, m1, n1, m60, n60, q⟩ := h
  have hu65 := K3.Room.units65 hr
  have hu64 := Nat.lt_of_succ_lt hu65
  have rread_hidden : Room 2 _ := hr.mono (by decide)
  have rrefuse_shown : Room 2 _ := hr.mono (by decide)
  have rEread_hidden : Room 4 _ := hr.mono (by decide)
  have rErefuse_shown : Room 4 _ := hr.mono (by decide)
  refine ⟨_, (pss_cons (ps_set (i := 3) scE_fences.nd rfl (Or.inl rfl) (PE.or (pe_f Oread_hidden rread_hidden T.g_read_hidden (pa_cons (pv 0) (pa_cons (pv 1) pa_nil))) (pe_fE (takes_of rfl rfl rfl rfl) OEread_hidden rEread_hidden T.g_read_hidden (pa_cons (pv 0) (pa_cons (pv 1) pa_nil)))))
      (pss_cons (ps_expr (PE.or (pe_f Orefuse_shown rrefuse_shown T.g_refuse_shown (pa_cons (pv 0) (pa_cons (pv 3) (pa_cons (pv 2) pa_nil)))) (pe_fE (takes_of rfl rfl rfl rfl) OErefuse_shown rErefuse_shown T.g_refuse_shown (pa_cons (pv 0) (pa_cons (pv 3) (pa_cons (pv 2) pa_nil))))))
      (pss_cons ps_dead
      (pss_cons ps_dead
      (pss_cons ps_dead
      (pss_cons ps_dead
      (pss_cons ps_dead
      (pss_one ps_dead)))))))), ?_⟩
  walk_at "go"
  rcases q with ⟨hs, c, hh, hf, q⟩ | ⟨hs, c, hh, hc, q⟩
  · refine .inr ?_
    walk_at "go"
    exact ⟨g, hv, rs, t, m, n, hs, c, rfl, ht, hR, m1, n1, m60, n60, hh, hf, q⟩
  refine .inl ?_
  walk_at "go"
  obtain ⟨hp, hws, rfl, hsq, hcells, hmem, hlen⟩ := id hh
  refine ⟨g, _, rs, t, m, n, hs, rfl, ht, hR, m1, n1, m60, n60, hh, fun l H1 ws cs e1 h1 hw1 hcs lcs srt => ?_⟩
  walk_at "go"
  refine .inr ?_
  walk_at "go"
  exact ⟨g, l, v, rs, t, m, n, ws, cs, c, rfl, ht.same e1, hR, m1, n1, m60, n60, h1, hw1, by omega, fun k hk => cells_mem.mp (List.dropLast_subset _ (hmem k ((hcs k).mp hk))), hc.same e1, q.imp (fun z => ⟨z.1, z.2.mono e1⟩) fun z => ⟨z.1, fun y => z.2.1 ((hcs _).mp y), z.2.2.mono e1⟩⟩
theorem scE_bound : FnScope ["grid", "hidden", "cell", "fence", "cells", "coming", "going", "rest", "other_comes", "one_goes", "other"] ["grid", "hidden", "cell", "fence"] (defScope s_bound) := ⟨rfl, rfl, rfl, by decide +kernel, rfl, by decide +kernel, by decide +kernel⟩
theorem okE_bound (T : Tx K mg) : OkK P w K mg base 5 (He.ga K "bound") ["grid", "hidden", "cell", "fence"] 2 ["cell", "fence"] (spBoundE K) := by
  obtain ⟨fd, F⟩ := T.f_bound
  have Oread_hidden := ok_read_hidden (P := P) (w := w) (base := base) T
  have Orefuse_shown := ok_refuse_shown (P := P) (w := w) (base := base) T
  have OEread_hidden := okE_read_hidden (P := P) (w := w) (base := base) T
  have OErefuse_shown := okE_refuse_shown (P := P) (w := w) (base := base) T
  refine ⟨fd, F.ok (k := 4) scE_bound (fun vs H Q E h => ?_) (fun cdv A outer s_ H vs Q E hr h => ?_), kb_of F fun _ _ _ _ _ _ us ws h1 h2 => match us, ws, h1, h2 with | [_, _], [_, _], _, _ => rfl, F.kp⟩
  · obtain ⟨g, hv, v, f, rs, t, m, n, rfl, ht, hR, m1, n1, m60, n60, q⟩ := h
    rfl
  obtain ⟨g, hv, v, f, rs, t, m, n, rfl, ht, hR, m1, n1, m60, n60, q⟩ := h
  have hu65 := K3.Room.units65 hr
  have hu64 := Nat.lt_of_succ_lt hu65
  have rread_hidden : Room 2 _ := hr.mono (by decide)
  have rrefuse_shown : Room 2 _ := hr.mono (by decide)
  have rEread_hidden : Room 4 _ := hr.mono (by decide)
  have rErefuse_shown : Room 4 _ := hr.mono (by decide)
  refine ⟨_, (pss_cons (ps_set (i := 4) scE_bound.nd rfl (Or.inr rfl) (PE.or (pe_f Oread_hidden rread_hidden T.g_read_hidden (pa_cons (pv 0) (pa_cons (pv 1) pa_nil))) (pe_fE (takes_of rfl rfl rfl rfl) OEread_hidden rEread_hidden T.g_read_hidden (pa_cons (pv 0) (pa_cons (pv 1) pa_nil)))))
      (pss_cons (ps_expr (PE.or (pe_f Orefuse_shown rrefuse_shown T.g_refuse_shown (pa_cons (pv 0) (pa_cons (pv 4) (pa_cons (pv 2) pa_nil)))) (pe_fE (takes_of rfl rfl rfl rfl) OErefuse_shown rErefuse_shown T.g_refuse_shown (pa_cons (pv 0) (pa_cons (pv 4) (pa_cons (pv 2) pa_nil))))))
      (pss_cons ps_dead
      (pss_cons ps_dead
      (pss_cons ps_dead
      (pss_cons ps_dead
      (pss_cons ps_dead
      (pss_cons ps_dead
      (pss_one ps_dead))))))))), ?_⟩
  walk_at "go"
  rcases q with ⟨hs, c, hh, hf, q⟩ | ⟨hs, c, hh, hc, q⟩
  · refine .inr ?_
    walk_at "go"
    exact ⟨g, hv, rs, t, m, n, hs, c, rfl, ht, hR, m1, n1, m60, n60, hh, hf, q⟩
  refine .inl ?_
  walk_at "go"
  obtain ⟨hp, hws, rfl, hsq, hcells, hmem, hlen⟩ := id hh
  refine ⟨g, _, rs, t, m, n, hs, rfl, ht, hR, m1, n1, m60, n60, hh, fun l H1 ws cs e1 h1 hw1 hcs lcs srt => ?_⟩
  walk_at "go"
  refine .inr ?_
  walk_at "go"
  exact ⟨g, l, v, rs, t, m, n, ws, cs, c, rfl, ht.same e1, hR, m1, n1, m60, n60, h1, hw1, by omega, fun k hk => cells_mem.mp (List.dropLast_subset _ (hmem k ((hcs k).mp hk))), hc.same e1, q.imp (fun z => ⟨z.1, z.2.mono e1⟩) fun z => ⟨z.1, fun y => z.2.1 ((hcs _).mp y), z.2.2.mono e1⟩⟩
theorem scE_fits : FnScope ["grid", "hidden", "table", "cells", "shown", "cell", "row", "number"] ["grid", "hidden", "table"] (defScope s_fits) := ⟨rfl, rfl, rfl, by decide +kernel, rfl, by decide +kernel, by decide +kernel⟩
theorem okE_fits (T : Tx K mg) : Ok P w K mg base 5 (He.ga K "fits") ["grid", "hidden", "table"] (spFitsE K) := by
  obtain ⟨fd, F⟩ := T.f_fits
  have Oread_hidden := ok_read_hidden (P := P) (w := w) (base := base) T
  have OEread_hidden := okE_read_hidden (P := P) (w := w) (base := base) T
  refine ⟨fd, F.ok (k := 4) scE_fits (fun vs H Q E h => ?_) (fun cdv A outer s_ H vs Q E hr h => ?_), F.bindsN fun _ _ _ _ _ _ us hl => match us, hl with | [_, _, _], _ => rfl, F.kp⟩
  · obtain ⟨g, hv, v, rs, t, m, n, hs, c, rfl, ht, hR, m1, n1, m60, n60, hh, hf, q⟩ := h
    rfl
  obtain ⟨g, hv, v, rs, t, m, n, hs, c, rfl, ht, hR, m1, n1, m60, n60, hh, hf, q⟩ := h
  have hu65 := K3.Room.units65 hr
  have hu64 := Nat.lt_of_succ_lt hu65
  have rread_hidden : Room 2 _ := hr.mono (by decide)
  have rEread_hidden : Room 4 _ := hr.mono (by decide)
  refine ⟨_, (pss_cons (ps_set (i := 3) scE_fits.nd rfl (Or.inr rfl) (PE.or (pe_f Oread_hidden rread_hidden T.g_read_hidden (pa_cons (pv 0) (pa_cons (pv 1) pa_nil))) (pe_fE (takes_of rfl rfl rfl rfl) OEread_hidden rEread_hidden T.g_read_hidden (pa_cons (pv 0) (pa_cons (pv 1) pa_nil)))))
      (pss_cons ps_dead
      (pss_cons ps_dead
      (pss_cons ps_dead
      (pss_one ps_dead))))), ?_⟩
  walk_at "go"
  refine .inr ?_
  walk_at "go"
  exact ⟨g, hv, rs, t, m, n, hs, c, rfl, ht, hR, m1, n1, m60, n60, hh, hf, q⟩
theorem scE_refuse_few_and_width : FnScope ["few", "width"] ["few", "width"] (defScope s_refuse_few_and_width) := ⟨rfl, rfl, rfl, by decide +kernel, rfl, by decide +kernel, by decide +kernel⟩
theorem okE_refuse_few_and_width (T : Tx K mg) : Ok P w K mg base 3 (He.ga K "refuse_few_and_width") ["few", "width"] (spRefFWE K) := by
  obtain ⟨fd, F⟩ := T.f_refuse_few_and_width
  refine ⟨fd, F.ok (k := 2) scE_refuse_few_and_width (fun vs H Q E h => ?_) (fun cdv A outer s_ H vs Q E hr h => ?_), F.bindsN fun _ _ _ _ _ _ us hl => match us, hl with | [_, _], _ => rfl, F.kp⟩
  · obtain ⟨few, width, rfl, q⟩ := h
    rfl
  obtain ⟨few, width, rfl, q⟩ := h
  have hu65 := K3.Room.units65 hr
  have hu64 := Nat.lt_of_succ_lt hu65
  refine ⟨_, (pss_cons (ps_if (pt_cmpR op_lt (pv 0) (pe_gint T.i_LEAST_FEW) (nomark _)) (pss_one (ps_err2 (T.err (x := "BadCount") (by decide)) T.m_BadCount_init (ok_BadCount T) (hr.mono (by decide)) T.g_BadCount (takes_of rfl rfl rfl rfl) pe_str (pv 0))) pss_nil)
      (pss_one (ps_if (pt_cmpR op_lt (pv 1) (pe_gint T.i_LEAST_WIDTH) (nomark _)) (pss_one (ps_err2 (T.err (x := "BadCount") (by decide)) T.m_BadCount_init (ok_BadCount T) (hr.mono (by decide)) T.g_BadCount (takes_of rfl rfl rfl rfl) pe_str (pv 1))) pss_nil))), ?_⟩
  walk_at "go"
  rcases q with ⟨f, q⟩ | ⟨f2, f, q⟩
  · rw [decide_eq_true f]
    walk_at "go"
    refine w_err2 ?_
    walk_at "go"
    exact gErr2_of fun d H' e hd => q d H' e hd
  · rw [decide_eq_false (by omega : ¬ few < 2)]
    walk_at "go"
    rw [decide_eq_true f]
    walk_at "go"
    refine w_err2 ?_
    walk_at "go"
    exact gErr2_of fun d H' e hd => q d H' e hd
theorem scE_is_safe : FnScope ["grid", "hidden", "few", "width", "cells"] ["grid", "hidden", "few", "width"] (defScope s_is_safe) := ⟨rfl, rfl, rfl, by decide +kernel, rfl, by decide +kernel, by decide +kernel⟩
theorem okE_is_safe (T : Tx K mg) : OkK P w K mg base 5 (He.ga K "is_safe") ["grid", "hidden", "few", "width"] 2 ["few", "width"] (spSafeE K) := by
  obtain ⟨fd, F⟩ := T.f_is_safe
  have Orefuse_few_and_width := ok_refuse_few_and_width (P := P) (w := w) (base := base) T
  have Oread_hidden := ok_read_hidden (P := P) (w := w) (base := base) T
  have OErefuse_few_and_width := okE_refuse_few_and_width (P := P) (w := w) (base := base) T
  have OEread_hidden := okE_read_hidden (P := P) (w := w) (base := base) T
  refine ⟨fd, F.ok (k := 4) scE_is_safe (fun vs H Q E h => ?_) (fun cdv A outer s_ H vs Q E hr h => ?_), kb_of F fun _ _ _ _ _ _ us ws h1 h2 => match us, ws, h1, h2 with | [_, _], [_, _], _, _ => rfl, F.kp⟩
  · obtain ⟨g, hv, few, width, rs, t, m, n, rfl, q⟩ := h
    rfl
  obtain ⟨g, hv, few, width, rs, t, m, n, rfl, q⟩ := h
  have hu65 := K3.Room.units65 hr
  have hu64 := Nat.lt_of_succ_lt hu65
  have rrefuse_few_and_width : Room 1 _ := hr.mono (by decide)
  have rread_hidden : Room 2 _ := hr.mono (by decide)
  have rErefuse_few_and_width : Room 3 _ := hr.mono (by decide)
  have rEread_hidden : Room 4 _ := hr.mono (by decide)
  refine ⟨_, (pss_cons (ps_expr (PE.or (pe_f Orefuse_few_and_width rrefuse_few_and_width T.g_refuse_few_and_width (pa_cons (pv 2) (pa_cons (pv 3) pa_nil))) (pe_fE (takes_of rfl rfl rfl rfl) OErefuse_few_and_width rErefuse_few_and_width T.g_refuse_few_and_width (pa_cons (pv 2) (pa_cons (pv 3) pa_nil)))))
      (pss_cons (ps_set (i := 4) scE_is_safe.nd rfl (Or.inl rfl) (PE.or (pe_f Oread_hidden rread_hidden T.g_read_hidden (pa_cons (pv 0) (pa_cons (pv 1) pa_nil))) (pe_fE (takes_of rfl rfl rfl rfl) OEread_hidden rEread_hidden T.g_read_hidden (pa_cons (pv 0) (pa_cons (pv 1) pa_nil)))))
      (pss_one ps_dead))), ?_⟩
  walk_at "go"
  rcases q with q | ⟨f2, w1, ht, hR, m1, n1, m60, n60, hs, c, hh, hf, q⟩
  · refine .inr ?_
    walk_at "go"
    exact ⟨few, width, rfl, q⟩
  refine .inl ?_
  walk_at "go"
  refine ⟨few, width, rfl, f2, w1, ?_⟩
  walk_at "go"
  refine .inr ?_
  walk_at "go"
  exact ⟨g, hv, rs, t, m, n, hs, c, rfl, ht, hR, m1, n1, m60, n60, hh, hf, q⟩
theorem scE_hidden_cells : FnScope ["grid", "few", "width", "secret", "hidden", "unsafe", "cell", "fewer", "other"] ["grid", "few", "width"] (defScope s_hidden_cells) := ⟨rfl, rfl, rfl, by decide +kernel, rfl, by decide +kernel, by decide +kernel⟩
theorem okE_hidden_cells (T : Tx K mg) : OkK P w K mg base 4 (He.ga K "hidden_cells") ["grid", "few", "width"] 1 ["few", "width"] (spHidE K) := by
  obtain ⟨fd, F⟩ := T.f_hidden_cells
  have Orefuse_few_and_width := ok_refuse_few_and_width (P := P) (w := w) (base := base) T
  have OErefuse_few_and_width := okE_refuse_few_and_width (P := P) (w := w) (base := base) T
  refine ⟨fd, F.ok (k := 3) scE_hidden_cells (fun vs H Q E h => ?_) (fun cdv A outer s_ H vs Q E hr h => ?_), kb_of F fun _ _ _ _ _ _ us ws h1 h2 => match us, ws, h1, h2 with | [_], [_, _], _, _ => rfl, F.kp⟩
  · obtain ⟨g, few, width, rfl, q⟩ := h
    rfl
  obtain ⟨g, few, width, rfl, q⟩ := h
  have hu65 := K3.Room.units65 hr
  have hu64 := Nat.lt_of_succ_lt hu65
  have rrefuse_few_and_width : Room 1 _ := hr.mono (by decide)
  have rErefuse_few_and_width : Room 3 _ := hr.mono (by decide)
  refine ⟨_, (pss_cons (ps_expr (PE.or (pe_f Orefuse_few_and_width rrefuse_few_and_width T.g_refuse_few_and_width (pa_cons (pv 1) (pa_cons (pv 2) pa_nil))) (pe_fE (takes_of rfl rfl rfl rfl) OErefuse_few_and_width rErefuse_few_and_width T.g_refuse_few_and_width (pa_cons (pv 1) (pa_cons (pv 2) pa_nil)))))
      (pss_cons ps_dead
      (pss_cons ps_dead
      (pss_cons ps_dead
      (pss_cons ps_dead
      (pss_cons ps_dead
      (pss_one ps_dead))))))), ?_⟩
  walk_at "go"
  refine .inr ?_
  walk_at "go"
  exact ⟨few, width, rfl, q⟩
end
end K3
end X1_part
section X2_part
set_option Elab.async false
set_option linter.all false
set_option maxRecDepth 100000
set_option maxHeartbeats 1000000
set_option pp.deepTerms.threshold 5
open PySem PySem.Spec PyProof.Rows L2
/-- go on as far as nothing is open -/
local macro_rules | `(tactic| walk_at "go") => `(tactic| repeat (first
  | with_reducible refine w_seq ?_ | with_reducible refine w_next ?_ | with_reducible refine w_set ?_ | with_reducible refine w_drop ?_ | with_reducible refine w_ret ?_ | with_reducible refine w_retN ?_
  | with_reducible refine w_if ?_ | ((with_reducible refine' w_var ?hv ?_); (case hv => exact rfl)) | with_reducible refine w_c ?_ | with_reducible refine w_nil ?_ | with_reducible refine w_cons ?_ | with_reducible refine w_op ?_ | with_reducible refine w_un ?_
  | with_reducible refine w_test ?_ | with_reducible refine w_tB ?_ | with_reducible refine w_not ?_ | with_reducible refine w_and ?_ | with_reducible refine w_or ?_ | with_reducible refine w_bl ?_
  | with_reducible refine w_andV ?_ | with_reducible refine w_orV ?_ | with_reducible refine w_notV ?_ | with_reducible refine w_ifE ?_ | with_reducible refine w_chain ?_ | with_reducible refine w_i0 ?_
  | with_reducible refine w_call ?_ | with_reducible refine w_callS ?_ | with_reducible refine w_cB ?_ | with_reducible refine w_tup ?_ | with_reducible refine w_lst ?_ | with_reducible refine w_fldV ?_
  | with_reducible refine w_neF ?_ | with_reducible refine w_neT ?_ | with_reducible refine w_notN ?_ | with_reducible refine w_isN ?_ | with_reducible refine w_gname ?_ | with_reducible refine w_gsub ?_ | with_reducible refine w_asg ?_ | with_reducible refine w_sl ?_ | with_reducible refine w_noP ?_ | with_reducible refine w_int1 ?_ | with_reducible refine w_part ?_ | with_reducible refine w_yes ?_ | with_reducible refine w_nT ?_ | with_reducible refine w_nF ?_ | with_reducible refine w_iteT ?_ | with_reducible refine w_iteF ?_))
namespace K3
open SLam LamX
/-- the object of a caught error that has a dict -/
theorem inst_at {X : Cx} {a D dd : Addr} {oe : Obj} {pn pins : List (Addr × Obj)} {σ : L2.St} {H : Hp} {s : Shared} {fs : List (Str × V)} (hz : Zc (.ref D) (some dd) oe) (hf : ∃ vs, oe.data = .fields vs) (I : Inv (X.suite a ((a, oe) :: pn)) pins σ H s) (ed : H dd = some (.xd fs)) :
    ∃ od, PySem.W.InstAt s.heap a oe D (some od) ∧ (∀ n v, fs.lookup n = some v → ∃ u, PySem.W.lookIn n od = some (some u) ∧ RelV v u) := by
  have pin := (I.pin (a, oe) (List.mem_append_left _ List.mem_cons_self)).1
  obtain ⟨vs, dat⟩ := hf
  have obj : ObjOk X.prog X.w H s.heap dd (.xd fs) := I.hok dd _ ed
  obtain ⟨names, ns, rel⟩ := obj
  obtain ⟨od, at_, look_⟩ := lookIn_ns ns
  refine ⟨od, ⟨pin, hz.1, by unfold PySem.W.notCls; rw [dat] <;> rfl, by rw [hz.2]; exact at_⟩, fun n v hv => ?_⟩
  obtain ⟨u, hu, ru⟩ := RelO.some_of (v := v) (o := names n) (by rw [← hv]; exact rel n)
  exact ⟨u, by rw [look_, hu], ru⟩
def ErrD (K : PySem.W.Frag) (cls : Value) (d : Option Addr) (D : Addr) (H : Hp) (fs : List (Str × V)) : Prop := cls = .ref D ∧ ∃ dd, d = some dd ∧ H dd = some (.xd fs)
/-- isinstance(e, c), e the caught error -/
def rIsA (K : PySem.W.Frag) (a : Addr) (cls : Value) (d : Option Addr) : List V → Hp → VK → Prop := fun xs H Q => ∃ (D : Addr) (fs : List (Str × V)) (c : V) (cv : Value) (b : Bool), xs = [.ref a, c] ∧ ErrD K cls d D H fs ∧ XfC K D ∧ kclsB K D = true ∧ (∀ u, RelV c u → u = cv) ∧ PySem.W.kitOne K (.ref D) cv = some b ∧ Q (.bl b) H
theorem call_isA {X : Cx} {a : Addr} {cls : Value} {d : Option Addr} {oe : Obj} {pn : List (Addr × Obj)} (gs : getsetB X.K = true) (hz : Zc cls d oe) (hf : ∃ vs, oe.data = .fields vs) : CallR (X.suite a ((a, oe) :: pn)) (.builtin "isinstance") (rIsA X.K a cls d) := by
  intro pins s σ H xs us Q I r ⟨D, fs, c, cv, b, exs, ⟨ecl, dd, edd, hxd⟩, xf, kc, hcv, kit, q⟩
  subst exs ecl edd
  obtain ⟨od, J, _⟩ := inst_at hz hf I hxd
  rcases r with _ | ⟨rx, rr⟩
  rcases rr with _ | ⟨rc, rn⟩
  cases rn
  cases rx
  obtain rfl := hcv _ rc
  obtain ⟨g1, g2⟩ := and2 (show (eqB _ _ && eqB _ _) = true from gs)
  obtain ⟨k1, k2⟩ := and2 (show (eqB _ _ && eqB _ _) = true from kc)
  obtain ⟨cd, hc, _⟩ := PySem.W.any_some xf.hdC
  exact PySem.W.kia_one (PySem.W.kitx_exc (by rw [hc] <;> rfl) xf.ga xf.gg xf.exC (eqB_ok k1) (eqB_ok g1) (eqB_ok g2) (eqB_ok k2)) I.kIn J kit (fun z => nomatch z) fun tk => ⟨.bl b, H, I.kept (t' := tk) fun _ _ z => z, rfl, q⟩
/-- e.n, e the caught error -/
def tXfA (K : PySem.W.Frag) (a : Addr) (cls : Value) (d : Option Addr) (n : Str) (te : TE) : TE := fun σ H Q => te σ H fun x H1 => ∃ (D : Addr) (fs : List (Str × V)) (v : V), x = .ref a ∧ ErrD K cls d D H1 fs ∧ XfC K D ∧ NoAttr K D n ∧ fs.lookup n = some v ∧ Q v H1
theorem pe_xfA {X : Cx} {a : Addr} {oe : Obj} {cls : Value} {d : Option Addr} {pn : List (Addr × Obj)} {e : Expr} {te : TE} {pos : Pos} {n : Str} (hz : Zc cls d oe) (hf : ∃ vs, oe.data = .fields vs) (he : PE (X.suite a ((a, oe) :: pn)) e te) (hb : attributeBase e n X.env (eval e X.env) = eval e X.env := by rfl) :
    PE (X.suite a ((a, oe) :: pn)) (.Attribute e n pos) (tXfA X.K a cls d n te) := ⟨fun pins s σ H Q I h => attr_of hb (thn (he.run pins s σ H _ I h) fun u s1 ⟨x, H1, J, rx, D, fs, v, ex, ⟨ecl, dd, edd, hxd⟩, xf, hno, hl, q⟩ => by
  subst ex ecl edd
  obtain rfl : u = Value.ref a := rx
  obtain ⟨od, at_, look_⟩ := inst_at hz hf J hxd
  obtain ⟨r, hr, rr⟩ := look_ n v hl
  exact HandSPX.exc_get J.kIn at_ xf.ga xf.gg xf.exC (PySem.W.findObj_own xf.hdC hno rfl hr) (handed_of rr) ⟨v, H1, J.tok _, rr, q⟩)⟩
/-- how often a truth stands in a list of truths -/
theorem truths : ∀ {ys : List Bool} {us : List Value} {h : Heap}, Vals (ys.map V.bl) us → ReadsAll h us (ys.map PyData.bool) []
  | [], us, h, r => by cases r; exact .nil
  | b :: ys, us, h, r => by
    rcases r with _ | ⟨rb, rr⟩
    cases rb
    exact .cons (as := []) (.bool b) (truths rr)
theorem all_truths (ys : List Bool) : (ys.map PyData.bool).all Shape.bool.has = true := by
  induction ys with
  | nil => rfl
  | cons b ys ih => rw [List.map_cons, List.all_cons, ih] <;> rfl
def rCntT (K : PySem.W.Frag) : V → List V → Hp → VK → Prop := fun x xs H Q => ∃ (a : Addr) (ys : List Bool) (b : Bool), x = .ref a ∧ xs = [.bl b] ∧ SqL K H a (ys.map V.bl) ∧ Q (.int (countIn (.bool b) (ys.map PyData.bool))) H
theorem mt_countT {X : Cx} : MtR X "list.count" (rCntT X.K) := by
  intro pins s σ H x xs v us Q I rx rxs ⟨a, ys, b, ex, exs, hl, q⟩
  subst ex exs
  cases rx
  obtain ⟨u, rfl, ru⟩ := rxs.one
  cases ru
  obtain ⟨its, vals, ⟨o, n, ho, hc, _, hd⟩, _⟩ := I.list hl
  exact count_list_bools (vs := its) ⟨o, ho, hc, n, hd⟩ (truths (h := s.heap) vals) (all_truths ys) ⟨.int (countIn (.bool b) (ys.map PyData.bool)), H, I.tok _, ⟨s.toks, rfl⟩, q⟩
/-! ### what is said of a call -/
inductive Rf where
  | cell (c : Int × Int)
  | fit
  | count (w : Str) (x : Int)
  | uns (v : V)
def Rf.x : Rf → Str
  | .cell _ => "NoCell"
  | .fit => "NoFit"
  | .count _ _ => "BadCount"
  | .uns _ => "Unsafe"
def Rf.f : Rf → List (Str × V)
  | .cell c => [("column", .int c.2), ("row", .int c.1)]
  | .fit => [("name", .str ("cell" : Str))]
  | .count w x => [("count", .int x), ("what", .str w)]
  | .uns v => [("cell", v)]
def Rf.l : Rf → List V
  | .cell c => [.str ("nocell" : Str), .int c.1, .int c.2]
  | .fit => [.str ("nofit" : Str), .str ("cell" : Str)]
  | .count w x => [.str ("badcount" : Str), .str w, .int x]
  | .uns _ => [.str ("told" : Str)]
theorem Rf.mem (r : Rf) : r.x ∈ errN := by
  cases r with
  | cell c => exact (by decide : ("NoCell" : Str) ∈ errN)
  | fit => exact (by decide : ("NoFit" : Str) ∈ errN)
  | count w x => exact (by decide : ("BadCount" : Str) ∈ errN)
  | uns v => exact (by decide : ("Unsafe" : Str) ∈ errN)
/-- what the clause makes of what is caught -/
def Caught (K : PySem.W.Frag) (Q : VK) : XK := fun cls d H' => ∃ r : Rf, ErrD K cls d (He.ga K r.x) H' r.f ∧ ∀ H'' a, Same H' H'' → H'' a = some (.tup r.l) → Q (.ref a) H''
def TTsaid (K : PySem.W.Frag) : (XK → Hp → VK → Prop) → Hp → VK → Prop := fun tl H Q => ∀ Q2 : Hp → Prop, (∀ H', (∀ H'' a, Same H' H'' → H'' a = some (.tup [.str ("told" : Str)]) → Q (.ref a) H'') → Q2 H') → tl (Caught K Q) H fun _ H' => Q2 H'
def tIsA (K : PySem.W.Frag) (a : Addr) (cls : Value) (d : Option Addr) (v : V) : TE := tCB (rIsA K a cls d) (tCons (tVar 2) (tCons (tC v) tNil))
def tSuite (K : PySem.W.Frag) (a : Addr) (cls : Value) (d : Option Addr) : TS :=
  tSeq (tAsg (tLst (tCons (tIsA K a cls d (.ref (He.ga K "NoCell"))) (tCons (tIsA K a cls d (.ref (He.ga K "NoFit"))) (tCons (tIsA K a cls d (.ref (He.ga K "BadCount"))) (tCons (tIsA K a cls d (.ref (He.ga K "Unsafe"))) tNil))))) (gName 3))
  (tIfS (tOr (tTest (tOp rNe (tBM K "list" (rCntT K) (tVar 3) (tCons (tC (.bl true)) tNil)) (tC (.int 1)))) (tNot (tB (tIsA K a cls d (.ty "ValueError"))))) (tAsg (tTup (tCons (tC (.str "several")) tNil)) (gName 1))
  (tIfS (tB (tOp (rIxL K) (tVar 3) (tC (.int 0)))) (tAsg (tTup (tCons (tC (.str "nocell")) (tCons (tXfA K a cls d "row" (tVar 2)) (tCons (tXfA K a cls d "column" (tVar 2)) tNil)))) (gName 1))
  (tIfS (tB (tOp (rIxL K) (tVar 3) (tC (.int 1)))) (tAsg (tTup (tCons (tC (.str "nofit")) (tCons (tXfA K a cls d "name" (tVar 2)) tNil))) (gName 1))
  (tIfS (tB (tOp (rIxL K) (tVar 3) (tC (.int 2)))) (tAsg (tTup (tCons (tC (.str "badcount")) (tCons (tXfA K a cls d "what" (tVar 2)) (tCons (tXfA K a cls d "count" (tVar 2)) tNil)))) (gName 1))
    (tAsg (tTup (tCons (tC (.str "told")) tNil)) (gName 1))))))
theorem w_isA {K : PySem.W.Frag} {a : Addr} {cls : Value} {d : Option Addr} {σ : L2.St} {H : Hp} {Q : VK} {x : Str} {fs : List (Str × V)} {c : V} {cv : Value} (b : Bool) (hσ : σ[2]? = some (some (V.ref a))) (hed : ErrD K cls d (He.ga K x) H fs) (EC : ErrC K x) (hcv : ∀ u, RelV c u → u = cv)
    (kit : PySem.W.kitOne K (.ref (He.ga K x)) cv = some b) (q : Q (.bl b) H) : tIsA K a cls d c σ H Q := ⟨_, hσ, He.ga K x, fs, c, cv, b, rfl, hed, EC.f, EC.k, hcv, kit, q⟩
theorem w_xfA {K : PySem.W.Frag} {a : Addr} {cls : Value} {d : Option Addr} {σ : L2.St} {H : Hp} {Q : VK} {x n : Str} {fs : List (Str × V)} {v : V} (hσ : σ[2]? = some (some (V.ref a))) (hed : ErrD K cls d (He.ga K x) H fs) (EC : ErrC K x) (hno : NoAttr K (He.ga K x) n) (hl : fs.lookup n = some v) (q : Q v H) :
    tXfA K a cls d n (tVar 2) σ H Q := ⟨_, hσ, He.ga K x, fs, v, rfl, hed, EC.f, hno, hl, q⟩
theorem ErrD.same {K : PySem.W.Frag} {cls : Value} {d : Option Addr} {D : Addr} {H H' : Hp} {fs : List (Str × V)} (h : ErrD K cls d D H fs) (e : Same H H') : ErrD K cls d D H' fs := let ⟨h1, dd, h2, h3⟩ := h; ⟨h1, dd, h2, e _ _ h3⟩
theorem suite_ok {K : PySem.W.Frag} {mg : Str → Option Value} (T : Tx K mg) (r : Rf) {cls : Value} {d : Option Addr} {a : Addr} {o0 o1 o3 : Option V} {H : Hp} {D : L2.Ends} (hed : ErrD K cls d (He.ga K r.x) H r.f)
    (q : ∀ H' t o, Same H H' → H' t = some (.tup r.l) → D.nx [o0, some (.ref t), some (.ref a), o] H') : tSuite K a cls d D [o0, o1, some (.ref a), o3] H := by
  have EC := T.err (x := r.x) r.mem
  have is : ∀ y ∈ errN, PySem.W.kitOne K (.ref (He.ga K r.x)) (.ref (He.ga K y)) = some (r.x == y) := EC.i
  unfold tSuite
  walk_at "go"
  refine w_isA (r.x == "NoCell") rfl hed EC (cv := .ref (He.ga K "NoCell")) (fun u r => r) (is "NoCell" (by decide)) ?_
  walk_at "go"
  refine w_isA (r.x == "NoFit") rfl hed EC (cv := .ref (He.ga K "NoFit")) (fun u r => r) (is "NoFit" (by decide)) ?_
  walk_at "go"
  refine w_isA (r.x == "BadCount") rfl hed EC (cv := .ref (He.ga K "BadCount")) (fun u r => r) (is "BadCount" (by decide)) ?_
  walk_at "go"
  refine w_isA (r.x == "Unsafe") rfl hed EC (cv := .ref (He.ga K "Unsafe")) (fun u r => r) (is "Unsafe" (by decide)) ?_
  walk_at "go"
  refine ⟨(by show 4 ≤ sizeLine; decide), fun p4 hp4 => ?_⟩
  have e5 := Same.new hp4 (.lst [V.bl (r.x == "NoCell"), .bl (r.x == "NoFit"), .bl (r.x == "BadCount"), .bl (r.x == "Unsafe")])
  have hp4' : (upd H p4 (.lst [V.bl (r.x == "NoCell"), .bl (r.x == "NoFit"), .bl (r.x == "BadCount"), .bl (r.x == "Unsafe")])) p4 = some (.lst ([r.x == "NoCell", r.x == "NoFit", r.x == "BadCount", r.x == "Unsafe"].map V.bl)) := upd_same
  generalize upd H p4 (.lst [V.bl (r.x == "NoCell"), .bl (r.x == "NoFit"), .bl (r.x == "BadCount"), .bl (r.x == "Unsafe")]) = H4 at e5 hp4' ⊢
  have hed4 := hed.same e5
  walk_at "go"
  refine ⟨_, rfl, .inl ⟨rfl, _, SqL.of hp4'⟩, ?_⟩
  walk_at "go"
  refine ⟨p4, _, true, rfl, rfl, SqL.of hp4', ?_⟩
  have c1 : countIn (.bool true) ([r.x == "NoCell", r.x == "NoFit", r.x == "BadCount", r.x == "Unsafe"].map PyData.bool) = 1 := by
    cases r with
    | cell c => exact (by decide +kernel : countIn (.bool true) ([("NoCell" : Str) == "NoCell", ("NoCell" : Str) == "NoFit", ("NoCell" : Str) == "BadCount", ("NoCell" : Str) == "Unsafe"].map PyData.bool) = 1)
    | fit => exact (by decide +kernel : countIn (.bool true) ([("NoFit" : Str) == "NoCell", ("NoFit" : Str) == "NoFit", ("NoFit" : Str) == "BadCount", ("NoFit" : Str) == "Unsafe"].map PyData.bool) = 1)
    | count w x => exact (by decide +kernel : countIn (.bool true) ([("BadCount" : Str) == "NoCell", ("BadCount" : Str) == "NoFit", ("BadCount" : Str) == "BadCount", ("BadCount" : Str) == "Unsafe"].map PyData.bool) = 1)
    | uns v => exact (by decide +kernel : countIn (.bool true) ([("Unsafe" : Str) == "NoCell", ("Unsafe" : Str) == "NoFit", ("Unsafe" : Str) == "BadCount", ("Unsafe" : Str) == "Unsafe"].map PyData.bool) = 1)
  rw [c1]
  walk_at "go"
  refine ⟨rfl, ?_⟩
  rw [decide_eq_true rfl]
  walk_at "go"
  refine w_isA true rfl hed4 EC (cv := .type "ValueError") (fun u r => r) EC.v ?_
  walk_at "go"
  have fin : ∀ vs, vs = r.l → ∀ p, H4 p = none → D.nx [o0, some (.ref p), some (.ref a), some (.ref p4)] (upd H4 p (.tup vs)) := fun vs e p hp => by
    subst e
    exact q _ _ _ (e5.trans (Same.new hp _)) upd_same
  cases r with
  | cell c =>
    have hp5 : H4 p4 = some (.lst [V.bl true, .bl false, .bl false, .bl false]) := hp4'.trans (congrArg (fun l => some (HO.lst (List.map V.bl l))) (by decide +kernel : [("NoCell" : Str) == "NoCell", ("NoCell" : Str) == "NoFit", ("NoCell" : Str) == "BadCount", ("NoCell" : Str) == "Unsafe"] = [true, false, false, false]))
    refine w_ixL hp5 rfl ?_
    walk_at "go"
    refine w_xfA rfl hed4 EC T.n_NoCell_row rfl ?_
    walk_at "go"
    refine w_xfA rfl hed4 EC T.n_NoCell_column rfl ?_
    walk_at "go"
    exact ⟨(by show 3 ≤ sizeLine; decide), fun p hp => fin _ rfl p hp⟩
  | fit =>
    have hp5 : H4 p4 = some (.lst [V.bl false, .bl true, .bl false, .bl false]) := hp4'.trans (congrArg (fun l => some (HO.lst (List.map V.bl l))) (by decide +kernel : [("NoFit" : Str) == "NoCell", ("NoFit" : Str) == "NoFit", ("NoFit" : Str) == "BadCount", ("NoFit" : Str) == "Unsafe"] = [false, true, false, false]))
    refine w_ixL hp5 rfl ?_
    walk_at "go"
    refine w_ixL hp5 rfl ?_
    walk_at "go"
    refine w_xfA rfl hed4 EC T.n_NoFit_name rfl ?_
    walk_at "go"
    exact ⟨(by show 2 ≤ sizeLine; decide), fun p hp => fin _ rfl p hp⟩
  | count w x =>
    have hp5 : H4 p4 = some (.lst [V.bl false, .bl false, .bl true, .bl false]) := hp4'.trans (congrArg (fun l => some (HO.lst (List.map V.bl l))) (by decide +kernel : [("BadCount" : Str) == "NoCell", ("BadCount" : Str) == "NoFit", ("BadCount" : Str) == "BadCount", ("BadCount" : Str) == "Unsafe"] = [false, false, true, false]))
    refine w_ixL hp5 rfl ?_
    walk_at "go"
    refine w_ixL hp5 rfl ?_
    walk_at "go"
    refine w_ixL hp5 rfl ?_
    walk_at "go"
    refine w_xfA rfl hed4 EC T.n_BadCount_what rfl ?_
    walk_at "go"
    refine w_xfA rfl hed4 EC T.n_BadCount_count rfl ?_
    walk_at "go"
    exact ⟨(by show 3 ≤ sizeLine; decide), fun p hp => fin _ rfl p hp⟩
  | uns v =>
    have hp5 : H4 p4 = some (.lst [V.bl false, .bl false, .bl false, .bl true]) := hp4'.trans (congrArg (fun l => some (HO.lst (List.map V.bl l))) (by decide +kernel : [("Unsafe" : Str) == "NoCell", ("Unsafe" : Str) == "NoFit", ("Unsafe" : Str) == "BadCount", ("Unsafe" : Str) == "Unsafe"] = [false, false, false, true]))
    refine w_ixL hp5 rfl ?_
    walk_at "go"
    refine w_ixL hp5 rfl ?_
    walk_at "go"
    refine w_ixL hp5 rfl ?_
    walk_at "go"
    exact ⟨(by show 1 ≤ sizeLine; decide), fun p hp => fin _ rfl p hp⟩
theorem takes_len {X : Cx} {W : WX} (tk : Takes X W) : Takes X (fun cls d σ H => σ.length = X.N.length → W cls d σ H) := fun u s' ⟨a, B, sI, pins, σ, H, cls, d, e, I, nb, up, sky, na, os, ag, w⟩ => tk u s' ⟨a, B, sI, pins, σ, H, cls, d, e, I, nb, up, sky, na, os, ag, w I.len⟩
theorem four {σ : L2.St} (h : σ.length = 4) : ∃ x0 x1 x2 x3, σ = [x0, x1, x2, x3] := by
  match σ, h with
  | [a, b, c, d], _ => exact ⟨a, b, c, d, rfl⟩
theorem sc_said : FnScope ["_law_ask", "_law_found", "e", "_law_kinds"] ["_law_ask"] (defScope s__law_said) := ⟨rfl, rfl, rfl, by decide +kernel, rfl, by decide +kernel, by decide +kernel⟩
theorem said_gives {X : Cx} (T : Tx X.K X.mg) {g : Addr} {cdg : Value} {q : Str} : GivesTo X ["_law_ask", "_law_found", "e", "_law_kinds"] "_law_said" (defScope s__law_said) g cdg (defBody s__law_said) "_law_ask" q (TTsaid X.K) := by
  intro f c' s H Q tl act hc h
  have gs : getsetB X.K = true := (and2 (and2 T.e).2).1
  refine ⟨_, pss_cons (ps_set (i := 1) sc_said.nd rfl (Or.inl rfl) pe_non) (pss_cons (ps_try_as (X := (cxOf C8.CX0 X.prog X.w X.K X.mg X.base ["_law_ask", "_law_found", "e", "_law_kinds"] "_law_said" (defScope s__law_said) g cdg X.A X.stack s H C8.E0).nox) (c := .ref (He.ga X.K "HallError")) (i := 2) (n := "e")
      (tb := fun W D σ H => ∃ Ech : XK, (∀ cls d σ' H', Ech cls d H' → σ'.length = 4 → W cls d σ' H') ∧ σ[0]? = some (some (.ref f)) ∧ H c' = some (CodeO c' q) ∧ tl Ech H fun _ H' => tAsg (tTup (tCons (tC (.str "told")) tNil)) (gName 1) D σ H') (ts := tSuite X.K)
      rfl rfl sc_said.nd rfl rfl ⟨rfl, by decide, Or.inl T.g_HallError⟩ LamX.takes0 (fun W pn xe tk _ => ?_) (fun a oe cls d pn hz hf => ?_)) (pss_one (ps_ret (pv 1)))), ?_⟩
  · refine ⟨fun pins s' σ H' D I h' => ?_⟩
    obtain ⟨Ech, hW, h1, h2, h3⟩ := h'
    exact (pss_cons (ps_expr (act _ pn xe Ech _ _ (takes_len tk) hW)) (pss_one (ps_set (i := 1) sc_said.nd rfl (Or.inl rfl) (pe_tup (pa_cons pe_str pa_nil))))).run pins s' σ H' D I ⟨h1, h2, h3⟩
  · have HI : CallR (((cxOf C8.CX0 X.prog X.w X.K X.mg X.base ["_law_ask", "_law_found", "e", "_law_kinds"] "_law_said" (defScope s__law_said) g cdg X.A X.stack s H C8.E0).nox).suite a ((a, oe) :: pn)) (.builtin "isinstance") (rIsA X.K a cls d) := call_isA gs hz hf
    exact (pss_cons (ps_set (i := 3) sc_said.nd rfl (Or.inl rfl) (pe_lst (pa_cons (pe_callB HI (by rfl) T.z_isinstance (by decide +kernel) (pa_cons (pv 2) (pa_cons (pe_gref T.g_NoCell) pa_nil))) (pa_cons (pe_callB HI (by rfl) T.z_isinstance (by decide +kernel) (pa_cons (pv 2) (pa_cons (pe_gref T.g_NoFit) pa_nil))) (pa_cons (pe_callB HI (by rfl) T.z_isinstance (by decide +kernel) (pa_cons (pv 2) (pa_cons (pe_gref T.g_BadCount) pa_nil))) (pa_cons (pe_callB HI (by rfl) T.z_isinstance (by decide +kernel) (pa_cons (pv 2) (pa_cons (pe_gref T.g_Unsafe) pa_nil))) pa_nil))))))
      (pss_one (ps_if (pw_or (pt_cmpR op_ne (pe_bm PySem.F.plainAttrs_list PySem.F.slot_list_count PySem.F.type_list_count mt_countT (pv 3) (pa_cons pe_bl pa_nil)) pe_int (nomark _)) (pw_or1 (pt_not (pt_val (pe_callB HI (by rfl) T.z_isinstance (by decide +kernel) (pa_cons (pv 2) (pa_cons (pe_bltn (v := .ty "ValueError") (u := .type "ValueError") (by rfl) T.z_ValueError (by decide +kernel) rfl) pa_nil))))))).pt (pss_one (ps_set (i := 1) sc_said.nd rfl (Or.inl rfl) (pe_tup (pa_cons pe_str pa_nil)))) (pss_one (ps_if (pt_val (pe_ix ix_list (pv 3) pe_int (fun _ _ => rfl))) (pss_one (ps_set (i := 1) sc_said.nd rfl (Or.inl rfl) (pe_tup (pa_cons pe_str (pa_cons (pe_xfA hz hf (pv 2)) (pa_cons (pe_xfA hz hf (pv 2)) pa_nil)))))) (pss_one (ps_if (pt_val (pe_ix ix_list (pv 3) pe_int (fun _ _ => rfl))) (pss_one (ps_set (i := 1) sc_said.nd rfl (Or.inl rfl) (pe_tup (pa_cons pe_str (pa_cons (pe_xfA hz hf (pv 2)) pa_nil))))) (pss_one (ps_if (pt_val (pe_ix ix_list (pv 3) pe_int (fun _ _ => rfl))) (pss_one (ps_set (i := 1) sc_said.nd rfl (Or.inl rfl) (pe_tup (pa_cons pe_str (pa_cons (pe_xfA hz hf (pv 2)) (pa_cons (pe_xfA hz hf (pv 2)) pa_nil)))))) (pss_one (ps_set (i := 1) sc_said.nd rfl (Or.inl rfl) (pe_tup (pa_cons pe_str pa_nil)))))))))))))
  · walk_at "go"
    refine ⟨Caught X.K Q, fun cls d σ' H' ⟨r, ed, k⟩ l4 => ?_, rfl, hc, ?_⟩
    · refine ⟨true, by rw [ed.1]; exact (T.err (x := r.x) r.mem).m, fun _ a ha => ?_, fun z => by cases z⟩
      obtain ⟨x0, x1, x2, x3, rfl⟩ := four l4
      refine suite_ok T r ed fun H' t o e ht => ?_
      walk_at "go"
      exact k H' t e ht
    · refine h (fun H' => _) fun H' k => ?_
      walk_at "go"
      refine ⟨(by show 1 ≤ sizeLine; decide), fun p hp => ?_⟩
      walk_at "go"
      exact k _ p (Same.new hp _) upd_same
end K3
end X2_part
section L2_part
set_option Elab.async false
set_option linter.all false
set_option maxRecDepth 100000
set_option maxHeartbeats 1000000
set_option pp.deepTerms.threshold 5
open PySem PySem.Spec PyProof.Rows L2
/-- go on as far as nothing is open -/
local macro_rules | `(tactic| walk_at "go") => `(tactic| repeat (first
  | with_reducible refine w_seq ?_ | with_reducible refine w_next ?_ | with_reducible refine w_set ?_ | with_reducible refine w_drop ?_ | with_reducible refine w_ret ?_ | with_reducible refine w_retN ?_
  | with_reducible refine w_if ?_ | ((with_reducible refine' w_var ?hv ?_); (case hv => exact rfl)) | with_reducible refine w_c ?_ | with_reducible refine w_nil ?_ | with_reducible refine w_cons ?_ | with_reducible refine w_op ?_ | with_reducible refine w_un ?_
  | with_reducible refine w_test ?_ | with_reducible refine w_tB ?_ | with_reducible refine w_not ?_ | with_reducible refine w_and ?_ | with_reducible refine w_or ?_ | with_reducible refine w_bl ?_
  | with_reducible refine w_andV ?_ | with_reducible refine w_orV ?_ | with_reducible refine w_notV ?_ | with_reducible refine w_ifE ?_ | with_reducible refine w_chain ?_ | with_reducible refine w_i0 ?_
  | with_reducible refine w_call ?_ | with_reducible refine w_callS ?_ | with_reducible refine w_cB ?_ | with_reducible refine w_tup ?_ | with_reducible refine w_lst ?_ | with_reducible refine w_fldV ?_
  | with_reducible refine w_neF ?_ | with_reducible refine w_neT ?_ | with_reducible refine w_notN ?_ | with_reducible refine w_isN ?_ | with_reducible refine w_gname ?_ | with_reducible refine w_gsub ?_ | with_reducible refine w_asg ?_ | with_reducible refine w_sl ?_ | with_reducible refine w_noP ?_ | with_reducible refine w_int1 ?_ | with_reducible refine w_part ?_ | with_reducible refine w_yes ?_ | with_reducible refine w_nT ?_ | with_reducible refine w_nF ?_ | with_reducible refine w_iteT ?_ | with_reducible refine w_iteF ?_))
namespace K3
/-- the state that digits are taken from: the given number's rest, then two that are mixed -/
def Sd (H : Hp) (s : Addr) : Prop := ∃ a b c : Int, H s = some (.lst [.int a, .int b, .int c]) ∧ 0 ≤ b ∧ b < 4294967296 ∧ 0 ≤ c ∧ c < 4294967296
theorem Sd.same {H H' : Hp} {s : Addr} (h : Sd H s) (e : Same H H') : Sd H' s := let ⟨a, b, c, q, r⟩ := h; ⟨a, b, c, e _ _ q, r⟩
theorem Sd.src {H : Hp} {s : Addr} (h : Sd H s) : Src H s := let ⟨a, b, c, q, _⟩ := h; ⟨a, b, c, q⟩
theorem Sd.upd {H : Hp} {s p : Addr} (hs : Sd H s) (ne : p ≠ s) (o : HO) : Sd (L2.upd H p o) s := let ⟨a, b, c, h, r⟩ := hs; ⟨a, b, c, by rw [upd_ne ne.symm]; exact h, r⟩
theorem Sd.bm {H H' : Hp} {s : Addr} {M : List Addr} (h : Sd H s) (e : BM M H H') (k : s ∉ M) : Sd H' s := let ⟨a, b, c, q, r⟩ := h; ⟨a, b, c, e.at q k, r⟩
def spState (K : PySem.W.Frag) : Sp := fun vs H Q _ => ∃ c : Int, vs = [.int c] ∧ ∀ p H', H p = none → Same H H' → Sd H' p → Q (.ref p) H'
def spDigit (K : PySem.W.Frag) : Sp := fun vs H Q _ => ∃ (s : Addr) (m : Int), vs = [.ref s, .int m] ∧ Sd H s ∧ 0 < m ∧ m < 2 ^ 62 ∧ ∀ (r : Nat) H', (r : Int) < m → BM [s] H H' → Sd H' s → Q (.int (r : Int)) H'
theorem mul01 (x : Int) (z : Bool) : CMul x (if z = true then 1 else 0) := .inr (by cases z <;> decide)
section
variable {P : Program} {w : World} {K : PySem.W.Frag} {mg : Str → Option Value} {base : Heap}
theorem sc_state : FnScope ["_law_place"] ["_law_place"] (defScope s__law_state) := ⟨rfl, rfl, rfl, by decide +kernel, rfl, by decide +kernel, by decide +kernel⟩
theorem ok_state (T : Tx K mg) : Ok P w K mg base 1 (He.ga K "_law_state") ["_law_place"] (spState K) := by
  obtain ⟨fd, F⟩ := T.f__law_state
  refine ⟨fd, F.ok (k := 0) sc_state (fun vs H Q E h => ?_) (fun cdv A outer s_ H vs Q E hr h => ?_), F.bindsN fun _ _ _ _ _ _ us hl => match us, hl with | [_], _ => rfl, F.kp⟩
  · obtain ⟨c, rfl, q⟩ := h
    rfl
  obtain ⟨c, rfl, q⟩ := h
  have hu65 := K3.Room.units65 hr
  have hu64 := Nat.lt_of_succ_lt hu65
  have hu0 := Nat.lt_of_le_of_lt (Nat.le_add_right _ 65) hu65
  have hu1 := Nat.lt_of_le_of_lt (Nat.add_le_add_left (show 1 ≤ 65 by decide) _) hu65
  refine ⟨_, pss_cons (ps_set (i := 0) sc_state.nd rfl (Or.inl rfl) (pe_callB call_abs (by rfl) T.z_abs (by decide +kernel) (pa_cons (pv 0) pa_nil)))
      (pss_one (ps_ret (pe_lst (pa_cons (pe_op op_mul (pv 0) (pe_callTy call_int1 (by rfl) T.z_int (by decide +kernel) (pa_cons (pe_cmpR op_ge (pv 0) (pe_op op_pow pe_int pe_int) rfl) pa_nil))) (pa_cons (pe_op op_add (pe_op op_mod (pv 0) pe_int) pe_int) (pa_cons (pe_op op_mod (pv 0) pe_int) pa_nil)))))), ?_⟩
  walk_at "go"
  refine ⟨c, rfl, ?_⟩
  walk_at "go"
  refine w_i (by refine ⟨?_, ?_, ?_⟩ <;> decide) ?_
  walk_at "go"
  (refine .inr ⟨_, rfl, ?_⟩; walk_at "go")
  refine w_i (mul01 _ _) ?_
  walk_at "go"
  refine w_i (by decide) ?_
  walk_at "go"
  refine w_i (by decide) ?_
  walk_at "go"
  exact ⟨(by show 3 ≤ sizeLine; decide), fun p hp => q p _ hp (Same.new hp _) ⟨_, _, _, upd_same, by omega, by omega, by omega, by omega⟩⟩
theorem sc_digit : FnScope ["_law_state_here", "_law_base", "_law_found", "_law_more"] ["_law_state_here", "_law_base"] (defScope s__law_digit) := ⟨rfl, rfl, rfl, by decide +kernel, rfl, by decide +kernel, by decide +kernel⟩
theorem ok_digit (T : Tx K mg) : Ok P w K mg base 1 (He.ga K "_law_digit") ["_law_state_here", "_law_base"] (spDigit K) := by
  obtain ⟨fd, F⟩ := T.f__law_digit
  refine ⟨fd, F.ok (k := 0) sc_digit (fun vs H Q E h => ?_) (fun cdv A outer s_ H vs Q E hr h => ?_), F.bindsN fun _ _ _ _ _ _ us hl => match us, hl with | [_, _], _ => rfl, F.kp⟩
  · obtain ⟨s, m, rfl, ⟨a, b, c, hs, b0, b1, c0, c1⟩, m0, m1, q⟩ := h
    rfl
  obtain ⟨s, m, rfl, ⟨a, b, c, hs, b0, b1, c0, c1⟩, m0, m1, q⟩ := h
  have hu65 := K3.Room.units65 hr
  have hu64 := Nat.lt_of_succ_lt hu65
  have hu0 := Nat.lt_of_le_of_lt (Nat.le_add_right _ 65) hu65
  have hu1 := Nat.lt_of_le_of_lt (Nat.add_le_add_left (show 1 ≤ 65 by decide) _) hu65
  refine ⟨_, pss_cons (ps_if (pt_cmpR op_gt (pe_ix ix_list (pv 0) pe_int (fun _ _ => rfl)) pe_int (nomark _)) (pss_cons (ps_set (i := 2) sc_digit.nd rfl (Or.inl rfl) (pe_op op_mod (pe_ix ix_list (pv 0) pe_int (fun _ _ => rfl)) (pv 1)))
      (pss_cons (ps_asg (pe_op op_fdivW (pe_ix ix_list (pv 0) pe_int (fun _ _ => rfl)) (pv 1)) (pg_sub (pv 0) pe_int set_list))
      (pss_one (ps_ret (pv 2))))) pss_nil)
      (pss_cons (ps_set (i := 3) sc_digit.nd rfl (Or.inl rfl) (pe_op op_mul (pe_ix ix_list (pv 0) pe_int (fun _ _ => rfl)) (pe_op op_add (pe_op op_fdiv (pe_ix ix_list (pv 0) pe_int (fun _ _ => rfl)) pe_int) pe_int)))
      (pss_cons (ps_asg (pe_op op_add (pe_op op_mod (pe_op op_add (pv 3) (pe_ix ix_list (pv 0) pe_int (fun _ _ => rfl))) pe_int) pe_int) (pg_sub (pv 0) pe_int set_list))
      (pss_one (ps_ret (pe_op op_mod (pe_op op_fdiv (pe_ix ix_list (pv 0) pe_int (fun _ _ => rfl)) pe_int) (pv 1)))))), ?_⟩
  have dv : CDivW a m := wide_div (b := 64) m0 (by omega) (by decide) (by decide)
  have qq : ∀ {r : Int} {H' : Hp}, 0 ≤ r → r < m → BM [s] H H' → Sd H' s → Q (.int r) H' := fun {r H'} r0 r1 hb hs => by
    obtain ⟨n, rfl⟩ : ∃ n : Nat, r = (n : Int) := ⟨r.toNat, by omega⟩
    exact q n H' r1 hb hs
  walk_at "go"
  refine w_ixL hs rfl ?_
  walk_at "go"
  by_cases a0 : (0 : Int) < a
  · rw [show decide (a > 0) = true from decide_eq_true a0]
    walk_at "go"
    refine w_ixL hs rfl ?_
    walk_at "go"
    refine w_i m0 ?_
    walk_at "go"
    refine w_ixL hs rfl ?_
    walk_at "go"
    refine w_i dv ?_
    walk_at "go"
    refine w_setL hs rfl ?_
    walk_at "go"
    exact qq (Int.emod_nonneg _ (by omega)) (Int.emod_lt_of_pos _ m0) (BM.upd (List.mem_singleton.mpr rfl) _) ⟨_, _, _, upd_same, b0, b1, c0, c1⟩
  · rw [show decide (a > 0) = false from decide_eq_false a0]
    walk_at "go"
    refine w_ixL hs rfl ?_
    walk_at "go"
    refine w_ixL hs rfl ?_
    walk_at "go"
    refine w_i (by refine ⟨?_, ?_⟩ <;> decide) ?_
    walk_at "go"
    refine w_i (.inl ⟨by omega, by omega⟩) ?_
    walk_at "go"
    refine w_ixL hs rfl ?_
    walk_at "go"
    refine w_i (by decide) ?_
    walk_at "go"
    refine w_setL hs rfl ?_
    walk_at "go"
    refine w_ixL upd_same rfl ?_
    walk_at "go"
    refine w_i (by refine ⟨?_, ?_⟩ <;> decide) ?_
    walk_at "go"
    refine w_i m0 ?_
    exact qq (Int.emod_nonneg _ (by omega)) (Int.emod_lt_of_pos _ m0) (BM.upd (List.mem_singleton.mpr rfl) _) ⟨_, _, _, upd_same, by omega, by omega, c0, c1⟩
end
end K3
end L2_part
section L3_part
set_option Elab.async false
set_option linter.all false
set_option maxRecDepth 100000
set_option maxHeartbeats 1000000
set_option pp.deepTerms.threshold 5
open PySem PySem.Spec PyProof.Rows L2
/-- go on as far as nothing is open -/
local macro_rules | `(tactic| walk_at "go") => `(tactic| repeat (first
  | with_reducible refine w_seq ?_ | with_reducible refine w_next ?_ | with_reducible refine w_set ?_ | with_reducible refine w_drop ?_ | with_reducible refine w_ret ?_ | with_reducible refine w_retN ?_
  | with_reducible refine w_if ?_ | ((with_reducible refine' w_var ?hv ?_); (case hv => exact rfl)) | with_reducible refine w_c ?_ | with_reducible refine w_nil ?_ | with_reducible refine w_cons ?_ | with_reducible refine w_op ?_ | with_reducible refine w_un ?_
  | with_reducible refine w_test ?_ | with_reducible refine w_tB ?_ | with_reducible refine w_not ?_ | with_reducible refine w_and ?_ | with_reducible refine w_or ?_ | with_reducible refine w_bl ?_
  | with_reducible refine w_andV ?_ | with_reducible refine w_orV ?_ | with_reducible refine w_notV ?_ | with_reducible refine w_ifE ?_ | with_reducible refine w_chain ?_ | with_reducible refine w_i0 ?_
  | with_reducible refine w_call ?_ | with_reducible refine w_callS ?_ | with_reducible refine w_cB ?_ | with_reducible refine w_tup ?_ | with_reducible refine w_lst ?_ | with_reducible refine w_fldV ?_
  | with_reducible refine w_neF ?_ | with_reducible refine w_neT ?_ | with_reducible refine w_notN ?_ | with_reducible refine w_isN ?_ | with_reducible refine w_gname ?_ | with_reducible refine w_gsub ?_ | with_reducible refine w_asg ?_ | with_reducible refine w_sl ?_ | with_reducible refine w_noP ?_ | with_reducible refine w_int1 ?_ | with_reducible refine w_part ?_ | with_reducible refine w_yes ?_ | with_reducible refine w_nT ?_ | with_reducible refine w_nF ?_ | with_reducible refine w_iteT ?_ | with_reducible refine w_iteF ?_))
namespace K3
def spSummed (K : PySem.W.Frag) : Sp := fun vs H Q _ => ∃ (p : Addr) (rs : List Addr) (t : List (List Int)) (k : Nat), vs = [.ref p] ∧ Tab H p rs t ∧ (∀ r ∈ t, r.length = k) ∧ t ≠ [] ∧ t.length ≤ 100 ∧ k ≤ 100 ∧ ∀ p' H' rs', Same H H' → New H p' rs' → Tab H' p' rs' (withSums k t) → Q (.ref p') H'
section
variable {P : Program} {w : World} {K : PySem.W.Frag} {mg : Str → Option Value} {base : Heap}
theorem sc_summed : FnScope ["_law_inner", "_law_rows", "_law_row", "_law_k"] ["_law_inner"] (defScope s__law_summed) := ⟨rfl, rfl, rfl, by decide +kernel, rfl, by decide +kernel, by decide +kernel⟩
theorem ok_summed (T : Tx K mg) : Ok P w K mg base 1 (He.ga K "_law_summed") ["_law_inner"] (spSummed K) := by
  obtain ⟨fd, F⟩ := T.f__law_summed
  refine ⟨fd, F.ok (k := 0) sc_summed (fun vs H Q E h => ?_) (fun cdv A outer s_ H vs Q E hr h => ?_), F.bindsN fun _ _ _ _ _ _ us hl => match us, hl with | [_], _ => rfl, F.kp⟩
  · obtain ⟨p, rs, t, k, rfl, ht, hk, h0, hn, hk1, q⟩ := h
    rfl
  obtain ⟨p, rs, t, k, rfl, ht, hk, h0, hn, hk1, q⟩ := h
  have hu65 := K3.Room.units65 hr
  have hu64 := Nat.lt_of_succ_lt hu65
  have hu0 := Nat.lt_of_le_of_lt (Nat.le_add_right _ 65) hu65
  have hu1 := Nat.lt_of_le_of_lt (Nat.add_le_add_left (show 1 ≤ 65 by decide) _) hu65
  refine ⟨_, pss_cons (ps_set (i := 1) sc_summed.nd rfl (Or.inr rfl) (by exact pe_lc (own := [("_law_row", 2)]) (g := gName 2) (tt := tYes) (te := (tOp rCat (tCB (fun xs H Q => ∃ p ys, xs = [V.ref p] ∧ (SqL K H p ys ∨ SqT K H p ys) ∧ ∀ l, H l = none → Q (.ref l) (upd H l (.lst ys))) (tCons (tVar 2) tNil)) (tLst (tCons (tCB (rSum K) (tCons (tVar 2) tNil)) tNil)))) (by rfl) sc_summed.nd (pi_list (pv 0)) (blkOk_by (own := [("_law_row", 2)]) (N := ["_law_inner", "_law_rows", "_law_row", "_law_k"]) (sc := defScope s__law_summed) (by decide +kernel)) (fun _ _ _ _ _ => (pg_name (i := 2) sc_summed.nd rfl (Or.inl rfl))) (fun _ _ _ _ _ => pts_nil) (fun _ _ _ _ _ => (pe_op op_cat (pe_callTy call_list_of (by rfl) T.z_list (by decide +kernel) (pa_cons (pv 2) pa_nil)) (pe_lst (pa_cons (pe_callB (cr_sum (by rfl)) (by rfl) T.z_sum (by decide +kernel) (pa_cons (pv 2) pa_nil)) pa_nil))))))
      (pss_one (ps_ret (pe_op op_cat (pv 1) (pe_lst (pa_cons (by exact pe_lc (own := [("_law_k", 3)]) (g := gName 3) (tt := tYes) (te := (tCB (rSum K) (tCons (tLc (iList K (tVar 1)) (gName 2) tYes (tOp (rIxL K) (tVar 2) (tVar 3)) [2]) tNil))) (by rfl) sc_summed.nd (pi_range1 rfl T.z_range (pa_cons (pe_callB call_len_seq (by rfl) T.z_len PySem.boot_len (pa_cons (pe_ix ix_list (pv 1) pe_int (fun _ _ => rfl)) pa_nil)) pa_nil)) (blkOk_by (own := [("_law_k", 3)]) (N := ["_law_inner", "_law_rows", "_law_row", "_law_k"]) (sc := defScope s__law_summed) (by decide +kernel)) (fun _ _ _ _ _ => (pg_name (i := 3) sc_summed.nd rfl (Or.inr rfl))) (fun _ _ _ _ _ => pts_nil) (fun _ _ _ _ _ => (pe_callB (cr_sum (by rfl)) (by rfl) T.z_sum (by decide +kernel) (pa_cons (by exact pe_lc (own := [("_law_row", 2)]) (g := gName 2) (tt := tYes) (te := (tOp (rIxL K) (tVar 2) (tVar 3))) (by rfl) sc_summed.nd (pi_list (pv 1)) (blkOk_by (own := [("_law_row", 2)]) (N := ["_law_inner", "_law_rows", "_law_row", "_law_k"]) (sc := { kind := .function, names := [(".0", .local), ("_law_k", .cell), ("sum", .globalImplicit), ("_law_rows", .cell)], isGenerator := false, isCoroutine := false }) (by decide +kernel)) (fun _ _ _ _ _ => (pg_name (i := 2) sc_summed.nd rfl (Or.inl rfl))) (fun _ _ _ _ _ => pts_nil) (fun _ _ _ _ _ => (pe_ix ix_list (pv 2) (pv 3) (fun _ _ => rfl)))) pa_nil)))) pa_nil))))), ?_⟩
  have lr := ht.rows.length
  walk_at "go"
  refine lcAt_open (list_open ?_)
  walk_at "go"
  refine ⟨p, rfl, ⟨_, SqL.of ht.at_⟩, fun D hD => ?_⟩
  refine rows_new addSum ht (by omega) hD (fun x => rfl) ?_ ?_
  · intro b r H1 e1 hr hb Q' q'
    walk_at "go"
    refine ⟨b, _, rfl, .inl (SqL.of hb), fun l1 hl1 => ?_⟩
    have e2 := Same.new hl1 (.lst (r.map V.int))
    walk_at "go"
    refine ⟨b, r, rfl, SqL.of (e2 _ _ hb), ?_⟩
    walk_at "go"
    refine ⟨(by show 1 ≤ sizeLine; decide), fun l2 hl2 => ?_⟩
    have e3 := Same.new hl2 (.lst [V.int r.sum])
    have hlen := hk r hr
    refine ⟨l1, l2, _, _, rfl, rfl, e3 _ _ upd_same, upd_same, Nat.le_trans (show (r.map V.int).length + 1 ≤ 200 by rw [List.length_map]; omega) (by decide), fun l3 hl3 => ?_⟩
    have e4 := Same.new hl3 (.lst (r.map V.int ++ [V.int r.sum]))
    refine q' l3 _ ((e2.trans e3).free hl3) (e2.trans (e3.trans e4)) ?_
    unfold RowAt addSum
    rw [List.map_append]
    exact upd_same
  · intro H1 cs e1 t1 nd fr
    have h1len : (t.map addSum).length = t.length := List.length_map _
    generalize hu : t.map addSum = u at t1 h1len
    have uk : ∀ r ∈ u, r.length = k + 1 := fun r hr => by
      rw [← hu] at hr
      obtain ⟨r', hr', rfl⟩ := List.mem_map.mp hr
      unfold addSum
      rw [List.length_append, hk r' hr']
      rfl
    obtain ⟨a0, u0, ha0, hu0, hx0⟩ := row_of t1 (i := 0) (by have := List.length_pos_iff.mpr h0; omega)
    have hl0 := uk u0 (List.mem_of_getElem? hu0)
    walk_at "go"
    refine lcAt_open (rng_open ?_)
    walk_at "go"
    refine w_ixL t1.at_ (ref_at ha0) ?_
    walk_at "go"
    refine ⟨a0, _, rfl, .inl (SqL.of hx0), ?_⟩
    rw [List.length_map, hl0]
    refine ⟨_, rfl, by omega, by omega, fun D2 hD2 => ?_⟩
    rw [Int.toNat_natCast]
    refine lc_range (lo := 0) (n := k + 1) (fun (c : Nat) H' => Same H1 H' ∧ H' D2 = some (.lst (((List.range c).map fun c => (colOf u c).sum).map V.int))) ⟨Same.new hD2 _, upd_same⟩ ?_ ?_
    · rintro c H2 hc ⟨e2, hD22⟩
      walk_at "go"
      refine ⟨rfl, ?_⟩
      walk_at "go"
      refine lcAt_open (list_open ?_)
      walk_at "go"
      refine ⟨D, rfl, ⟨_, SqL.of (e2 _ _ t1.at_)⟩, fun D3 hD3 => ?_⟩
      refine rows_at (fun r => .int (r.getD c 0)) (t1.same e2) (by omega) hD3 (fun x => rfl) ?_ ?_
      · intro b r H3 e3 hr hb Q' q'
        walk_at "go"
        rw [show (0 : Int) + (c : Int) = (c : Int) by omega]
        exact w_ixL hb (at_getD (by rw [uk r hr]; exact hc)) (q' _ (Same.refl _))
      · intro H3 e3 h3
        walk_at "go"
        refine ⟨D3, colOf u c, rfl, SqL.of (by rw [h3]; unfold colOf; rw [List.map_map]; rfl), ?_⟩
        refine ⟨_, e3 _ _ hD22, Nat.lt_of_le_of_lt (show (((List.range c).map fun c => (colOf u c).sum).map V.int).length ≤ 1000 by rw [List.length_map, List.length_map, List.length_range]; omega) (by decide), (e2.trans e3).mut hD2, ?_⟩
        rw [upd_same, List.range_succ, List.map_append, List.map_append]
        rfl
    · rintro H2 ⟨e2, hD22⟩
      walk_at "go"
      refine ⟨(by show 1 ≤ sizeLine; decide), fun D4 hD4 => ?_⟩
      have e4 := Same.new hD4 (.lst [V.ref D2])
      refine ⟨D, D4, _, _, rfl, rfl, e4 _ _ (e2 _ _ t1.at_), upd_same, Nat.le_trans (show (cs.map V.ref).length + 1 ≤ 200 by rw [List.length_map, t1.rows.length]; omega) (by decide), fun D5 hD5 => ?_⟩
      have e5 := Same.new hD5 (.lst (cs.map V.ref ++ [V.ref D2]))
      have e25 := e2.trans (e4.trans e5)
      walk_at "go"
      have D20 : H D2 = none := e1.free hD2
      refine q D5 _ (cs ++ [D2]) (e1.trans e25) ⟨e1.free (e2.free (e4.free hD5)), fun r hr => ?_, nodup_snoc nd fun z => ?_, fun z => ?_⟩ ⟨?_, ?_⟩
      · rcases List.mem_append.mp hr with hr | hr
        · exact (fr r hr).1
        · rw [List.mem_singleton.mp hr]; exact D20
      · obtain ⟨row, hrow⟩ := paired_has t1.rows z
        have hrow : H1 D2 = some _ := hrow
        rw [hD2] at hrow
        cases hrow
      · have hD50 := e4.free hD5
        rcases List.mem_append.mp z with z | z
        · obtain ⟨row, hrow⟩ := paired_has t1.rows z
          have hrow := e2 _ _ hrow
          rw [hD50] at hrow
          cases hrow
        · rw [List.mem_singleton.mp z, hD22] at hD50
          cases hD50
      · rw [List.map_append]
        exact upd_same
      · unfold withSums
        rw [hu]
        exact K3.Paired.app (L2.Paired.mapP t1.rows fun _ _ z => e25 _ _ z) (.cons ((e4.trans e5) _ _ hD22) .nil)
end
end K3
end L3_part
section L4_part
set_option Elab.async false
set_option linter.all false
set_option maxRecDepth 100000
set_option maxHeartbeats 1000000
set_option pp.deepTerms.threshold 5
open PySem PySem.Spec PyProof.Rows L2
/-- go on as far as nothing is open -/
local macro_rules | `(tactic| walk_at "go") => `(tactic| repeat (first
  | with_reducible refine w_seq ?_ | with_reducible refine w_next ?_ | with_reducible refine w_set ?_ | with_reducible refine w_drop ?_ | with_reducible refine w_ret ?_ | with_reducible refine w_retN ?_
  | with_reducible refine w_if ?_ | ((with_reducible refine' w_var ?hv ?_); (case hv => exact rfl)) | with_reducible refine w_c ?_ | with_reducible refine w_nil ?_ | with_reducible refine w_cons ?_ | with_reducible refine w_op ?_ | with_reducible refine w_un ?_
  | with_reducible refine w_test ?_ | with_reducible refine w_tB ?_ | with_reducible refine w_not ?_ | with_reducible refine w_and ?_ | with_reducible refine w_or ?_ | with_reducible refine w_bl ?_
  | with_reducible refine w_andV ?_ | with_reducible refine w_orV ?_ | with_reducible refine w_notV ?_ | with_reducible refine w_ifE ?_ | with_reducible refine w_chain ?_ | with_reducible refine w_i0 ?_
  | with_reducible refine w_call ?_ | with_reducible refine w_callS ?_ | with_reducible refine w_cB ?_ | with_reducible refine w_tup ?_ | with_reducible refine w_lst ?_ | with_reducible refine w_fldV ?_
  | with_reducible refine w_neF ?_ | with_reducible refine w_neT ?_ | with_reducible refine w_notN ?_ | with_reducible refine w_isN ?_ | with_reducible refine w_gname ?_ | with_reducible refine w_gsub ?_ | with_reducible refine w_asg ?_ | with_reducible refine w_sl ?_ | with_reducible refine w_noP ?_ | with_reducible refine w_int1 ?_ | with_reducible refine w_part ?_ | with_reducible refine w_yes ?_ | with_reducible refine w_nT ?_ | with_reducible refine w_nF ?_ | with_reducible refine w_iteT ?_ | with_reducible refine w_iteF ?_))
namespace K3
def spLCells (K : PySem.W.Frag) : Sp := fun vs H Q _ => ∃ (g : Addr) (rs : List Addr) (t : List (List Int)) (m n : Nat), vs = [.ref g] ∧ Tab H g rs t ∧ Rect t m n ∧ 1 ≤ m ∧ m ≤ 60 ∧ n ≤ 60 ∧ ∀ p H' ws, Same H H' → H p = none → H' p = some (.lst ws) → Paired (CellAt H') ws (cellsOf m n).dropLast → Q (.ref p) H'
def spLHid (K : PySem.W.Frag) : Sp := fun vs H Q _ => ∃ (s g : Addr) (rs : List Addr) (t : List (List Int)) (m n : Nat) (x : Int), vs = [.ref s, .ref g, .int x] ∧ Sd H s ∧ (g ≠ s ∧ ∀ r ∈ rs, r ≠ s) ∧ Tab H g rs t ∧ Rect t m n ∧ 2 ≤ m ∧ m ≤ 7 ∧ 2 ≤ n ∧ n ≤ 7 ∧
  ∀ p H' ws hs, H p = none → BM [s] H H' → Sd H' s → H' p = some (.lst ws) → Paired (CellAt H') ws hs → (∀ c ∈ hs, c ∈ (cellsOf m n).dropLast) → hs ≠ [] → hs.length ≤ 60 → Q (.ref p) H'
def spLGrid (K : PySem.W.Frag) : Sp := fun vs H Q _ => ∃ (s : Addr) (m k : Nat) (x : Int), vs = [.ref s, .int (m : Int), .int (k : Int), .int x] ∧ Sd H s ∧ 1 ≤ m ∧ m ≤ 6 ∧ 1 ≤ k ∧ k ≤ 6 ∧ 0 < x ∧ x < 2 ^ 62 ∧
  ∀ p H' rs t, BM [s] H H' → Sd H' s → New H p rs → Tab H' p rs (withSums k t) → t.length = m → (∀ r ∈ t, r.length = k ∧ ∀ y ∈ r, 0 ≤ y ∧ y < x) → Q (.ref p) H'
theorem cellsOf_succ (m n : Nat) : cellsOf (m + 1) n = cellsOf m n ++ rowCells n m := by
  unfold cellsOf
  rw [List.range_succ, List.flatMap_append]
  simp
theorem rowCells_succ (n r : Nat) : rowCells (n + 1) r = rowCells n r ++ [(r, n)] := by
  unfold rowCells
  rw [List.range_succ, List.map_append]
  rfl
theorem CellAt.bmS {s : Addr} {H H' : Hp} (hs : Sd H s) (e : BM [s] H H') {v : V} {c : Nat × Nat} (h : CellAt H v c) : CellAt H' v c := h.bm hs.src e
section
variable {P : Program} {w : World} {K : PySem.W.Frag} {mg : Str → Option Value} {base : Heap}
theorem sc_cells : FnScope ["_law_grid", "_law_found", "_law_row", "_law_column"] ["_law_grid"] (defScope s__law_cells) := ⟨rfl, rfl, rfl, by decide +kernel, rfl, by decide +kernel, by decide +kernel⟩
theorem ok_cells (T : Tx K mg) : Ok P w K mg base 1 (He.ga K "_law_cells") ["_law_grid"] (spLCells K) := by
  obtain ⟨fd, F⟩ := T.f__law_cells
  refine ⟨fd, F.ok (k := 0) sc_cells (fun vs H Q E h => ?_) (fun cdv A outer s_ H vs Q E hr h => ?_), F.bindsN fun _ _ _ _ _ _ us hl => match us, hl with | [_], _ => rfl, F.kp⟩
  · obtain ⟨g, rs, t, m, n, rfl, ht, hR, m1, m60, n60, q⟩ := h
    rfl
  obtain ⟨g, rs, t, m, n, rfl, ht, hR, m1, m60, n60, q⟩ := h
  have hu65 := K3.Room.units65 hr
  have hu64 := Nat.lt_of_succ_lt hu65
  have hu0 := Nat.lt_of_le_of_lt (Nat.le_add_right _ 65) hu65
  have hu1 := Nat.lt_of_le_of_lt (Nat.add_le_add_left (show 1 ≤ 65 by decide) _) hu65
  refine ⟨_, pss_cons (ps_set (i := 1) sc_cells.nd rfl (Or.inl rfl) (pe_lst pa_nil))
      (pss_cons (ps_for (passes_of rfl) (by rfl) (pi_range1 rfl T.z_range (pa_cons (pe_callB call_len_seq (by rfl) T.z_len PySem.boot_len (pa_cons (pv 0) pa_nil)) pa_nil)) (pg_name (i := 2) sc_cells.nd rfl (Or.inr rfl)) (pss_one (ps_set (i := 1) sc_cells.nd rfl (Or.inl rfl) (pe_op op_cat (pv 1) (by exact pe_lc (own := [("_law_column", 3)]) (g := gName 3) (tt := tYes) (te := (tTup (tCons (tVar 2) (tCons (tVar 3) tNil)))) (by rfl) sc_cells.nd (pi_range1 rfl T.z_range (pa_cons (pe_callB call_len_seq (by rfl) T.z_len PySem.boot_len (pa_cons (pe_ix ix_list (pv 0) pe_int (fun _ _ => rfl)) pa_nil)) pa_nil)) (blkOk_by (own := [("_law_column", 3)]) (N := ["_law_grid", "_law_found", "_law_row", "_law_column"]) (sc := defScope s__law_cells) (by decide +kernel)) (fun _ _ _ _ _ => (pg_name (i := 3) sc_cells.nd rfl (Or.inl rfl))) (fun _ _ _ _ _ => pts_nil) (fun _ _ _ _ _ => (pe_tup (pa_cons (pv 2) (pa_cons (pv 3) pa_nil)))))))))
      (pss_one (ps_ret (pe_slice sl_list (pv 1) po_none (po_some (pe_un un_neg pe_int)))))), ?_⟩
  have lr := ht.rows.length
  have lt := hR.1
  obtain ⟨a0, r0, ha0, hr0, hx0⟩ := row_of ht (i := 0) (by omega)
  have hl0 := hR.2 r0 (List.mem_of_getElem? hr0)
  walk_at "go"
  refine ⟨Nat.zero_le _, fun p0 hp0 => ?_⟩
  have e0 := Same.new hp0 (.lst [])
  walk_at "go"
  refine rng_open ?_
  walk_at "go"
  refine ⟨g, _, rfl, .inl (SqL.of (e0 _ _ ht.at_)), ?_⟩
  rw [List.length_map, lr, lt]
  refine ⟨_, rfl, by omega, by omega, ?_⟩
  rw [Int.toNat_natCast]
  refine for_range (lo := 0) (n := m) (fun (i : Nat) σ H' => ∃ (p : Addr) (ws : List V) (o2 o3 : Option V), σ = [some (.ref g), some (.ref p), o2, o3] ∧ Same H H' ∧ H p = none ∧ H' p = some (.lst ws) ∧ Paired (CellAt H') ws (cellsOf i n)) ⟨p0, [], none, none, rfl, e0, hp0, upd_same, .nil⟩ ?_ ?_
  · rintro i σ H1 hi ⟨p, ws, o2, o3, rfl, e1, hp, h1, hw⟩
    walk_at "go"
    refine lcAt_open (rng_open ?_)
    walk_at "go"
    refine w_ixL (e1 _ _ ht.at_) (ref_at ha0) ?_
    walk_at "go"
    refine ⟨a0, _, rfl, .inl (SqL.of (e1 _ _ hx0)), ?_⟩
    rw [List.length_map, hl0]
    refine ⟨_, rfl, by omega, by omega, fun D hD => ?_⟩
    rw [Int.toNat_natCast]
    refine lc_range (lo := 0) (n := n) (fun (j : Nat) H' => Same H1 H' ∧ ∃ zs, H' D = some (.lst zs) ∧ Paired (CellAt H') zs (rowCells j i)) ⟨Same.new hD _, [], upd_same, .nil⟩ ?_ ?_
    · rintro j H2 hj ⟨e2, zs, h2, hz⟩
      walk_at "go"
      refine ⟨rfl, ?_⟩
      walk_at "go"
      refine ⟨(by show 2 ≤ sizeLine; decide), fun a ha => ?_⟩
      have e3 := Same.new ha (.tup [V.int (0 + (i : Int)), V.int (0 + (j : Int))])
      have aD : a ≠ D := fun z => by rw [z, h2] at ha; cases ha
      have lz : zs.length ≤ 60 := by rw [hz.length]; unfold rowCells; rw [List.length_map, List.length_range]; omega
      refine ⟨zs, e3 _ _ h2, Nat.lt_of_le_of_lt lz (by decide), (e2.trans e3).mut hD, zs ++ [.ref a], upd_same, ?_⟩
      rw [rowCells_succ]
      refine K3.Paired.app (L2.Paired.mapP hz fun _ _ z => (z.same e3).muts (e3 _ _ h2)) (.cons ⟨a, rfl, ?_⟩ .nil)
      rw [upd_ne aD, upd_same, show (0 : Int) + (i : Int) = (i : Int) by omega, show (0 : Int) + (j : Int) = (j : Int) by omega]
    · rintro H2 ⟨e2, zs, h2, hz⟩
      have lw : ws.length ≤ 3600 := by rw [hw.length, cells_len]; exact Nat.mul_le_mul (by omega : i ≤ 60) n60
      have lz : zs.length ≤ 60 := by rw [hz.length]; unfold rowCells; rw [List.length_map, List.length_range]; omega
      refine ⟨p, D, ws, zs, rfl, rfl, e2 _ _ h1, h2, Nat.le_trans (show ws.length + zs.length ≤ 4000 by omega) (by decide), fun p2 hp2 => ?_⟩
      have e3 := Same.new hp2 (.lst (ws ++ zs))
      walk_at "go"
      refine ⟨p2, ws ++ zs, _, _, rfl, e1.trans (e2.trans e3), (e1.trans e2).free hp2, upd_same, ?_⟩
      rw [cellsOf_succ]
      exact K3.Paired.app (L2.Paired.mapP hw fun _ _ z => z.same (e2.trans e3)) (L2.Paired.mapP hz fun _ _ z => z.same e3)
  · rintro σ H1 ⟨p, ws, o2, o3, rfl, e1, hp, h1, hw⟩
    walk_at "go"
    refine ⟨_, rfl, ?_⟩
    walk_at "go"
    refine ⟨p, ws, rfl, SqL.of h1, fun p2 hp2 => ?_⟩
    rw [cut_last]
    have e2 := Same.new hp2 (.lst ws.dropLast)
    exact q p2 _ ws.dropLast (e1.trans e2) (e1.free hp2) upd_same (L2.Paired.mapP (paired_drop hw) fun _ _ z => z.same e2)
theorem sc_hidden : FnScope ["_law_s", "_law_grid", "_law_part", "_law_found", "_law_place"] ["_law_s", "_law_grid", "_law_part"] (defScope s__law_hidden) := ⟨rfl, rfl, rfl, by decide +kernel, rfl, by decide +kernel, by decide +kernel⟩
theorem ok_hidden (T : Tx K mg) : Ok P w K mg base 2 (He.ga K "_law_hidden") ["_law_s", "_law_grid", "_law_part"] (spLHid K) := by
  obtain ⟨fd, F⟩ := T.f__law_hidden
  have O_law_digit := ok_digit (P := P) (w := w) (base := base) T
  have O_law_cells := ok_cells (P := P) (w := w) (base := base) T
  refine ⟨fd, F.ok (k := 1) sc_hidden (fun vs H Q E h => ?_) (fun cdv A outer s_ H vs Q E hr h => ?_), F.bindsN fun _ _ _ _ _ _ us hl => match us, hl with | [_, _, _], _ => rfl, F.kp⟩
  · obtain ⟨s, g, rs, t, m, n, x, rfl, hs, gs, ht, hR, m2, m7, n2, n7, q⟩ := h
    rfl
  obtain ⟨s, g, rs, t, m, n, x, rfl, hs, gs, ht, hR, m2, m7, n2, n7, q⟩ := h
  have hu65 := K3.Room.units65 hr
  have hu64 := Nat.lt_of_succ_lt hu65
  have hu0 := Nat.lt_of_le_of_lt (Nat.le_add_right _ 65) hu65
  have hu1 := Nat.lt_of_le_of_lt (Nat.add_le_add_left (show 1 ≤ 65 by decide) _) hu65
  have r_law_digit : Room 1 _ := hr.mono (by decide)
  have r_law_cells : Room 1 _ := hr.mono (by decide)
  refine ⟨_, pss_cons (by exact ps_setLc (i := 3) (own := [("_law_place", 4)]) (g := gName 4) (tt := (tTest (tOp (rI0 fun i j => .bl (decide (i < j))) (tCall (spDigit K) [] E0 (tCons (tVar 0) (tCons (tC (.int 3)) tNil))) (tVar 2)))) (te := (tVar 4)) (by rfl) sc_hidden.nd rfl rfl (by rfl) (pi_list (pe_f O_law_cells r_law_cells T.g__law_cells (pa_cons (pv 1) pa_nil))) (blkOk_by (own := [("_law_place", 4)]) (N := ["_law_s", "_law_grid", "_law_part", "_law_found", "_law_place"]) (sc := defScope s__law_hidden) (by decide +kernel)) (fun _ _ _ _ _ => (pg_name (i := 4) sc_hidden.nd rfl (Or.inl rfl))) (fun _ _ _ _ _ => (pts_one (pt_cmpR op_lt (pe_f O_law_digit r_law_digit T.g__law_digit (pa_cons (pv 0) (pa_cons pe_int pa_nil))) (pv 2) (nomark _)))) (fun _ _ _ _ _ => (pv 4)))
      (pss_cons (ps_if (pt_cmpR (op_eqE hu0) (pv 3) (pe_lst pa_nil) (nomark _)) (pss_one (ps_set (i := 3) sc_hidden.nd rfl (Or.inl rfl) (pe_lst (pa_cons (pe_ix ix_list (pe_f O_law_cells r_law_cells T.g__law_cells (pa_cons (pv 1) pa_nil)) (pe_f O_law_digit r_law_digit T.g__law_digit (pa_cons (pv 0) (pa_cons (pe_callB call_len_seq (by rfl) T.z_len PySem.boot_len (pa_cons (pe_f O_law_cells r_law_cells T.g__law_cells (pa_cons (pv 1) pa_nil)) pa_nil)) pa_nil))) (fun _ _ => rfl)) pa_nil)))) pss_nil)
      (pss_one (ps_ret (pe_op op_cat (pe_revL (pv 3)) (pe_slice sl_list (pv 3) po_none (po_some (pe_f O_law_digit r_law_digit T.g__law_digit (pa_cons (pv 0) (pa_cons pe_int pa_nil))))))))), ?_⟩
  have lc49 : (cellsOf m n).dropLast.length ≤ 49 := by
    rw [List.length_dropLast, cells_len]
    exact Nat.le_trans (Nat.sub_le _ _) (Nat.mul_le_mul m7 n7)
  have lc1 : 0 < (cellsOf m n).dropLast.length := by
    rw [List.length_dropLast, cells_len]
    have := Nat.mul_le_mul m2 n2
    omega
  walk_at "go"
  refine lcAt_open (list_open ?_)
  walk_at "go"
  refine ⟨g, rs, t, m, n, rfl, ht, hR, by omega, by omega, by omega, fun p1 H1 w1 e1 hp1 h1 c1 => ?_⟩
  have s1 := hs.same e1
  have p1s : p1 ≠ s := src_ne hs.src hp1
  refine ⟨p1, rfl, ⟨_, SqL.of h1⟩, fun D hD => ?_⟩
  have Ds : D ≠ s := src_ne s1.src hD
  have l1 := c1.length
  refine lc_list (xs := w1) (fun (i : Nat) H' => ∃ (zs : List V) (cs : List (Nat × Nat)), BM [s] H1 H' ∧ Sd H' s ∧ H' D = some (.lst zs) ∧ Paired (CellAt H') zs cs ∧ cs.length ≤ i ∧ ∀ c ∈ cs, c ∈ (cellsOf m n).dropLast)
    ⟨[], [], BM.of (Same.new hD _), s1.upd Ds _, upd_same, .nil, Nat.le_refl _, fun c hc => (by cases hc)⟩ (fun i H' _ ⟨_, _, b, _⟩ => SqL.of (b.at h1 (by simpa using p1s))) ?_ ?_
  · rintro i v H2 hx ⟨zs, cs, b2, s2, h2, hz, lz, mz⟩
    obtain ⟨c, hc, hv⟩ := K3.Paired.get c1 hx
    walk_at "go"
    refine ⟨rfl, ?_⟩
    walk_at "go"
    refine ⟨s, 3, rfl, s2, by decide, by decide, fun r H3 r1 b3 s3 => ?_⟩
    walk_at "go"
    have h3 := b3.at h2 (by simpa using Ds)
    have hz3 := L2.Paired.mapP hz fun _ _ z => z.bmS s2 b3
    have hv3 : CellAt H3 v c := (hv.bmS s1 b2).bmS s2 b3
    by_cases k : (r : Int) < x
    · rw [decide_eq_true k]
      walk_at "go"
      refine ⟨zs, h3, Nat.lt_of_le_of_lt (show zs.length ≤ 1000 by rw [hz.length]; have := (List.getElem?_eq_some_iff.mp hx).1; omega) (by decide), zs ++ [v], cs ++ [c], (b2.trans b3).mut hD, s3.upd Ds _, upd_same, ?_, by rw [List.length_append]; simpa using lz, fun d hd => ?_⟩
      · exact K3.Paired.app (L2.Paired.mapP hz3 fun _ _ z => z.muts h3) (.cons (hv3.muts h3) .nil)
      · rcases List.mem_append.mp hd with hd | hd
        · exact mz d hd
        · rw [List.mem_singleton.mp hd]
          exact List.mem_of_getElem? hc
    · rw [decide_eq_false k]
      walk_at "go"
      exact ⟨zs, cs, b2.trans b3, s3, h3, hz3, by omega, mz⟩
  · rintro H2 ⟨zs, cs, b2, s2, h2, hz, lz, mz⟩
    have b02 : BM [s] H H2 := (BM.of e1).trans b2
    have fin : ∀ (D : Addr) (H3 : Hp) (zs : List V) (cs : List (Nat × Nat)), H D = none → BM [s] H H3 → Sd H3 s → H3 D = some (.lst zs) → Paired (CellAt H3) zs cs → cs ≠ [] → cs.length ≤ 49 → (∀ c ∈ cs, c ∈ (cellsOf m n).dropLast) →
        (tOp rCat (tRevL K (tVar 3)) (tSl (rSlL K) (tVar 3) tNoPart (tPart (tCall (spDigit K) [] E0 (tCons (tVar 0) (tCons (tC (.int 2)) tNil)))))) [some (.ref s), some (.ref g), some (.int x), some (.ref D), none] H3 Q := by
      intro D H3 zs cs hD3 b3 s3 h3 hz3 ne lz mz
      have Ds : D ≠ s := src_ne hs.src hD3
      walk_at "go"
      refine w_rev ?_
      walk_at "go"
      refine ⟨D, zs, rfl, SqL.of h3, fun p4 hp4 => ?_⟩
      have e4 := Same.new hp4 (.lst zs.reverse)
      have h44 : (upd H3 p4 (.lst zs.reverse)) p4 = some (.lst zs.reverse) := upd_same
      have s4 := s3.same e4
      have p4s : p4 ≠ s := src_ne s3.src hp4
      have h4 := e4 _ _ h3
      have hz4 := L2.Paired.mapP hz3 fun _ _ z => z.same e4
      generalize upd H3 p4 (.lst zs.reverse) = H4 at e4 h44 s4 h4 hz4 ⊢
      walk_at "go"
      refine ⟨s, 2, rfl, s4, by decide, by decide, fun r H5 r1 b5 s5 => ?_⟩
      have h5 := b5.at h4 (by simpa using Ds)
      have h54 := b5.at h44 (by simpa using p4s)
      have hz5 := L2.Paired.mapP hz4 fun _ _ z => z.bmS s4 b5
      walk_at "go"
      refine ⟨D, zs, rfl, SqL.of h5, fun p6 hp6 => ?_⟩
      rw [cut_to]
      have e6 := Same.new hp6 (.lst (zs.take r))
      have l5 := hz5.length
      refine ⟨p4, p6, _, _, rfl, rfl, e6 _ _ h54, upd_same, Nat.le_trans (show zs.reverse.length + (zs.take r).length ≤ 1000 by rw [List.length_reverse, List.length_take]; omega) (by decide), fun p7 hp7 => ?_⟩
      have e7 := Same.new hp7 (.lst (zs.reverse ++ zs.take r))
      have e67 := e6.trans e7
      have b05 := (b3.same e4).trans b5
      have hz7 := L2.Paired.mapP hz5 fun _ _ z => z.same e67
      refine q p7 _ _ (cs.reverse ++ cs.take r) (b05.free (e6.free hp7)) (b05.same e67) (s5.same e67) upd_same (K3.Paired.app (paired_rev hz7) (paired_take hz7 r)) (fun c hc => ?_) (fun z => ?_) ?_
      · rcases List.mem_append.mp hc with hc | hc
        · exact mz c (List.mem_reverse.mp hc)
        · exact mz c (List.mem_of_mem_take hc)
      · exact ne (List.reverse_eq_nil_iff.mp (List.append_eq_nil_iff.mp z).1)
      · have : r ≤ 1 := by omega
        rw [List.length_append, List.length_reverse, List.length_take]
        omega
    walk_at "go"
    refine ⟨Nat.zero_le _, fun p3 hp3 => ?_⟩
    have e3 := Same.new hp3 (.lst [])
    refine ⟨D, p3, zs, [], rfl, rfl, SqL.of (e3 _ _ h2), SqL.of upd_same, .inr (.inl rfl), ?_⟩
    have s3 := s2.same e3
    have h3 := e3 _ _ h2
    have hz3 := L2.Paired.mapP hz fun _ _ z => z.same e3
    have b03 := b02.same e3
    generalize upd H2 p3 (.lst []) = H3 at e3 s3 h3 hz3 b03 ⊢
    walk_at "go"
    by_cases k : zs = []
    · rw [decide_eq_true (⟨k, rfl⟩ : zs = [] ∧ ([] : List V) = [])]
      walk_at "go"
      have tab3 : Tab H3 g rs t := ht.bm b03 gs.1 gs.2
      refine ⟨g, rs, t, m, n, rfl, tab3, hR, by omega, by omega, by omega, fun p4 H4 w4 e4 hp4 h4 c4 => ?_⟩
      have s4 := s3.same e4
      have p4s : p4 ≠ s := src_ne s3.src hp4
      walk_at "go"
      refine ⟨g, rs, t, m, n, rfl, tab3.same e4, hR, by omega, by omega, by omega, fun p5 H5 w5 e5 hp5 h5 c5 => ?_⟩
      walk_at "go"
      refine ⟨p5, w5, rfl, .inl (SqL.of h5), ?_⟩
      have l5 := c5.length
      have l4 := c4.length
      have s5 := s4.same e5
      refine ⟨s, _, rfl, s5, by omega, by omega, fun r H6 r1 b6 s6 => ?_⟩
      have h46 := b6.at (e5 _ _ h4) (by simpa using p4s)
      have hr : r < w4.length := by omega
      obtain ⟨c, hc, hv⟩ := K3.Paired.get c4 (List.getElem?_eq_getElem hr)
      have hv6 := (hv.same e5).bmS s5 b6
      refine w_ixL h46 (atI_nat (List.getElem?_eq_getElem hr)) ?_
      walk_at "go"
      refine ⟨(by show 1 ≤ sizeLine; decide), fun p7 hp7 => ?_⟩
      have e7 := Same.new hp7 (.lst [w4[r]])
      walk_at "go"
      have b06 := ((b03.same e4).same e5).trans b6
      exact fin p7 _ [w4[r]] [c] (b06.free hp7) (b06.same e7) (s6.same e7) upd_same (.cons (hv6.same e7) .nil) (by simp) (by simp) (fun d hd => by rw [List.mem_singleton.mp hd]; exact List.mem_of_getElem? hc)
    · rw [decide_eq_false (fun z => k z.1 : ¬ (zs = [] ∧ ([] : List V) = []))]
      walk_at "go"
      refine fin D _ zs cs (e1.free hD) b03 s3 h3 hz3 (fun z => k ?_) (by omega) mz
      have := hz.length
      rw [z] at this
      exact List.length_eq_zero_iff.mp this
theorem sc_drawn_grid : FnScope ["_law_s", "_law_tall", "_law_wide", "_law_most", "_law_k", "_law_j"] ["_law_s", "_law_tall", "_law_wide", "_law_most"] (defScope s__law_drawn_grid) := ⟨rfl, rfl, rfl, by decide +kernel, rfl, by decide +kernel, by decide +kernel⟩
theorem ok_drawn_grid (T : Tx K mg) : Ok P w K mg base 2 (He.ga K "_law_drawn_grid") ["_law_s", "_law_tall", "_law_wide", "_law_most"] (spLGrid K) := by
  obtain ⟨fd, F⟩ := T.f__law_drawn_grid
  have O_law_summed := ok_summed (P := P) (w := w) (base := base) T
  have O_law_digit := ok_digit (P := P) (w := w) (base := base) T
  refine ⟨fd, F.ok (k := 1) sc_drawn_grid (fun vs H Q E h => ?_) (fun cdv A outer s_ H vs Q E hr h => ?_), F.bindsN fun _ _ _ _ _ _ us hl => match us, hl with | [_, _, _, _], _ => rfl, F.kp⟩
  · obtain ⟨s, m, k, x, rfl, hs, m1, m6, k1, k6, x0, x1, q⟩ := h
    rfl
  obtain ⟨s, m, k, x, rfl, hs, m1, m6, k1, k6, x0, x1, q⟩ := h
  have hu65 := K3.Room.units65 hr
  have hu64 := Nat.lt_of_succ_lt hu65
  have hu0 := Nat.lt_of_le_of_lt (Nat.le_add_right _ 65) hu65
  have hu1 := Nat.lt_of_le_of_lt (Nat.add_le_add_left (show 1 ≤ 65 by decide) _) hu65
  have r_law_summed : Room 1 _ := hr.mono (by decide)
  have r_law_digit : Room 1 _ := hr.mono (by decide)
  refine ⟨_, pss_one (ps_ret (pe_f O_law_summed r_law_summed T.g__law_summed (pa_cons (by exact pe_lc (own := [("_law_k", 4)]) (g := gName 4) (tt := tYes) (te := (tLc (iRng1 (tCons (tVar 2) tNil)) (gName 5) tYes (tOp (rI CMul fun i j => .int (i * j)) (tCall (spDigit K) [] E0 (tCons (tVar 0) (tCons (tVar 3) tNil))) (tCB (fun xs H Q => (∃ i, xs = [V.int i] ∧ Q (.int i) H) ∨ ∃ k, xs = [V.bl k] ∧ Q (.int (if k then 1 else 0)) H) (tCons (tOp (rI0 fun i j => .bl (decide (j < i))) (tCall (spDigit K) [] E0 (tCons (tVar 0) (tCons (tC (.int 5)) tNil))) (tC (.int 0))) tNil))) [5])) (by rfl) sc_drawn_grid.nd (pi_range1 rfl T.z_range (pa_cons (pv 1) pa_nil)) (blkOk_by (own := [("_law_k", 4)]) (N := ["_law_s", "_law_tall", "_law_wide", "_law_most", "_law_k", "_law_j"]) (sc := defScope s__law_drawn_grid) (by decide +kernel)) (fun _ _ _ _ _ => (pg_name (i := 4) sc_drawn_grid.nd rfl (Or.inl rfl))) (fun _ _ _ _ _ => pts_nil) (fun _ _ _ _ _ => (by exact pe_lc (own := [("_law_j", 5)]) (g := gName 5) (tt := tYes) (te := (tOp (rI CMul fun i j => .int (i * j)) (tCall (spDigit K) [] E0 (tCons (tVar 0) (tCons (tVar 3) tNil))) (tCB (fun xs H Q => (∃ i, xs = [V.int i] ∧ Q (.int i) H) ∨ ∃ k, xs = [V.bl k] ∧ Q (.int (if k then 1 else 0)) H) (tCons (tOp (rI0 fun i j => .bl (decide (j < i))) (tCall (spDigit K) [] E0 (tCons (tVar 0) (tCons (tC (.int 5)) tNil))) (tC (.int 0))) tNil)))) (by rfl) sc_drawn_grid.nd (pi_range1 rfl T.z_range (pa_cons (pv 2) pa_nil)) (blkOk_by (own := [("_law_j", 5)]) (N := ["_law_s", "_law_tall", "_law_wide", "_law_most", "_law_k", "_law_j"]) (sc := { kind := .function, names := [(".0", .local), ("_law_k", .local), ("range", .globalImplicit), ("_law_most", .cell), ("_law_s", .cell), ("_law_wide", .cell)], isGenerator := false, isCoroutine := false }) (by decide +kernel)) (fun _ _ _ _ _ => (pg_name (i := 5) sc_drawn_grid.nd rfl (Or.inl rfl))) (fun _ _ _ _ _ => pts_nil) (fun _ _ _ _ _ => (pe_op op_mul (pe_f O_law_digit r_law_digit T.g__law_digit (pa_cons (pv 0) (pa_cons (pv 3) pa_nil))) (pe_callTy call_int1 (by rfl) T.z_int (by decide +kernel) (pa_cons (pe_cmpR op_gt (pe_f O_law_digit r_law_digit T.g__law_digit (pa_cons (pv 0) (pa_cons pe_int pa_nil))) pe_int rfl) pa_nil))))))) pa_nil))), ?_⟩
  walk_at "go"
  refine lcAt_open (rng_open ?_)
  walk_at "go"
  refine ⟨_, rfl, by omega, by omega, fun D hD => ?_⟩
  rw [Int.toNat_natCast]
  have Ds : D ≠ s := src_ne hs.src hD
  refine lc_range (lo := 0) (n := m) (fun (i : Nat) H' => ∃ (rs : List Addr) (t : List (List Int)), BM [s] H H' ∧ Sd H' s ∧ H' D = some (.lst (rs.map V.ref)) ∧ Paired (RowAt H') rs t ∧ t.length = i ∧ (∀ r ∈ t, r.length = k ∧ ∀ y ∈ r, 0 ≤ y ∧ y < x) ∧ ∀ r ∈ rs, r ≠ s ∧ r ≠ D)
    ⟨[], [], BM.of (Same.new hD _), hs.upd Ds _, upd_same, .nil, rfl, fun r hr => (by cases hr), fun r hr => (by cases hr)⟩ ?_ ?_
  · rintro i H4 hi ⟨rs, t, b4, s4, hD4, hp4, ht4, hk4, hr4⟩
    walk_at "go"
    refine ⟨rfl, ?_⟩
    walk_at "go"
    refine lcAt_open (rng_open ?_)
    walk_at "go"
    refine ⟨_, rfl, by omega, by omega, fun D2 hD2 => ?_⟩
    rw [Int.toNat_natCast]
    have D2s : D2 ≠ s := src_ne s4.src hD2
    have D2D : D2 ≠ D := fun z => by rw [z, hD4] at hD2; cases hD2
    refine lc_range (lo := 0) (n := k) (fun (j : Nat) H' => ∃ row : List Int, BM [s] H4 H' ∧ Sd H' s ∧ H' D2 = some (.lst (row.map V.int)) ∧ row.length = j ∧ ∀ y ∈ row, 0 ≤ y ∧ y < x)
      ⟨[], BM.of (Same.new hD2 _), s4.upd D2s _, upd_same, rfl, fun y hy => (by cases hy)⟩ ?_ ?_
    · rintro j H5 hj ⟨row, b5, s5, hD25, lr5, hx5⟩
      walk_at "go"
      refine ⟨rfl, ?_⟩
      walk_at "go"
      refine ⟨s, x, rfl, s5, x0, x1, fun r H6 r1 b6 s6 => ?_⟩
      walk_at "go"
      refine ⟨s, 5, rfl, s6, by decide, by decide, fun r' H7 r1' b7 s7 => ?_⟩
      walk_at "go"
      refine .inr ⟨_, rfl, ?_⟩
      refine w_i (mul01 _ _) ?_
      have hD27 := b7.at (b6.at hD25 (by simpa using D2s)) (by simpa using D2s)
      have hy : ∀ z : Bool, 0 ≤ (r : Int) * (if z = true then 1 else 0) ∧ (r : Int) * (if z = true then 1 else 0) < x := fun z => by
        cases z
        · simpa using x0
        · simpa using r1
      generalize hz : decide ((r' : Int) > 0) = z at hy ⊢
      have hyz := hy z
      generalize (r : Int) * (if z = true then 1 else 0) = y at hyz ⊢
      refine ⟨_, hD27, Nat.lt_of_le_of_lt (show (row.map V.int).length ≤ 100 by rw [List.length_map]; omega) (by decide), row ++ [y], ((b5.trans b6).trans b7).mut hD2, s7.upd D2s _, by rw [upd_same, List.map_append]; rfl, by rw [List.length_append, lr5]; rfl, fun v hv => ?_⟩
      rcases List.mem_append.mp hv with hv | hv
      · exact hx5 v hv
      · rw [List.mem_singleton.mp hv]; exact hyz
    · rintro H5 ⟨row, b5, s5, hD25, lr5, hx5⟩
      have hD5 := b5.at hD4 (by simpa using Ds)
      have up : ∀ r row', RowAt H4 r row' → r ≠ s → r ≠ D → RowAt (upd H5 D (.lst (rs.map V.ref ++ [.ref D2]))) r row' := fun r row' z h1 h2 => by
        show upd H5 D _ r = _
        rw [upd_ne h2]
        exact b5.at z (by simpa using h1)
      refine ⟨_, hD5, Nat.lt_of_le_of_lt (show (rs.map V.ref).length ≤ 100 by rw [List.length_map, hp4.length]; omega) (by decide), rs ++ [D2], t ++ [row], (b4.trans b5).mut hD, s5.upd Ds _, by rw [upd_same, List.map_append]; rfl, K3.Paired.app (paired_up hp4 fun r row' hr z => up r row' z (hr4 r hr).1 (hr4 r hr).2) (.cons (by show upd H5 D _ D2 = _; rw [upd_ne D2D]; exact hD25) .nil), by rw [List.length_append, ht4]; rfl, fun r hr => ?_, fun r hr => ?_⟩
      · rcases List.mem_append.mp hr with hr | hr
        · exact hk4 r hr
        · rw [List.mem_singleton.mp hr]; exact ⟨lr5, hx5⟩
      · rcases List.mem_append.mp hr with hr | hr
        · exact hr4 r hr
        · rw [List.mem_singleton.mp hr]; exact ⟨D2s, D2D⟩
  · rintro H4 ⟨rs, t, b4, s4, hD4, hp4, ht4, hk4, hr4⟩
    refine ⟨D, rs, t, k, rfl, ⟨hD4, hp4⟩, fun r hr => (hk4 r hr).1, fun z => by rw [z] at ht4; simp at ht4; omega, by omega, by omega, fun p' H5 rs' e5 hnew htab => ?_⟩
    exact q p' H5 rs' t (b4.same e5) (s4.same e5) ⟨b4.free hnew.p0, fun r hr => b4.free (hnew.rs0 r hr), hnew.nd, hnew.ne⟩ htab ht4 hk4
end
end K3
end L4_part
section X3_part
set_option Elab.async false
set_option linter.all false
set_option maxRecDepth 100000
set_option maxHeartbeats 1000000
set_option pp.deepTerms.threshold 5
open PySem PySem.Spec PyProof.Rows L2
/-- go on as far as nothing is open -/
local macro_rules | `(tactic| walk_at "go") => `(tactic| repeat (first
  | with_reducible refine w_seq ?_ | with_reducible refine w_next ?_ | with_reducible refine w_set ?_ | with_reducible refine w_drop ?_ | with_reducible refine w_ret ?_ | with_reducible refine w_retN ?_
  | with_reducible refine w_if ?_ | ((with_reducible refine' w_var ?hv ?_); (case hv => exact rfl)) | with_reducible refine w_c ?_ | with_reducible refine w_nil ?_ | with_reducible refine w_cons ?_ | with_reducible refine w_op ?_ | with_reducible refine w_un ?_
  | with_reducible refine w_test ?_ | with_reducible refine w_tB ?_ | with_reducible refine w_not ?_ | with_reducible refine w_and ?_ | with_reducible refine w_or ?_ | with_reducible refine w_bl ?_
  | with_reducible refine w_andV ?_ | with_reducible refine w_orV ?_ | with_reducible refine w_notV ?_ | with_reducible refine w_ifE ?_ | with_reducible refine w_chain ?_ | with_reducible refine w_i0 ?_
  | with_reducible refine w_call ?_ | with_reducible refine w_callS ?_ | with_reducible refine w_cB ?_ | with_reducible refine w_tup ?_ | with_reducible refine w_lst ?_ | with_reducible refine w_fldV ?_
  | with_reducible refine w_neF ?_ | with_reducible refine w_neT ?_ | with_reducible refine w_notN ?_ | with_reducible refine w_isN ?_ | with_reducible refine w_gname ?_ | with_reducible refine w_gsub ?_ | with_reducible refine w_asg ?_ | with_reducible refine w_sl ?_ | with_reducible refine w_noP ?_ | with_reducible refine w_int1 ?_ | with_reducible refine w_part ?_ | with_reducible refine w_yes ?_ | with_reducible refine w_nT ?_ | with_reducible refine w_nF ?_ | with_reducible refine w_iteT ?_ | with_reducible refine w_iteF ?_))
namespace K3
open SLam LamX
theorem plain_cell (c : Nat × Nat) : (cellD c).plain = true ∧ (cellD c).depth ≤ 2 := by
  unfold cellD
  simp [PyData.plain, PyData.plainAll, PyData.depth, PyData.depthAll]
theorem plain_cells : ∀ hs : List (Nat × Nat), PyData.plainAll (hs.map cellD) = true ∧ PyData.depthAll (hs.map cellD) ≤ 2
  | [] => by simp [PyData.plainAll, PyData.depthAll]
  | c :: hs => by
    obtain ⟨a, b⟩ := plain_cells hs
    obtain ⟨c1, c2⟩ := plain_cell c
    simp only [List.map_cons, PyData.plainAll, PyData.depthAll]
    exact ⟨by rw [a, c1]; rfl, by omega⟩
theorem mem_drop {m n i j : Nat} (m1 : 1 ≤ m) (n1 : 1 ≤ n) (hi : i < m) (hj : j < n) (h : ¬ (i, j) = (m - 1, n - 1)) : (i, j) ∈ (cellsOf m n).dropLast := by
  obtain ⟨m, rfl⟩ : ∃ k, m = k + 1 := ⟨m - 1, by omega⟩
  obtain ⟨n, rfl⟩ : ∃ k, n = k + 1 := ⟨n - 1, by omega⟩
  rw [cells_last]
  by_cases z : i < m
  · exact List.mem_append_left _ (cells_mem.mpr ⟨z, hj⟩)
  · refine List.mem_append_right _ ?_
    have e : i = m := by omega
    subst e
    unfold rowCells
    simp only [List.mem_map, List.mem_range]
    refine ⟨j, ?_, rfl⟩
    by_cases y : j = n
    · subst y
      exact absurd rfl h
    · omega
theorem cells_shape (hs : List (Nat × Nat)) : SeqAt.shaped (.list (hs.map cellD)) = true ∧ PyData.eqv (.list (hs.map cellD)) (.list (hs.map cellD)) = true := by
  obtain ⟨b1, b2⟩ := lay_cells hs
  have c : (PyData.list (hs.map cellD)).canLay0 = true := by simpa only [PyData.canLay0] using b1
  have := (plain_cells hs).2
  refine ⟨?_, SeqAt.eqv_refl _ c⟩
  unfold SeqAt.shaped
  rw [c, decide_eq_true (by simp only [PyData.depth]; omega : (PyData.list (hs.map cellD)).depth ≤ 64)]
  rfl
theorem pair_shaped (i j : Int) : SeqAt.shaped (.tuple [.int i, .int j]) = true := by
  unfold SeqAt.shaped
  simp [PyData.canLay0, PyData.canLayAll0, PyData.depth, PyData.depthAll]
def pairD (c : Int × Int) : PyData := .tuple [.int c.1, .int c.2]
theorem CellI.dp {K : PySem.W.Frag} {H : Hp} {v : V} {c : Int × Int} (h : CellI H v c) : Dp K H v (pairD c) := by
  obtain ⟨a, rfl, h⟩ := h
  exact Dp.tup (SqT.of h) (.cons (.int _) (.cons (.int _) .nil))
theorem pairs_dp {K : PySem.W.Frag} {H : Hp} : ∀ {ws : List V} {hs : List (Int × Int)}, Paired (CellI H) ws hs → DpAll K H ws (hs.map pairD)
  | _, _, .nil => .nil
  | _, _, .cons h t => .cons h.dp (pairs_dp t)
theorem pair_eqv (a b : Int × Int) : PyData.eqv (pairD a) (pairD b) = decide (a = b) := by
  unfold pairD
  obtain ⟨a1, a2⟩ := a
  obtain ⟨b1, b2⟩ := b
  rw [Bool.eq_iff_iff]
  simp [PyData.eqv, PyData.eqvAll]
theorem lay_pairs : ∀ hs : List (Int × Int), PyData.canLayAll0 (hs.map pairD) = true ∧ PyData.depthAll (hs.map pairD) ≤ 2
  | [] => by simp [PyData.canLayAll0, PyData.depthAll]
  | c :: hs => by
    obtain ⟨a, b⟩ := lay_pairs hs
    simp only [List.map_cons, PyData.canLayAll0, PyData.depthAll, pairD, PyData.canLay0, PyData.depth]
    exact ⟨by rw [a]; rfl, by omega⟩
theorem pairs_shape (hs : List (Int × Int)) : SeqAt.shaped (.list (hs.map pairD)) = true := by
  obtain ⟨a, b⟩ := lay_pairs hs
  unfold SeqAt.shaped
  rw [show (PyData.list (hs.map pairD)).canLay0 = true by simpa only [PyData.canLay0] using a, decide_eq_true (by simp only [PyData.depth]; omega : (PyData.list (hs.map pairD)).depth ≤ 64)]
  rfl
theorem pairs_any (hs : List (Int × Int)) (c : Int × Int) : ((hs.map pairD).any fun z => PyData.eqv z (pairD c)) = decide (c ∈ hs) := by
  rw [Bool.eq_iff_iff, List.any_eq_true, decide_eq_true_iff]
  constructor
  · rintro ⟨z, hz, e⟩
    obtain ⟨x, hx, rfl⟩ := List.mem_map.mp hz
    rw [pair_eqv, decide_eq_true_iff] at e
    exact e ▸ hx
  · intro h
    exact ⟨_, List.mem_map.mpr ⟨c, h, rfl⟩, by rw [pair_eqv, decide_eq_true rfl]⟩
theorem cell_pair (k : Nat × Nat) : cellD k = pairD ((k.1 : Int), (k.2 : Int)) := rfl
theorem cells_any {m n : Nat} (m1 : 1 ≤ m) (n1 : 1 ≤ n) (c : Int × Int) : (((cellsOf m n).dropLast.map cellD).any fun z => PyData.eqv z (pairD c)) = !badC m n c := by
  rw [Bool.eq_iff_iff, List.any_eq_true]
  unfold badC
  constructor
  · rintro ⟨z, hz, e⟩
    obtain ⟨k, hk, rfl⟩ := List.mem_map.mp hz
    rw [cell_pair, pair_eqv, decide_eq_true_iff] at e
    obtain ⟨k1, k2, k3⟩ := drop_mem m1 n1 hk
    subst e
    have b : inB m n ((k.1 : Int), (k.2 : Int)) := ⟨by show (0 : Int) ≤ (k.1 : Int); omega, by show (k.1 : Int) < (m : Int); omega, by show (0 : Int) ≤ (k.2 : Int); omega, by show (k.2 : Int) < (n : Int); omega⟩
    have e2 : natC ((k.1 : Int), (k.2 : Int)) = k := by unfold natC; simp
    rw [decide_eq_true b, e2, decide_eq_false k3]
    rfl
  · intro h
    by_cases b : inB m n c
    · by_cases z : natC c = (m - 1, n - 1)
      · rw [decide_eq_true b, decide_eq_true z] at h
        cases h
      · obtain ⟨b1, b2, b3, b4⟩ := b
        refine ⟨cellD (natC c), List.mem_map.mpr ⟨natC c, ?_, rfl⟩, ?_⟩
        · have := mem_drop m1 n1 (i := (natC c).1) (j := (natC c).2) (by unfold natC; dsimp only; omega) (by unfold natC; dsimp only; omega) z
          exact this
        · rw [cell_pair, pair_eqv, decide_eq_true_iff]
          unfold natC
          exact Prod.ext (Int.toNat_of_nonneg b1) (Int.toNat_of_nonneg b3)
    · rw [decide_eq_false b] at h
      cases h
/-! ### what is due -/
def dueL : Option Rf → List V
  | none => [.str ("told" : Str)]
  | some r => r.l
def DueAt (H : Hp) (v : V) (o : Option Rf) : Prop := ∃ a, v = .ref a ∧ H a = some (.tup (dueL o))
theorem DueAt.same {H H' : Hp} (e : Same H H') {v : V} {o : Option Rf} (h : DueAt H v o) : DueAt H' v o := let ⟨a, h1, h2⟩ := h; ⟨a, h1, e _ _ h2⟩
theorem DueAt.ext {H H' : Hp} (e : ExtN H H') {v : V} {o : Option Rf} (h : DueAt H v o) : DueAt H' v o := let ⟨a, h1, h2⟩ := h; ⟨a, h1, e _ _ h2 fun ps z => by cases z⟩
def dueD : Option Rf → PyData
  | none => .tuple [.str ("told" : Str)]
  | some (.cell c) => .tuple [.str ("nocell" : Str), .int c.1, .int c.2]
  | some .fit => .tuple [.str ("nofit" : Str), .str ("cell" : Str)]
  | some (.count w x) => .tuple [.str ("badcount" : Str), .str w, .int x]
  | some (.uns _) => .tuple [.str ("told" : Str)]
theorem DueAt.dp {K : PySem.W.Frag} {H : Hp} {v : V} {o : Option Rf} (h : DueAt H v o) : Dp K H v (dueD o) := by
  obtain ⟨a, rfl, h⟩ := h
  match o, h with
  | none, h => exact Dp.tup (SqT.of h) (.cons (.str _) .nil)
  | some (.cell c), h => exact Dp.tup (SqT.of h) (.cons (.str _) (.cons (.int _) (.cons (.int _) .nil)))
  | some .fit, h => exact Dp.tup (SqT.of h) (.cons (.str _) (.cons (.str _) .nil))
  | some (.count w x), h => exact Dp.tup (SqT.of h) (.cons (.str _) (.cons (.str _) (.cons (.int _) .nil)))
  | some (.uns v), h => exact Dp.tup (SqT.of h) (.cons (.str _) .nil)
/-- few or width -/
def Rf.ok : Option Rf → Prop
  | some (.count w _) => w = ("few" : Str) ∨ w = ("width" : Str)
  | _ => True
theorem due_shape {o : Option Rf} (h : Rf.ok o) : SeqAt.shaped (dueD o) = true ∧ PyData.eqv (dueD o) (dueD o) = true := by
  have c : (dueD o).canLay0 = true ∧ (dueD o).depth ≤ 2 := by
    match o, h with
    | none, _ => exact ⟨by unfold dueD; simp only [PyData.canLay0, PyData.canLayAll0]; decide +kernel, by unfold dueD; simp [PyData.depth, PyData.depthAll]⟩
    | some (.cell c), _ => exact ⟨by unfold dueD; simp only [PyData.canLay0, PyData.canLayAll0]; decide +kernel, by unfold dueD; simp [PyData.depth, PyData.depthAll]⟩
    | some .fit, _ => exact ⟨by unfold dueD; simp only [PyData.canLay0, PyData.canLayAll0]; decide +kernel, by unfold dueD; simp [PyData.depth, PyData.depthAll]⟩
    | some (.count w x), h =>
      rcases h with rfl | rfl
      · exact ⟨by unfold dueD; simp only [PyData.canLay0, PyData.canLayAll0]; decide +kernel, by unfold dueD; simp [PyData.depth, PyData.depthAll]⟩
      · exact ⟨by unfold dueD; simp only [PyData.canLay0, PyData.canLayAll0]; decide +kernel, by unfold dueD; simp [PyData.depth, PyData.depthAll]⟩
    | some (.uns v), _ => exact ⟨by unfold dueD; simp only [PyData.canLay0, PyData.canLayAll0]; decide +kernel, by unfold dueD; simp [PyData.depth, PyData.depthAll]⟩
  refine ⟨?_, SeqAt.eqv_refl _ c.1⟩
  unfold SeqAt.shaped
  rw [c.1, decide_eq_true (by omega : (dueD o).depth ≤ 64)]
  rfl
def hidDue (m n : Nat) (hs : List (Int × Int)) : Option Rf := (hs.find? (badC m n)).map .cell
def cellDue (m n : Nat) (hs : List (Int × Int)) (c : Int × Int) : Option Rf := match hs.find? (badC m n) with
  | some b => some (.cell b)
  | none => if inB m n c then (if c ∈ hs then none else some .fit) else some (.cell c)
def spLHidDue (K : PySem.W.Frag) : Sp := fun vs H Q _ => ∃ (g : Addr) (hv : V) (rs : List Addr) (t : List (List Int)) (m n : Nat) (hs : List (Int × Int)), vs = [.ref g, hv] ∧ Tab H g rs t ∧ Rect t m n ∧ 1 ≤ m ∧ 1 ≤ n ∧ m ≤ 60 ∧ n ≤ 60 ∧ HidI H hv hs ∧ ∀ H' v, Same H H' → DueAt H' v (hidDue m n hs) → Q v H'
def spLCellDue (K : PySem.W.Frag) : Sp := fun vs H Q _ => ∃ (g : Addr) (hv pv : V) (rs : List Addr) (t : List (List Int)) (m n : Nat) (hs : List (Int × Int)) (c : Int × Int), vs = [.ref g, hv, pv] ∧ Tab H g rs t ∧ Rect t m n ∧ 1 ≤ m ∧ 1 ≤ n ∧ m ≤ 60 ∧ n ≤ 60 ∧ HidI H hv hs ∧ CellI H pv c ∧ ∀ H' v, Same H H' → DueAt H' v (cellDue m n hs c) → Q v H'
section
variable {P : Program} {w : World} {K : PySem.W.Frag} {mg : Str → Option Value} {base : Heap}
theorem sc_hidden_due : FnScope ["_law_grid", "_law_hidden_here", "_law_row", "_law_column"] ["_law_grid", "_law_hidden_here"] (defScope s__law_hidden_due) := ⟨rfl, rfl, rfl, by decide +kernel, rfl, by decide +kernel, by decide +kernel⟩
theorem ok_hidden_due (T : Tx K mg) : Ok P w K mg base 2 (He.ga K "_law_hidden_due") ["_law_grid", "_law_hidden_here"] (spLHidDue K) := by
  obtain ⟨fd, F⟩ := T.f__law_hidden_due
  have O_law_cells := ok_cells (P := P) (w := w) (base := base) T
  refine ⟨fd, F.ok (k := 1) sc_hidden_due (fun vs H Q E h => ?_) (fun cdv A outer s_ H vs Q E hr h => ?_), F.bindsN fun _ _ _ _ _ _ us hl => match us, hl with | [_, _], _ => rfl, F.kp⟩
  · obtain ⟨g, hv, rs, t, m, n, hs, rfl, ht, hR, m1, n1, m60, n60, ⟨p, ws, rfl, hp, hw, hlen⟩, q⟩ := h
    rfl
  obtain ⟨g, hv, rs, t, m, n, hs, rfl, ht, hR, m1, n1, m60, n60, ⟨p, ws, rfl, hp, hw, hlen⟩, q⟩ := h
  have hu65 := K3.Room.units65 hr
  have hu64 := Nat.lt_of_succ_lt hu65
  have hu0 := Nat.lt_of_le_of_lt (Nat.le_add_right _ 65) hu65
  have hu1 := Nat.lt_of_le_of_lt (Nat.add_le_add_left (show 1 ≤ 65 by decide) _) hu65
  have r_law_cells : Room 1 _ := hr.mono (by decide)
  refine ⟨_, pss_cons (ps_for (passes_of rfl) (by rfl) (pi_list (pv 1)) (pg_tup (by rfl) (pgs_cons (pg_name (i := 2) sc_hidden_due.nd rfl (Or.inl rfl)) (pgs_cons (pg_name (i := 3) sc_hidden_due.nd rfl (Or.inl rfl)) pgs_nil))) (pss_one (ps_if (pt_cmpR (op_notInD hu65) (pe_tup (pa_cons (pv 2) (pa_cons (pv 3) pa_nil))) (pe_f O_law_cells r_law_cells T.g__law_cells (pa_cons (pv 0) pa_nil)) (by rfl)) (pss_one (ps_ret (pe_tup (pa_cons pe_str (pa_cons (pv 2) (pa_cons (pv 3) pa_nil)))))) pss_nil)))
      (pss_one (ps_ret (pe_tup (pa_cons pe_str pa_nil)))), ?_⟩
  walk_at "go"
  refine list_open ?_
  walk_at "go"
  refine ⟨p, rfl, ⟨_, SqL.of hp⟩, ?_⟩
  refine for_list (xs := ws) (fun (i : Nat) σ H' => ∃ o2 o3 : Option V, σ = [some (.ref g), some (.ref p), o2, o3] ∧ Same H H' ∧ (hs.take i).find? (badC m n) = none) ⟨none, none, rfl, Same.refl _, rfl⟩ (fun i σ H' _ ⟨_, _, _, e, _⟩ => SqL.of (e _ _ hp)) ?_ ?_
  · rintro i v σ H1 hx ⟨o2, o3, rfl, e1, sf⟩
    obtain ⟨c, hc, hv⟩ := K3.Paired.get hw hx
    obtain ⟨next, bad⟩ := find_at sf hc
    obtain ⟨va, rfl, hva⟩ := hv.same e1
    refine w_gtup (SqT.of hva) rfl (w_gnn ?_)
    dsimp only
    walk_at "go"
    refine ⟨(by show 2 ≤ sizeLine; decide), fun b hb => ?_⟩
    have e2 := Same.new hb (.tup [V.int c.1, V.int c.2])
    have hb2 : CellI (upd H1 b (.tup [V.int c.1, V.int c.2])) (.ref b) c := ⟨b, rfl, upd_same⟩
    generalize upd H1 b (.tup [V.int c.1, V.int c.2]) = H2 at e2 hb2 ⊢
    walk_at "go"
    refine ⟨g, rs, t, m, n, rfl, (ht.same e1).same e2, hR, m1, m60, n60, fun p1 H3 w1 e3 _ h3 hw3 => ?_⟩
    have e13 := (e1.trans e2).trans e3
    refine ⟨pairD c, (cellsOf m n).dropLast.map cellD, (hb2.same e3).dp, Dp.lst (SqL.of h3) (cells_dp hw3), pair_shaped _ _, (cells_shape _).1, ?_⟩
    rw [cells_any m1 n1, Bool.not_not]
    cases hbad : badC m n c with
    | true =>
      walk_at "go"
      refine ⟨(by show 3 ≤ sizeLine; decide), fun a ha => ?_⟩
      refine q _ _ (e13.trans (Same.new ha _)) ⟨a, rfl, ?_⟩
      unfold hidDue
      rw [bad hbad]
      exact upd_same
    | false =>
      walk_at "go"
      exact ⟨_, _, rfl, e13, next hbad⟩
  · rintro σ H1 ⟨o2, o3, rfl, e1, sf⟩
    rw [hw.length, List.take_length] at sf
    walk_at "go"
    refine ⟨(by show 1 ≤ sizeLine; decide), fun a ha => ?_⟩
    refine q _ _ (e1.trans (Same.new ha _)) ⟨a, rfl, ?_⟩
    unfold hidDue
    rw [sf]
    exact upd_same
theorem sc_cell_due : FnScope ["_law_grid", "_law_hidden_here", "_law_place", "_law_due"] ["_law_grid", "_law_hidden_here", "_law_place"] (defScope s__law_cell_due) := ⟨rfl, rfl, rfl, by decide +kernel, rfl, by decide +kernel, by decide +kernel⟩
theorem ok_cell_due (T : Tx K mg) : Ok P w K mg base 3 (He.ga K "_law_cell_due") ["_law_grid", "_law_hidden_here", "_law_place"] (spLCellDue K) := by
  obtain ⟨fd, F⟩ := T.f__law_cell_due
  have O_law_hidden_due := ok_hidden_due (P := P) (w := w) (base := base) T
  refine ⟨fd, F.ok (k := 2) sc_cell_due (fun vs H Q E h => ?_) (fun cdv A outer s_ H vs Q E hr h => ?_), F.bindsN fun _ _ _ _ _ _ us hl => match us, hl with | [_, _, _], _ => rfl, F.kp⟩
  · obtain ⟨g, hv, pvv, rs, t, m, n, hs, c, rfl, ht, hR, m1, n1, m60, n60, hid, hc, q⟩ := h
    rfl
  obtain ⟨g, hv, pvv, rs, t, m, n, hs, c, rfl, ht, hR, m1, n1, m60, n60, hid, hc, q⟩ := h
  have hu65 := K3.Room.units65 hr
  have hu64 := Nat.lt_of_succ_lt hu65
  have hu0 := Nat.lt_of_le_of_lt (Nat.le_add_right _ 65) hu65
  have hu1 := Nat.lt_of_le_of_lt (Nat.add_le_add_left (show 1 ≤ 65 by decide) _) hu65
  have r_law_hidden_due : Room 2 _ := hr.mono (by decide)
  refine ⟨_, pss_cons (ps_set (i := 3) sc_cell_due.nd rfl (Or.inl rfl) (pe_f O_law_hidden_due r_law_hidden_due T.g__law_hidden_due (pa_cons (pv 0) (pa_cons (pv 1) pa_nil))))
      (pss_cons (ps_if (pt_cmpR (op_neD hu64) (pv 3) (pe_tup (pa_cons pe_str pa_nil)) (nomark _)) (pss_one (ps_ret (pv 3))) pss_nil)
      (pss_cons (ps_if (pw_or (pt_not (pt_chain op_le op_lt pe_int (pe_ix ix_tup (pv 2) pe_int (fun _ _ => rfl)) (pe_callB call_len_seq (by rfl) T.z_len PySem.boot_len (pa_cons (pv 0) pa_nil)))) (pw_or1 (pt_not (pt_chain op_le op_lt pe_int (pe_ix ix_tup (pv 2) pe_int (fun _ _ => rfl)) (pe_callB call_len_seq (by rfl) T.z_len PySem.boot_len (pa_cons (pe_ix ix_list (pv 0) pe_int (fun _ _ => rfl)) pa_nil)))))).pt (pss_one (ps_ret (pe_tup (pa_cons pe_str (pa_cons (pe_ix ix_tup (pv 2) pe_int (fun _ _ => rfl)) (pa_cons (pe_ix ix_tup (pv 2) pe_int (fun _ _ => rfl)) pa_nil)))))) pss_nil)
      (pss_cons (ps_if (pt_cmpR (op_notInD hu65) (pv 2) (pv 1) (by rfl)) (pss_one (ps_ret (pe_tup (pa_cons pe_str (pa_cons pe_str pa_nil))))) pss_nil)
      (pss_one (ps_ret (pv 3)))))), ?_⟩
  have lr := ht.rows.length
  have lt := hR.1
  obtain ⟨a0, r0, ha0, hr0, hx0⟩ := row_of ht (i := 0) (by omega)
  have hl0 := hR.2 r0 (List.mem_of_getElem? hr0)
  obtain ⟨p, ws, rfl, hp, hw, hlen⟩ := id hid
  obtain ⟨va, rfl, hva⟩ := id hc
  walk_at "go"
  refine ⟨g, .ref p, rs, t, m, n, hs, rfl, ht, hR, m1, n1, m60, n60, hid, fun H1 v e1 due => ?_⟩
  walk_at "go"
  refine ⟨(by show 1 ≤ sizeLine; decide), fun b hb => ?_⟩
  have e2 := Same.new hb (.tup [V.str ("told" : Str)])
  have hb2 : DueAt (upd H1 b (.tup [V.str ("told" : Str)])) (.ref b) none := ⟨b, rfl, upd_same⟩
  generalize upd H1 b (.tup [V.str ("told" : Str)]) = H2 at e2 hb2 ⊢
  have okd : Rf.ok (hidDue m n hs) := by
    unfold hidDue
    cases hs.find? (badC m n) <;> trivial
  refine ⟨_, _, (due.same e2).dp, hb2.dp, (due_shape okd).1, (due_shape (o := none) trivial).1, ?_⟩
  have e12 := e1.trans e2
  have due2 := due.same e2
  unfold cellDue at q
  unfold hidDue at due2 ⊢
  cases hf : hs.find? (badC m n) with
  | some x =>
    rw [hf] at due2
    rw [show PyData.eqv (dueD (Option.map Rf.cell (some x))) (dueD none) = false by unfold dueD; simp [PyData.eqv, PyData.eqvAll]]
    walk_at "go"
    have := q H2 v e12
    rw [hf] at this
    exact this due2
  | none =>
    rw [hf] at due2
    rw [show PyData.eqv (dueD (Option.map Rf.cell none)) (dueD none) = true from (due_shape (o := none) trivial).2]
    have q2 : ∀ H' v, Same H H' → DueAt H' v (if inB m n c then (if c ∈ hs then none else some .fit) else some (.cell c)) → Q v H' := fun H' v e d => by
      have := q H' v e
      rw [hf] at this
      exact this d
    have hva2 := e12 _ _ hva
    have bad : ∀ (b : ¬ inB m n c) (p : Addr), H2 p = none → Q (.ref p) (upd H2 p (.tup [V.str ("nocell" : Str), .int c.1, .int c.2])) := fun b p hp => by
      refine q2 _ _ (e12.trans (Same.new hp _)) ⟨p, rfl, ?_⟩
      rw [if_neg b]
      exact upd_same
    walk_at "go"
    refine w_ixT (SqT.of hva2) rfl ?_
    walk_at "go"
    by_cases z1 : 0 ≤ c.1
    case neg =>
      rw [decide_eq_false z1]
      walk_at "go"
      refine w_ixT (SqT.of hva2) rfl ?_
      walk_at "go"
      refine w_ixT (SqT.of hva2) rfl ?_
      exact ⟨(by show 3 ≤ sizeLine; decide), fun p hp => bad (fun z => z1 z.1) p hp⟩
    rw [decide_eq_true z1]
    walk_at "go"
    refine ⟨g, _, rfl, .inl (SqL.of (e12 _ _ ht.at_)), ?_⟩
    rw [List.length_map, lr, lt]
    walk_at "go"
    by_cases z2 : c.1 < (m : Int)
    case neg =>
      rw [decide_eq_false z2]
      walk_at "go"
      refine w_ixT (SqT.of hva2) rfl ?_
      walk_at "go"
      refine w_ixT (SqT.of hva2) rfl ?_
      exact ⟨(by show 3 ≤ sizeLine; decide), fun p hp => bad (fun z => z2 z.2.1) p hp⟩
    rw [decide_eq_true z2]
    walk_at "go"
    refine w_ixT (SqT.of hva2) rfl ?_
    walk_at "go"
    by_cases z3 : 0 ≤ c.2
    case neg =>
      rw [decide_eq_false z3]
      walk_at "go"
      refine w_ixT (SqT.of hva2) rfl ?_
      walk_at "go"
      refine w_ixT (SqT.of hva2) rfl ?_
      exact ⟨(by show 3 ≤ sizeLine; decide), fun p hp => bad (fun z => z3 z.2.2.1) p hp⟩
    rw [decide_eq_true z3]
    walk_at "go"
    refine w_ixL (e12 _ _ ht.at_) (ref_at ha0) ?_
    walk_at "go"
    refine ⟨a0, _, rfl, .inl (SqL.of (e12 _ _ hx0)), ?_⟩
    rw [List.length_map, hl0]
    walk_at "go"
    by_cases z4 : c.2 < (n : Int)
    case neg =>
      rw [decide_eq_false z4]
      walk_at "go"
      refine w_ixT (SqT.of hva2) rfl ?_
      walk_at "go"
      refine w_ixT (SqT.of hva2) rfl ?_
      exact ⟨(by show 3 ≤ sizeLine; decide), fun p hp => bad (fun z => z4 z.2.2.2) p hp⟩
    rw [decide_eq_true z4]
    walk_at "go"
    have b : inB m n c := ⟨z1, z2, z3, z4⟩
    rw [if_pos b] at q2
    refine ⟨pairD c, hs.map pairD, (hc.same e12).dp, Dp.lst (SqL.of (e12 _ _ hp)) (pairs_dp (L2.Paired.mapP hw fun _ _ z => z.same e12)), pair_shaped _ _, pairs_shape _, ?_⟩
    rw [pairs_any]
    by_cases z : c ∈ hs
    · rw [decide_eq_true z]
      walk_at "go"
      rw [if_pos z] at q2
      exact q2 _ _ e12 due2
    · rw [decide_eq_false z]
      walk_at "go"
      rw [if_neg z] at q2
      exact ⟨(by show 2 ≤ sizeLine; decide), fun p hp => q2 _ _ (e12.trans (Same.new hp _)) ⟨p, rfl, upd_same⟩⟩
end
end K3
end X3_part
section X4_part
set_option Elab.async false
set_option linter.all false
set_option maxRecDepth 100000
set_option maxHeartbeats 1000000
set_option pp.deepTerms.threshold 5
open PySem PySem.Spec PyProof.Rows L2
/-- go on as far as nothing is open -/
local macro_rules | `(tactic| walk_at "go") => `(tactic| repeat (first
  | with_reducible refine w_seq ?_ | with_reducible refine w_next ?_ | with_reducible refine w_set ?_ | with_reducible refine w_drop ?_ | with_reducible refine w_ret ?_ | with_reducible refine w_retN ?_
  | with_reducible refine w_if ?_ | ((with_reducible refine' w_var ?hv ?_); (case hv => exact rfl)) | with_reducible refine w_c ?_ | with_reducible refine w_nil ?_ | with_reducible refine w_cons ?_ | with_reducible refine w_op ?_ | with_reducible refine w_un ?_
  | with_reducible refine w_test ?_ | with_reducible refine w_tB ?_ | with_reducible refine w_not ?_ | with_reducible refine w_and ?_ | with_reducible refine w_or ?_ | with_reducible refine w_bl ?_
  | with_reducible refine w_andV ?_ | with_reducible refine w_orV ?_ | with_reducible refine w_notV ?_ | with_reducible refine w_ifE ?_ | with_reducible refine w_chain ?_ | with_reducible refine w_i0 ?_
  | with_reducible refine w_call ?_ | with_reducible refine w_callS ?_ | with_reducible refine w_cB ?_ | with_reducible refine w_tup ?_ | with_reducible refine w_lst ?_ | with_reducible refine w_fldV ?_
  | with_reducible refine w_neF ?_ | with_reducible refine w_neT ?_ | with_reducible refine w_notN ?_ | with_reducible refine w_isN ?_ | with_reducible refine w_gname ?_ | with_reducible refine w_gsub ?_ | with_reducible refine w_asg ?_ | with_reducible refine w_sl ?_ | with_reducible refine w_noP ?_ | with_reducible refine w_int1 ?_ | with_reducible refine w_part ?_ | with_reducible refine w_yes ?_ | with_reducible refine w_nT ?_ | with_reducible refine w_nF ?_ | with_reducible refine w_iteT ?_ | with_reducible refine w_iteF ?_))
namespace K3
open SLam LamX
theorem eqvAll_rows : ∀ a b : List (List Int), PyData.eqvAll (a.map fun r => .list (r.map PyData.int)) (b.map fun r => .list (r.map PyData.int)) = decide (a = b)
  | [], [] => rfl
  | [], _ :: _ => rfl
  | _ :: _, [] => rfl
  | x :: a, y :: b => by
    simp only [List.map_cons, PyData.eqvAll, PyData.eqv, eqvAll_rows a b, eqvAll_ints]
    by_cases h : x = y
    · subst h
      simp
    · simp [h]
theorem tab_eqv (a b : List (List Int)) : PyData.eqv (tabD a) (tabD b) = decide (a = b) := by
  unfold tabD
  rw [PyData.eqv]
  exact eqvAll_rows a b
theorem tab_shaped (t : List (List Int)) : SeqAt.shaped (tabD t) = true ∧ (tabD t).canLay0 = true ∧ (tabD t).depth ≤ 3 := by
  obtain ⟨a, b⟩ := lay_rows t
  have c : (tabD t).canLay0 = true := by unfold tabD; simpa only [PyData.canLay0] using a
  have d : (tabD t).depth ≤ 3 := by unfold tabD; simp only [PyData.depth]; omega
  refine ⟨?_, c, d⟩
  unfold SeqAt.shaped
  rw [c, decide_eq_true (by omega : (tabD t).depth ≤ 64)]
  rfl
def TupR (H : Hp) (v : V) (r : List Int) : Prop := ∃ a, v = .ref a ∧ H a = some (.tup (r.map V.int))
theorem TupR.tk {H H' : Hp} (e : Tk H H') {v : V} {r : List Int} (h : TupR H v r) : TupR H' v r := let ⟨a, h1, h2⟩ := h; ⟨a, h1, e _ _ h2⟩
theorem tup_rows {H : Hp} : ∀ {zs : List V} {t : List (List Int)}, Paired (TupR H) zs t → ∃ rs : List Addr, zs = rs.map V.ref ∧ Paired (fun a (r : List Int) => H a = some (.tup (r.map V.int))) rs t
  | _, _, .nil => ⟨[], rfl, .nil⟩
  | _, _, .cons ⟨a, e, h⟩ t => by
    obtain ⟨rs, e2, h2⟩ := tup_rows t
    exact ⟨a :: rs, by rw [e, e2]; rfl, .cons h h2⟩
theorem w_g3 {i j k : Nat} {v1 v2 v3 : V} {σ : L2.St} {H : Hp} {Q : L2.St → Hp → Prop} (h : Q (((σ.set i (some v1)).set j (some v2)).set k (some v3)) H) : gCons (gName i) (gCons (gName j) (gCons (gName k) gNil)) [v1, v2, v3] σ H Q := ⟨_, _, rfl, _, _, rfl, _, _, rfl, rfl, h⟩
/-- a table of one's own, all new since B -/
structure Own (B H : Hp) (p : Addr) (rs : List Addr) (t : List (List Int)) (m n : Nat) : Prop where
  tab : Tab H p rs t
  rect : Rect t m n
  nd : rs.Nodup
  ne : p ∉ rs
  p0 : B p = none
  fr : ∀ r ∈ rs, B r = none
  same : Same B H
theorem Own.put {B H : Hp} {p : Addr} {rs : List Addr} {t : List (List Int)} {m n : Nat} (h : Own B H p rs t m n) {i j : Nat} {a : Addr} {r : List Int} (ha : rs[i]? = some a) (hr : t[i]? = some r) (x : Int) :
    Own B (L2.upd H a (.lst ((r.set j x).map V.int))) p rs (t.set i (r.set j x)) m n := by
  have am : a ∈ rs := List.mem_of_getElem? ha
  have ap : a ≠ p := fun z => h.ne (by rw [← z]; exact am)
  refine ⟨⟨by rw [upd_ne ap.symm]; exact h.tab.at_, ?_⟩, ⟨by rw [List.length_set]; exact h.rect.1, ?_⟩, h.nd, h.ne, h.p0, h.fr, h.same.mut (h.fr a am)⟩
  · refine paired_set h.tab.rows ha upd_same fun k b row ne hb z => ?_
    show upd H a _ b = _
    rw [upd_ne (fun e => ne (nodup_at h.nd (by rw [e] at hb; exact hb) ha))]
    exact z
  · intro row hrow
    rcases List.mem_or_eq_of_mem_set hrow with z | z
    · exact h.rect.2 row z
    · rw [z, List.length_set]
      exact h.rect.2 r (List.mem_of_getElem? hr)
theorem Own.add {B H : Hp} {p : Addr} {rs : List Addr} {t : List (List Int)} {m n : Nat} (h : Own B H p rs t m n) {c : Nat × Nat} {a : Addr} {r : List Int} (ha : rs[c.1]? = some a) (hr : t[c.1]? = some r) (x : Int) :
    Own B (L2.upd H a (.lst ((r.map V.int).set c.2 (.int (r.getD c.2 0 + x))))) p rs (addAt t c x) m n := by
  have := h.put ha hr (j := c.2) (r.getD c.2 0 + x)
  have e : addAt t c x = t.set c.1 (r.set c.2 (r.getD c.2 0 + x)) := by
    unfold addAt
    rw [List.getD_eq_getElem?_getD, hr, at2_of hr]
    rfl
  rw [e, show (r.map V.int).set c.2 (V.int (r.getD c.2 0 + x)) = (r.set c.2 (r.getD c.2 0 + x)).map V.int by rw [List.map_set]]
  exact this
/-- a table that does not fit, whatever is hidden -/
def BadT (t : List (List Int)) (m n : Nat) (H : Hp) (v : V) : Prop := ∃ q qs u m' n', v = .ref q ∧ Tab H q qs u ∧ Rect u m' n' ∧ 1 ≤ m' ∧ 1 ≤ n' ∧ m' ≤ 60 ∧ n' ≤ 60 ∧ ∀ hs, ¬ Fit t hs u m n
theorem BadT.same {t : List (List Int)} {m n : Nat} {H H' : Hp} (e : Same H H') {v : V} (h : BadT t m n H v) : BadT t m n H' v := let ⟨q, qs, u, m', n', h1, h2, h3⟩ := h; ⟨q, qs, u, m', n', h1, h2.same e, h3⟩
theorem off_fit {t u : List (List Int)} {m n m' n' : Nat} (hu : Rect u m' n') (m1 : 1 ≤ m') (h : ¬ (m' = m ∧ n' = n)) (hs : List (Nat × Nat)) : ¬ Fit t hs u m n := fun f => by
  obtain ⟨r1, r2⟩ := f.1
  obtain ⟨s1, s2⟩ := hu
  have ne : u ≠ [] := fun z => by rw [z] at s1; simp at s1; omega
  obtain ⟨r, u', rfl⟩ : ∃ r u', u = r :: u' := by
    cases u with
    | nil => exact absurd rfl ne
    | cons r u' => exact ⟨r, u', rfl⟩
  exact h ⟨s1.symm.trans r1, (s2 r (List.mem_cons_self ..)).symm.trans (r2 r (List.mem_cons_self ..))⟩
theorem neg_fit {t u : List (List Int)} {m n : Nat} (m1 : 1 ≤ m) (n1 : 1 ≤ n) (h : at2 u 0 0 < 0) (hs : List (Nat × Nat)) : ¬ Fit t hs u m n := fun f => by
  have := (fit_grid m1 n1 f).nn 0 (by omega) 0 (by omega)
  omega
theorem more_fit {t : List (List Int)} {m n : Nat} (g : Grid t m n) (m2 : 2 ≤ m) (n2 : 2 ≤ n) (hs : List (Nat × Nat)) : ¬ Fit t hs (addAt t (0, 0) 1) m n := fun f => by
  have gu := fit_grid (by omega) (by omega) f
  have a1 : arcF m n (0, 0) = ((true, 0), (false, 0)) := by
    unfold arcF
    have d1 : decide ((0 : Nat) = m - 1) = false := decide_eq_false (by omega)
    have d2 : decide ((0 : Nat) = n - 1) = false := decide_eq_false (by omega)
    simp [d1, d2]
  have ip : inPl m n (true, 0) := by unfold inPl; simp; omega
  have e := net_addAt g.rect (c := (0, 0)) (by show 0 < m; omega) (by show 0 < n; omega) 1 ip
  rw [gu.bal _ ip, g.bal _ ip, a1] at e
  unfold chi at e
  simp at e
def moveF (t : List (List Int)) (ps : List ((Nat × Nat) × Int)) : List (List Int) := ps.foldl (fun u p => addAt u p.1 (p.2 * 1000000000)) t
theorem move_rect {t : List (List Int)} {m n : Nat} (h : Rect t m n) : ∀ ps : List ((Nat × Nat) × Int), Rect (moveF t ps) m n := by
  intro ps
  unfold moveF
  induction ps generalizing t with
  | nil => exact h
  | cons c cs ih => exact ih (addAt_len h)
def PosT (m n : Nat) (H : Hp) (v : V) (q : (Nat × Nat) × Int) : Prop := ∃ a x y, v = .ref a ∧ H a = some (.tup [.int x, .int y, .int q.2]) ∧ (x = (q.1.1 : Int) ∨ x = -1 ∧ q.1.1 + 1 = m) ∧ (y = (q.1.2 : Int) ∨ y = -1 ∧ q.1.2 + 1 = n) ∧ q.1.1 < m ∧ q.1.2 < n
theorem PosT.same {m n : Nat} {H H' : Hp} (e : Same H H') {v : V} {q : (Nat × Nat) × Int} (h : PosT m n H v q) : PosT m n H' v q := let ⟨a, x, y, h1, h2, h3⟩ := h; ⟨a, x, y, h1, e _ _ h2, h3⟩
theorem move_neg {t : List (List Int)} {m n : Nat} (h : Rect t m n) (m1 : 1 ≤ m) (n1 : 1 ≤ n) (small : at2 t 0 0 < 1000) {ps : List ((Nat × Nat) × Int)} (inb : ∀ p ∈ ps, p.1.1 < m ∧ p.1.2 < n ∧ p.1 ≠ (0, 0)) : at2 (moveF t (((0, 0), -1) :: ps)) 0 0 < 0 := by
  have key : ∀ (ps : List ((Nat × Nat) × Int)) (u : List (List Int)), Rect u m n → (∀ p ∈ ps, p.1.1 < m ∧ p.1.2 < n ∧ p.1 ≠ (0, 0)) → at2 (moveF u ps) 0 0 = at2 u 0 0 := by
    intro ps
    induction ps with
    | nil => intro u _ _; rfl
    | cons p ps ih =>
      intro u hu hb
      obtain ⟨b1, b2, b3⟩ := hb p (List.mem_cons_self ..)
      show at2 (moveF (addAt u p.1 (p.2 * 1000000000)) ps) 0 0 = _
      rw [ih _ (addAt_len hu) fun q hq => hb q (List.mem_cons_of_mem _ hq), at2_add hu b1 b2 _ (by omega) (by omega), if_neg (fun z => b3 z.symm), Int.add_zero]
  show at2 (moveF (addAt t (0, 0) (-1 * 1000000000)) ps) 0 0 < 0
  rw [key ps _ (addAt_len h) inb, at2_add h (by show 0 < m; omega) (by show 0 < n; omega) _ (by omega) (by omega), if_pos rfl]
  omega
end K3
end X4_part
section X5_part
set_option Elab.async false
set_option linter.all false
set_option maxRecDepth 100000
set_option maxHeartbeats 1000000
set_option pp.deepTerms.threshold 5
open PySem PySem.Spec PyProof.Rows L2
/-- go on as far as nothing is open -/
local macro_rules | `(tactic| walk_at "go") => `(tactic| repeat (first
  | with_reducible refine w_seq ?_ | with_reducible refine w_next ?_ | with_reducible refine w_set ?_ | with_reducible refine w_drop ?_ | with_reducible refine w_ret ?_ | with_reducible refine w_retN ?_
  | with_reducible refine w_if ?_ | ((with_reducible refine' w_var ?hv ?_); (case hv => exact rfl)) | with_reducible refine w_c ?_ | with_reducible refine w_nil ?_ | with_reducible refine w_cons ?_ | with_reducible refine w_op ?_ | with_reducible refine w_un ?_
  | with_reducible refine w_test ?_ | with_reducible refine w_tB ?_ | with_reducible refine w_not ?_ | with_reducible refine w_and ?_ | with_reducible refine w_or ?_ | with_reducible refine w_bl ?_
  | with_reducible refine w_andV ?_ | with_reducible refine w_orV ?_ | with_reducible refine w_notV ?_ | with_reducible refine w_ifE ?_ | with_reducible refine w_chain ?_ | with_reducible refine w_i0 ?_
  | with_reducible refine w_call ?_ | with_reducible refine w_callS ?_ | with_reducible refine w_cB ?_ | with_reducible refine w_tup ?_ | with_reducible refine w_lst ?_ | with_reducible refine w_fldV ?_
  | with_reducible refine w_neF ?_ | with_reducible refine w_neT ?_ | with_reducible refine w_notN ?_ | with_reducible refine w_isN ?_ | with_reducible refine w_gname ?_ | with_reducible refine w_gsub ?_ | with_reducible refine w_asg ?_ | with_reducible refine w_sl ?_ | with_reducible refine w_noP ?_ | with_reducible refine w_int1 ?_ | with_reducible refine w_part ?_ | with_reducible refine w_yes ?_ | with_reducible refine w_nT ?_ | with_reducible refine w_nF ?_ | with_reducible refine w_iteT ?_ | with_reducible refine w_iteF ?_))
namespace K3
theorem ixN_any {N q : Nat} {x : Int} (h : x = (q : Int) ∨ x = -1 ∧ q + 1 = N) (hq : q < N) : ixN N x = some q := by
  unfold ixN
  rcases h with rfl | ⟨rfl, e⟩
  · rw [if_pos (by omega), if_pos (by omega)]
    simp
  · rw [if_neg (by omega), if_pos (by omega)]
    congr 1
    omega
theorem atI_any {α : Type} {xs : List α} {q : Nat} {x : Int} {v : α} (h : x = (q : Int) ∨ x = -1 ∧ q + 1 = xs.length) (hv : xs[q]? = some v) : atI xs x = some v := by
  unfold atI
  rw [ixN_any h (List.getElem?_eq_some_iff.mp hv).1]
  exact hv
theorem hid_same {K : PySem.W.Frag} {H H' : Hp} {v : V} {hs : List (Nat × Nat)} {m n : Nat} (h : HidIn K H v hs m n) (e : Same H H') : HidIn K H' v hs m n := by
  obtain ⟨p, ws, h1, h2, h3, h4⟩ := h
  exact ⟨p, ws, h1, h2.imp (fun z => e.seq z) (fun z => e.sqt z), L2.Paired.mapP h3 fun _ _ z => CellAt.same e z, h4⟩
theorem own_fit {t : List (List Int)} {m n : Nat} (g : Grid t m n) (hs : List (Nat × Nat)) : Fit t hs t m n := ⟨g.rect, (nn_iff g.rect).mpr g.nn, (right_net g.rect g.m1 g.n1).mpr g.bal, fun _ _ _ _ _ => rfl⟩
def spLFitsR (K : PySem.W.Frag) : Sp := fun vs H Q _ => ∃ (g : Addr) (hv : V) (rs : List Addr) (t : List (List Int)) (m n : Nat) (hs : List (Nat × Nat)), vs = [.ref g, hv] ∧ Tab H g rs t ∧ Grid t m n ∧ 2 ≤ m ∧ m ≤ 4 ∧ 2 ≤ n ∧ n ≤ 4 ∧ at2 t 0 0 < 1000 ∧ HidIn K H hv hs m n ∧ ∀ H', Same H H' → Q (.bl true) H'
section
variable {P : Program} {w : World} {K : PySem.W.Frag} {mg : Str → Option Value} {base : Heap}
set_option maxHeartbeats 0
theorem sc_fits_right : FnScope ["_law_grid", "_law_hidden_here", "_law_some", "_law_less", "_law_below", "_law_everything", "_law_turned", "_law_k", "_law_j", "_law_sign", "_law_table", "_law_row"] ["_law_grid", "_law_hidden_here"] (defScope s__law_fits_right) := ⟨rfl, rfl, rfl, by decide +kernel, rfl, by decide +kernel, by decide +kernel⟩
theorem ok_fits_right (T : Tx K mg) : Ok P w K mg base 4 (He.ga K "_law_fits_right") ["_law_grid", "_law_hidden_here"] (spLFitsR K) := by
  obtain ⟨fd, F⟩ := T.f__law_fits_right
  have Ofits := ok_fits (P := P) (w := w) (base := base) T
  have O_law_cells := ok_cells (P := P) (w := w) (base := base) T
  refine ⟨fd, F.ok (k := 3) sc_fits_right (fun vs H Q E h => ?_) (fun cdv A outer s_ H vs Q E hr h => ?_), F.bindsN fun _ _ _ _ _ _ us hl => match us, hl with | [_, _], _ => rfl, F.kp⟩
  · obtain ⟨g, hv, rs, t, m, n, hs, rfl, ht, gt, m2, m4, n2, n4, small, hid, ok⟩ := h
    rfl
  obtain ⟨g, hv, rs, t, m, n, hs, rfl, ht, gt, m2, m4, n2, n4, small, hid, ok⟩ := h
  have hu65 := K3.Room.units65 hr
  have hu64 := Nat.lt_of_succ_lt hu65
  have hu0 := Nat.lt_of_le_of_lt (Nat.le_add_right _ 65) hu65
  have hu1 := Nat.lt_of_le_of_lt (Nat.add_le_add_left (show 1 ≤ 65 by decide) _) hu65
  have rfits : Room 3 _ := hr.mono (by decide)
  have r_law_cells : Room 1 _ := hr.mono (by decide)
  refine ⟨_, pss_cons (ps_set (i := 2) sc_fits_right.nd rfl (Or.inl rfl) (pe_lst (pa_cons (pe_slice sl_list (pv 0) po_none (po_some (pe_un un_neg pe_int))) (pa_cons (by exact pe_lc (own := [("_law_row", 11)]) (g := gName 11) (tt := tYes) (te := (tSl (rSlL K) (tVar 11) tNoPart (tPart (tUn (rU fun i => .int (-i)) (tC (.int 1)))))) (by rfl) sc_fits_right.nd (pi_list (pv 0)) (blkOk_by (own := [("_law_row", 11)]) (N := ["_law_grid", "_law_hidden_here", "_law_some", "_law_less", "_law_below", "_law_everything", "_law_turned", "_law_k", "_law_j", "_law_sign", "_law_table", "_law_row"]) (sc := defScope s__law_fits_right) (by decide +kernel)) (fun _ _ _ _ _ => (pg_name (i := 11) sc_fits_right.nd rfl (Or.inl rfl))) (fun _ _ _ _ _ => pts_nil) (fun _ _ _ _ _ => (pe_slice sl_list (pv 11) po_none (po_some (pe_un un_neg pe_int))))) (pa_cons (pe_op op_cat (pv 0) (pe_lst (pa_cons (pe_ix ix_list (pv 0) (pe_un un_neg pe_int) (fun _ _ => rfl)) pa_nil))) (pa_cons (by exact pe_lc (own := [("_law_row", 11)]) (g := gName 11) (tt := tYes) (te := (tOp rCat (tVar 11) (tLst (tCons (tC (.int 0)) tNil)))) (by rfl) sc_fits_right.nd (pi_list (pv 0)) (blkOk_by (own := [("_law_row", 11)]) (N := ["_law_grid", "_law_hidden_here", "_law_some", "_law_less", "_law_below", "_law_everything", "_law_turned", "_law_k", "_law_j", "_law_sign", "_law_table", "_law_row"]) (sc := defScope s__law_fits_right) (by decide +kernel)) (fun _ _ _ _ _ => (pg_name (i := 11) sc_fits_right.nd rfl (Or.inl rfl))) (fun _ _ _ _ _ => pts_nil) (fun _ _ _ _ _ => (pe_op op_cat (pv 11) (pe_lst (pa_cons pe_int pa_nil))))) (pa_cons (pe_lst pa_nil) pa_nil)))))))
      (pss_cons (by exact ps_setLc (i := 3) (own := [("_law_row", 11)]) (g := gName 11) (tt := tYes) (te := (tCB (fun xs H Q => ∃ p ys, xs = [V.ref p] ∧ (SqL K H p ys ∨ SqT K H p ys) ∧ ∀ l, H l = none → Q (.ref l) (upd H l (.lst ys))) (tCons (tVar 11) tNil))) (by rfl) sc_fits_right.nd rfl rfl (by rfl) (pi_list (pv 0)) (blkOk_by (own := [("_law_row", 11)]) (N := ["_law_grid", "_law_hidden_here", "_law_some", "_law_less", "_law_below", "_law_everything", "_law_turned", "_law_k", "_law_j", "_law_sign", "_law_table", "_law_row"]) (sc := defScope s__law_fits_right) (by decide +kernel)) (fun _ _ _ _ _ => (pg_name (i := 11) sc_fits_right.nd rfl (Or.inl rfl))) (fun _ _ _ _ _ => pts_nil) (fun _ _ _ _ _ => (pe_callTy call_list_of (by rfl) T.z_list (by decide +kernel) (pa_cons (pv 11) pa_nil))))
      (pss_cons (ps_asg (pe_op op_add (pe_ix ix_list (pe_ix ix_list (pv 3) pe_int (fun _ _ => rfl)) pe_int (fun _ _ => rfl)) pe_int) (pg_sub (pe_ix ix_list (pv 3) pe_int (fun _ _ => rfl)) pe_int set_list))
      (pss_cons (by exact ps_setLc (i := 4) (own := [("_law_row", 11)]) (g := gName 11) (tt := tYes) (te := (tCB (fun xs H Q => ∃ p ys, xs = [V.ref p] ∧ (SqL K H p ys ∨ SqT K H p ys) ∧ ∀ l, H l = none → Q (.ref l) (upd H l (.lst ys))) (tCons (tVar 11) tNil))) (by rfl) sc_fits_right.nd rfl rfl (by rfl) (pi_list (pv 0)) (blkOk_by (own := [("_law_row", 11)]) (N := ["_law_grid", "_law_hidden_here", "_law_some", "_law_less", "_law_below", "_law_everything", "_law_turned", "_law_k", "_law_j", "_law_sign", "_law_table", "_law_row"]) (sc := defScope s__law_fits_right) (by decide +kernel)) (fun _ _ _ _ _ => (pg_name (i := 11) sc_fits_right.nd rfl (Or.inl rfl))) (fun _ _ _ _ _ => pts_nil) (fun _ _ _ _ _ => (pe_callTy call_list_of (by rfl) T.z_list (by decide +kernel) (pa_cons (pv 11) pa_nil))))
      (pss_cons (ps_asg (pe_op op_sub (pe_ix ix_list (pe_ix ix_list (pv 4) pe_int (fun _ _ => rfl)) pe_int (fun _ _ => rfl)) (pe_op op_pow pe_int pe_int)) (pg_sub (pe_ix ix_list (pv 4) pe_int (fun _ _ => rfl)) pe_int set_list))
      (pss_cons (ps_asg (pe_op op_sub (pe_ix ix_list (pe_ix ix_list (pv 4) pe_int (fun _ _ => rfl)) (pe_un un_neg pe_int) (fun _ _ => rfl)) (pe_op op_pow pe_int pe_int)) (pg_sub (pe_ix ix_list (pv 4) pe_int (fun _ _ => rfl)) (pe_un un_neg pe_int) set_list))
      (pss_cons (ps_set (i := 5) sc_fits_right.nd rfl (Or.inl rfl) (pe_f O_law_cells r_law_cells T.g__law_cells (pa_cons (pv 0) pa_nil)))
      (pss_cons (by exact ps_setLc (i := 6) (own := [("_law_row", 11)]) (g := gName 11) (tt := tYes) (te := (tCB (fun xs H Q => ∃ p ys, xs = [V.ref p] ∧ (SqL K H p ys ∨ SqT K H p ys) ∧ ∀ l, H l = none → Q (.ref l) (upd H l (.lst ys))) (tCons (tVar 11) tNil))) (by rfl) sc_fits_right.nd rfl rfl (by rfl) (pi_list (pv 0)) (blkOk_by (own := [("_law_row", 11)]) (N := ["_law_grid", "_law_hidden_here", "_law_some", "_law_less", "_law_below", "_law_everything", "_law_turned", "_law_k", "_law_j", "_law_sign", "_law_table", "_law_row"]) (sc := defScope s__law_fits_right) (by decide +kernel)) (fun _ _ _ _ _ => (pg_name (i := 11) sc_fits_right.nd rfl (Or.inl rfl))) (fun _ _ _ _ _ => pts_nil) (fun _ _ _ _ _ => (pe_callTy call_list_of (by rfl) T.z_list (by decide +kernel) (pa_cons (pv 11) pa_nil))))
      (Evl.pss_cut (ps_if (pt_cmpR op_gt (pe_callB call_len_seq (by rfl) T.z_len PySem.boot_len (pa_cons (pe_ix ix_list (pv 0) pe_int (fun _ _ => rfl)) pa_nil)) pe_int (nomark _)) (pss_one (ps_for (passes_of rfl) (by rfl) (pi_list (pe_lst (pa_cons (pe_tup (pa_cons pe_int (pa_cons pe_int (pa_cons (pe_un un_neg pe_int) pa_nil)))) (pa_cons (pe_tup (pa_cons (pe_un un_neg pe_int) (pa_cons pe_int (pa_cons (pe_un un_neg pe_int) pa_nil)))) (pa_cons (pe_tup (pa_cons pe_int (pa_cons pe_int (pa_cons pe_int pa_nil)))) (pa_cons (pe_tup (pa_cons (pe_un un_neg pe_int) (pa_cons pe_int (pa_cons pe_int pa_nil)))) pa_nil)))))) (pg_tup (by rfl) (pgs_cons (pg_name (i := 7) sc_fits_right.nd rfl (Or.inl rfl)) (pgs_cons (pg_name (i := 8) sc_fits_right.nd rfl (Or.inl rfl)) (pgs_cons (pg_name (i := 9) sc_fits_right.nd rfl (Or.inl rfl)) pgs_nil)))) (pss_one (ps_asg (pe_op op_add (pe_ix ix_list (pe_ix ix_list (pv 6) (pv 7) (fun _ _ => rfl)) (pv 8) (fun _ _ => rfl)) (pe_op op_mul (pv 9) (pe_op op_pow pe_int pe_int))) (pg_sub (pe_ix ix_list (pv 6) (pv 7) (fun _ _ => rfl)) (pv 8) set_list))))) (pss_one (ps_if (pt_cmpR op_gt (pe_callB call_len_seq (by rfl) T.z_len PySem.boot_len (pa_cons (pv 0) pa_nil)) pe_int (nomark _)) (pss_one (ps_for (passes_of rfl) (by rfl) (pi_list (pe_lst (pa_cons (pe_tup (pa_cons pe_int (pa_cons pe_int (pa_cons (pe_un un_neg pe_int) pa_nil)))) (pa_cons (pe_tup (pa_cons pe_int (pa_cons (pe_un un_neg pe_int) (pa_cons (pe_un un_neg pe_int) pa_nil)))) (pa_cons (pe_tup (pa_cons pe_int (pa_cons pe_int (pa_cons pe_int pa_nil)))) (pa_cons (pe_tup (pa_cons pe_int (pa_cons (pe_un un_neg pe_int) (pa_cons pe_int pa_nil)))) pa_nil)))))) (pg_tup (by rfl) (pgs_cons (pg_name (i := 7) sc_fits_right.nd rfl (Or.inl rfl)) (pgs_cons (pg_name (i := 8) sc_fits_right.nd rfl (Or.inl rfl)) (pgs_cons (pg_name (i := 9) sc_fits_right.nd rfl (Or.inl rfl)) pgs_nil)))) (pss_one (ps_asg (pe_op op_add (pe_ix ix_list (pe_ix ix_list (pv 6) (pv 7) (fun _ _ => rfl)) (pv 8) (fun _ _ => rfl)) (pe_op op_mul (pv 9) (pe_op op_pow pe_int pe_int))) (pg_sub (pe_ix ix_list (pv 6) (pv 7) (fun _ _ => rfl)) (pv 8) set_list))))) pss_nil)))
      (Evl.pss_cut (ps_if (pw_and (pt_cmpR (op_neD hu64) (pv 6) (pv 0) (nomark _)) (pw_and1 (pt_val (pe_f Ofits rfits T.g_fits (pa_cons (pv 0) (pa_cons (pv 5) (pa_cons (pv 6) pa_nil))))))).pt (pss_one (ps_ret pe_bl)) pss_nil)
      (pss_cons (ps_for (passes_of rfl) (by rfl) (pi_list (pe_op op_cat (pe_slice sl_list (pv 2) po_none (po_some pe_int)) (pe_lst (pa_cons (pv 3) (pa_cons (pv 4) pa_nil))))) (pg_name (i := 10) sc_fits_right.nd rfl (Or.inl rfl)) (pss_one (ps_if (pw_or (pt_val (pe_f Ofits rfits T.g_fits (pa_cons (pv 0) (pa_cons (pv 1) (pa_cons (pv 10) pa_nil))))) (pw_or1 (pt_val (pe_f Ofits rfits T.g_fits (pa_cons (pv 0) (pa_cons (pv 5) (pa_cons (pv 10) pa_nil))))))).pt (pss_one (ps_ret pe_bl)) pss_nil)))
      (pss_one (ps_ret (pe_and (pe_f Ofits rfits T.g_fits (pa_cons (pv 0) (pa_cons (pv 1) (pa_cons (pv 0) pa_nil)))) (pe_one (pe_f Ofits rfits T.g_fits (pa_cons (pv 0) (pa_cons (pv 5) (pa_cons (pe_callTy call_tuple_of (by rfl) T.z_tuple (by decide +kernel) (pa_cons (by exact pe_lc (own := [("_law_row", 11)]) (g := gName 11) (tt := tYes) (te := (tCB (fun xs H Q => ∃ p ys, xs = [V.ref p] ∧ ((SqL K H p ys ∧ ∀ l, H l = none → Q (.ref l) (upd H l (.tup ys))) ∨ (SqT K H p ys ∧ Q (.ref p) H))) (tCons (tVar 11) tNil))) (by rfl) sc_fits_right.nd (pi_list (pv 0)) (blkOk_by (own := [("_law_row", 11)]) (N := ["_law_grid", "_law_hidden_here", "_law_some", "_law_less", "_law_below", "_law_everything", "_law_turned", "_law_k", "_law_j", "_law_sign", "_law_table", "_law_row"]) (sc := defScope s__law_fits_right) (by decide +kernel)) (fun _ _ _ _ _ => (pg_name (i := 11) sc_fits_right.nd rfl (Or.inl rfl))) (fun _ _ _ _ _ => pts_nil) (fun _ _ _ _ _ => (pe_callTy call_tuple_of (by rfl) T.z_tuple (by decide +kernel) (pa_cons (pv 11) pa_nil)))) pa_nil)) pa_nil)))))))))))))))))), ?_⟩
  have hR := gt.rect
  have m1 := gt.m1
  have n1 := gt.n1
  have m60 : m ≤ 60 := by omega
  have n60 : n ≤ 60 := by omega
  have lr := ht.rows.length
  have lt := hR.1
  have lt0 : t.length ≤ 10000 := by omega
  have lrs : (rs.map V.ref).length ≤ 10 := by rw [List.length_map]; omega
  have ne : t ≠ [] := fun z => by rw [z] at lt; simp at lt; omega
  obtain ⟨al, rl, hal1, hal2, hal3, hal4⟩ := last_row ht.rows ne
  have dlen : t.dropLast.length = m - 1 := by rw [List.length_dropLast, lt]
  -- tables that are none
  walk_at "go"
  refine ⟨_, rfl, ?_⟩
  walk_at "go"
  refine ⟨g, _, rfl, SqL.of ht.at_, fun p1 hp1 => ?_⟩
  rw [cut_last]
  have e1 := Same.new hp1 (.lst (rs.map V.ref).dropLast)
  have tA : BadT t m n (upd H p1 (.lst (rs.map V.ref).dropLast)) (.ref p1) := by
    refine ⟨p1, rs.dropLast, t.dropLast, m - 1, n, rfl, ⟨by rw [upd_same, List.map_dropLast], paired_drop (ht.same e1).rows⟩, ⟨dlen, fun r hr => hR.2 r (List.dropLast_subset _ hr)⟩, by omega, n1, by omega, n60, off_fit (n' := n) ⟨dlen, fun r hr => hR.2 r (List.dropLast_subset _ hr)⟩ (by omega) fun z => by omega⟩
  generalize upd H p1 (.lst (rs.map V.ref).dropLast) = H1 at e1 tA ⊢
  have ht1 := ht.same e1
  walk_at "go"
  refine lcAt_open (list_open ?_)
  walk_at "go"
  refine ⟨g, rfl, ⟨_, SqL.of ht1.at_⟩, fun DB hDB => ?_⟩
  refine rows_new (fun r => r.dropLast) ht1 lt0 hDB (fun x => rfl) ?_ ?_
  · intro b r H' e' hr hb Q' q'
    walk_at "go"
    refine ⟨_, rfl, ?_⟩
    walk_at "go"
    refine ⟨b, _, rfl, SqL.of hb, fun pz hpz => ?_⟩
    rw [cut_last, ← List.map_dropLast]
    exact q' pz _ hpz (Same.new hpz _) upd_same
  intro H2 csB e2 tabB _ _
  have rB : Rect (t.map fun r => r.dropLast) m (n - 1) := ⟨by rw [List.length_map]; exact lt, fun r hr => by
    obtain ⟨r', hr', rfl⟩ := List.mem_map.mp hr
    rw [List.length_dropLast, hR.2 r' hr']⟩
  have tB : BadT t m n H2 (.ref DB) := ⟨DB, csB, _, m, n - 1, rfl, tabB, rB, m1, by omega, m60, by omega, off_fit rB m1 fun z => by omega⟩
  have ht2 := ht1.same e2
  walk_at "go"
  refine ⟨_, rfl, ?_⟩
  walk_at "go"
  refine w_ixL ht2.at_ hal4 ?_
  walk_at "go"
  refine ⟨(by show 1 ≤ sizeLine; decide), fun p2 hp2 => ?_⟩
  have e3 := Same.new hp2 (.lst [V.ref al])
  have ht3 := ht2.same e3
  refine ⟨g, p2, _, _, rfl, rfl, ht3.at_, upd_same, Nat.le_trans (show _ ≤ 2000 by simp only [List.length_cons, List.length_nil]; omega) (by decide), fun p3 hp3 => ?_⟩
  have e4 := Same.new hp3 (.lst (rs.map V.ref ++ [V.ref al]))
  have rC : Rect (t ++ [rl]) (m + 1) n := ⟨by rw [List.length_append, lt]; rfl, fun r hr => by
    rcases List.mem_append.mp hr with hr | hr
    · exact hR.2 r hr
    · rw [List.mem_singleton.mp hr]
      exact hR.2 rl (by rw [hal2]; simp)⟩
  have tC : BadT t m n (upd (upd H2 p2 (.lst [V.ref al])) p3 (.lst (rs.map V.ref ++ [V.ref al]))) (.ref p3) := by
    refine ⟨p3, rs ++ [al], t ++ [rl], m + 1, n, rfl, ⟨by rw [upd_same, List.map_append]; rfl, K3.Paired.app (ht3.same e4).rows (.cons (((e1.trans e2).trans e3).trans e4 _ _ hal3) .nil)⟩, rC, by omega, n1, by omega, n60, off_fit rC (by omega) fun z => by omega⟩
  have e34 := e3.trans e4
  generalize upd (upd H2 p2 (.lst [V.ref al])) p3 (.lst (rs.map V.ref ++ [V.ref al])) = H4 at e34 tC ⊢
  have ht4 := ht2.same e34
  clear e3 e4 ht3 hp2 hp3
  walk_at "go"
  refine lcAt_open (list_open ?_)
  walk_at "go"
  refine ⟨g, rfl, ⟨_, SqL.of ht4.at_⟩, fun DD hDD => ?_⟩
  refine rows_new (fun r => r ++ [0]) ht4 lt0 hDD (fun x => rfl) ?_ ?_
  · intro b r H' e' hr hb Q' q'
    walk_at "go"
    refine ⟨(by show 1 ≤ sizeLine; decide), fun l1 hl1 => ?_⟩
    have f1 := Same.new hl1 (.lst [V.int 0])
    have lr' := hR.2 r hr
    refine ⟨b, l1, _, _, rfl, rfl, f1 _ _ hb, upd_same, Nat.le_trans (show _ ≤ 2000 by simp only [List.length_cons, List.length_nil, List.length_map]; omega) (by decide), fun l2 hl2 => ?_⟩
    refine q' l2 _ (f1.free hl2) (f1.trans (Same.new hl2 _)) ?_
    unfold RowAt
    rw [upd_same, List.map_append]
    rfl
  intro H5 csD e5 tabD _ _
  have rD : Rect (t.map fun r => r ++ [0]) m (n + 1) := ⟨by rw [List.length_map]; exact lt, fun r hr => by
    obtain ⟨r', hr', rfl⟩ := List.mem_map.mp hr
    rw [List.length_append, hR.2 r' hr']
    rfl⟩
  have tD : BadT t m n H5 (.ref DD) := ⟨DD, csD, _, m, n + 1, rfl, tabD, rD, m1, by omega, m60, by omega, off_fit rD m1 fun z => by omega⟩
  walk_at "go"
  refine ⟨Nat.zero_le _, fun p5 hp5 => ?_⟩
  have e6 := Same.new hp5 (.lst [])
  walk_at "go"
  refine ⟨(by show 5 ≤ sizeLine; decide), fun ps hps => ?_⟩
  have e7 := Same.new hps (.lst [V.ref p1, .ref DB, .ref p3, .ref DD, .ref p5])
  have hsome : (upd (upd H5 p5 (.lst [])) ps (.lst [V.ref p1, .ref DB, .ref p3, .ref DD, .ref p5])) ps = some (.lst [V.ref p1, .ref DB, .ref p3, .ref DD, .ref p5]) := upd_same
  have e57 := e6.trans e7
  generalize upd (upd H5 p5 (.lst [])) ps (.lst [V.ref p1, .ref DB, .ref p3, .ref DD, .ref p5]) = H7 at e57 hsome ⊢
  have e27 := (e34.trans e5).trans e57
  have bads : ∀ x ∈ [V.ref p1, .ref DB, .ref p3, .ref DD], BadT t m n H7 x := fun x hx => by
    simp only [List.mem_cons, List.not_mem_nil, or_false] at hx
    rcases hx with rfl | rfl | rfl | rfl
    · exact (tA.same e2).same e27
    · exact tB.same e27
    · exact (tC.same e5).same e57
    · exact tD.same e57
  have e07 := (e1.trans e2).trans e27
  have ht7 := ht.same e07
  clear tA tB tC tD tabB tabD rB rC rD e1 e2 e34 e5 e6 e7 e57 e27 ht1 ht2 ht4 hp1 hDB hDD hp5 hps hal1 hal2 hal3 hal4
  -- a number too great
  walk_at "go"
  refine lcAt_open (list_open ?_)
  walk_at "go"
  refine ⟨g, rfl, ⟨_, SqL.of ht7.at_⟩, fun D7 hD7 => ?_⟩
  refine rows_new (fun r => r) ht7 lt0 hD7 (fun x => rfl) ?_ ?_
  · intro b r H' e' hr hb Q' q'
    walk_at "go"
    refine ⟨b, _, rfl, .inl (SqL.of hb), fun l1 hl1 => ?_⟩
    exact q' l1 _ hl1 (Same.new hl1 _) upd_same
  intro H8 cs7 e8 tab7 nd7 fr7
  rw [List.map_id'] at tab7
  have oL : Own H7 H8 D7 cs7 t m n := ⟨tab7, hR, nd7, fun z => (fr7 D7 z).2 rfl, hD7, fun r hr => (fr7 r hr).1, e8⟩
  obtain ⟨aL, rL, haL, hrL, hxL⟩ := row_of oL.tab (i := 0) (by omega)
  have lL := hR.2 rL (List.mem_of_getElem? hrL)
  walk_at "go"
  refine w_ixL oL.tab.at_ (ref_at haL) ?_
  walk_at "go"
  refine w_ixL hxL (at_getD (c := 0) (by omega)) ?_
  walk_at "go"
  refine w_ixL oL.tab.at_ (ref_at haL) ?_
  walk_at "go"
  refine w_setL hxL (ixN_any (q := 0) (.inl rfl) (by rw [List.length_map]; omega)) ?_
  have oL2 := oL.add (c := (0, 0)) haL hrL 1
  have bL : ∀ hs, ¬ Fit t hs (addAt t (0, 0) 1) m n := more_fit gt m2 n2
  generalize upd H8 aL (.lst ((rL.map V.int).set (0, 0).2 (.int (rL.getD (0, 0).2 0 + 1)))) = H9 at oL2 ⊢
  have tL : BadT t m n H9 (.ref D7) := ⟨D7, cs7, _, m, n, rfl, oL2.tab, oL2.rect, m1, n1, m60, n60, bL⟩
  have e79 := oL2.same
  have ht9 := ht7.same e79
  have e09 := e07.trans e79
  clear oL oL2 tab7 nd7 fr7 e8 hD7 haL hrL hxL lL bL
  -- numbers below nothing
  walk_at "go"
  refine lcAt_open (list_open ?_)
  walk_at "go"
  refine ⟨g, rfl, ⟨_, SqL.of ht9.at_⟩, fun D9 hD9 => ?_⟩
  refine rows_new (fun r => r) ht9 lt0 hD9 (fun x => rfl) ?_ ?_
  · intro b r H' e' hr hb Q' q'
    walk_at "go"
    refine ⟨b, _, rfl, .inl (SqL.of hb), fun l1 hl1 => ?_⟩
    exact q' l1 _ hl1 (Same.new hl1 _) upd_same
  intro H10 cs9 e10 tab9 nd9 fr9
  rw [List.map_id'] at tab9
  have oB : Own H9 H10 D9 cs9 t m n := ⟨tab9, hR, nd9, fun z => (fr9 D9 z).2 rfl, hD9, fun r hr => (fr9 r hr).1, e10⟩
  obtain ⟨aB, rB, haB, hrB, hxB⟩ := row_of oB.tab (i := 0) (by omega)
  have lB := hR.2 rB (List.mem_of_getElem? hrB)
  walk_at "go"
  refine w_ixL oB.tab.at_ (ref_at haB) ?_
  walk_at "go"
  refine w_ixL hxB (at_getD (c := 0) (by omega)) ?_
  walk_at "go"
  refine w_i (by refine ⟨?_, ?_, ?_⟩ <;> decide) ?_
  walk_at "go"
  refine w_ixL oB.tab.at_ (ref_at haB) ?_
  walk_at "go"
  refine w_setL hxB (ixN_any (q := 0) (.inl rfl) (by rw [List.length_map]; omega)) ?_
  have oB2 := oB.add (c := (0, 0)) haB hrB (-(10 ^ 9))
  rw [show rB.getD 0 0 - 10 ^ (9 : Int).toNat = rB.getD 0 0 + -(10 ^ 9) by rfl]
  generalize upd H10 aB (.lst ((rB.map V.int).set (0, 0).2 (.int (rB.getD (0, 0).2 0 + -(10 ^ 9))))) = H11 at oB2 ⊢
  obtain ⟨aC, rC, haC, hrC, hxC⟩ := row_of oB2.tab (i := 0) (by have := oB2.rect.1; omega)
  have lC := oB2.rect.2 rC (List.mem_of_getElem? hrC)
  have rv : atI (rC.map V.int) (-1) = some (.int (rC.getD (n - 1) 0)) := by
    have := at_getD (r := rC) (c := n - 1) (by omega)
    unfold atI at this ⊢
    rw [ixN_any (.inl rfl) (by rw [List.length_map]; omega)] at this
    rw [ixN_any (q := n - 1) (.inr ⟨rfl, by rw [List.length_map]; omega⟩) (by rw [List.length_map]; omega)]
    exact this
  walk_at "go"
  refine w_ixL oB2.tab.at_ (ref_at haC) ?_
  walk_at "go"
  refine ⟨_, rfl, ?_⟩
  walk_at "go"
  refine w_ixL hxC rv ?_
  walk_at "go"
  refine w_i (by refine ⟨?_, ?_, ?_⟩ <;> decide) ?_
  walk_at "go"
  refine w_ixL oB2.tab.at_ (ref_at haC) ?_
  walk_at "go"
  refine ⟨_, rfl, ?_⟩
  walk_at "go"
  refine w_setL hxC (ixN_any (q := n - 1) (.inr ⟨rfl, by rw [List.length_map]; omega⟩) (by rw [List.length_map]; omega)) ?_
  have oB3 := oB2.add (c := (0, n - 1)) haC hrC (-(10 ^ 9))
  rw [show rC.getD (n - 1) 0 - 10 ^ (9 : Int).toNat = rC.getD (n - 1) 0 + -(10 ^ 9) by rfl]
  generalize upd H11 aC (.lst ((rC.map V.int).set (0, n - 1).2 (.int (rC.getD (0, n - 1).2 0 + -(10 ^ 9))))) = H12 at oB3 ⊢
  have bB : ∀ hs, ¬ Fit t hs (addAt (addAt t (0, 0) (-(10 ^ 9))) (0, n - 1) (-(10 ^ 9))) m n := by
    refine neg_fit m1 n1 ?_
    rw [at2_add (addAt_len hR) (by show 0 < m; omega) (by show n - 1 < n; omega) _ (by omega) (by omega), at2_add hR (by show 0 < m; omega) (by show 0 < n; omega) _ (by omega) (by omega), if_pos rfl, if_neg (fun z => by have : (0 : Nat) = n - 1 := congrArg Prod.snd z; omega)]
    omega
  have tBl : BadT t m n H12 (.ref D9) := ⟨D9, cs9, _, m, n, rfl, oB3.tab, oB3.rect, m1, n1, m60, n60, bB⟩
  have e912 := oB3.same
  have ht12 := ht9.same e912
  have e012 := e09.trans e912
  clear oB oB2 oB3 tab9 nd9 fr9 e10 hD9 haB hrB hxB lB bB haC hrC hxC lC rv
  walk_at "go"
  refine ⟨g, rs, t, m, n, rfl, ht12, hR, m1, m60, n60, fun pe H13 we e13 pe0 hpe hwe => ?_⟩
  have ht13 := ht12.same e13
  walk_at "go"
  refine lcAt_open (list_open ?_)
  walk_at "go"
  refine ⟨g, rfl, ⟨_, SqL.of ht13.at_⟩, fun D13 hD13 => ?_⟩
  refine rows_new (fun r => r) ht13 lt0 hD13 (fun x => rfl) ?_ ?_
  · intro b r H' e' hr hb Q' q'
    walk_at "go"
    refine ⟨b, _, rfl, .inl (SqL.of hb), fun l1 hl1 => ?_⟩
    exact q' l1 _ hl1 (Same.new hl1 _) upd_same
  intro H14 cs13 e14 tab13 nd13 fr13
  rw [List.map_id'] at tab13
  have oT : Own H13 H14 D13 cs13 t m n := ⟨tab13, hR, nd13, fun z => (fr13 D13 z).2 rfl, hD13, fun r hr => (fr13 r hr).1, e14⟩
  have e013 := e012.trans e13
  have hid13 := hid_same hid e013
  have hsome13 := ((e79.trans e912).trans e13) _ _ hsome
  have bads13 : ∀ x ∈ [V.ref p1, .ref DB, .ref p3, .ref DD, .ref D7, .ref D9], BadT t m n H13 x := fun x hx => by
    simp only [List.mem_cons, List.not_mem_nil, or_false] at hx bads
    rcases hx with h | h | h | h | rfl | rfl
    · exact (bads x (.inl h)).same ((e79.trans e912).trans e13)
    · exact (bads x (.inr (.inl h))).same ((e79.trans e912).trans e13)
    · exact (bads x (.inr (.inr (.inl h)))).same ((e79.trans e912).trans e13)
    · exact (bads x (.inr (.inr (.inr h)))).same ((e79.trans e912).trans e13)
    · exact tL.same (e912.trans e13)
    · exact tBl.same e13
  clear bads tL tBl e79 e912 ht7 ht9 ht12 e07 e09 e012 hsome tab13 nd13 fr13 hD13 e14 e13 pe0
  obtain ⟨a0, r0, ha0, hr0, hx0⟩ := row_of ht13 (i := 0) (by omega)
  have hl0 := hR.2 r0 (List.mem_of_getElem? hr0)
  have pend : ∀ (H15 : Hp), Same H14 H15 → Own H13 H15 D13 cs13 t m n := fun H15 e => ⟨oT.tab.same e, hR, oT.nd, oT.ne, oT.p0, oT.fr, oT.same.trans e⟩
  walk_at "go"
  refine Evl.q_cut (M := fun σ' H' => ∃ (o7 o8 o9 : Option V) (u : List (List Int)), σ' = [some (.ref g), some hv, some (.ref ps), some (.ref D7), some (.ref D9), some (.ref pe), some (.ref D13), o7, o8, o9, none, none] ∧ Own H13 H' D13 cs13 u m n ∧ (u = t ∨ ∀ hs, ¬ Fit t hs u m n)) ?_ ?_
  · walk_at "go"
    refine w_ixL (oT.same _ _ ht13.at_) (ref_at ha0) ?_
    walk_at "go"
    refine ⟨a0, _, rfl, .inl (SqL.of (oT.same _ _ hx0)), ?_⟩
    rw [List.length_map, hl0]
    walk_at "go"
    by_cases z : (2 : Int) < (n : Int)
    · rw [decide_eq_true z]
      walk_at "go"
      refine list_open ?_
      walk_at "go"
      refine ⟨_, rfl, ?_⟩
      walk_at "go"
      refine ⟨(by show 3 ≤ sizeLine; decide), fun q1 hq1 => ?_⟩
      have f1 := Same.new hq1 (.tup [V.int 0, V.int 0, V.int (-1)])
      have g1 : (upd H14 q1 (.tup [V.int 0, V.int 0, V.int (-1)])) q1 = some (.tup [V.int 0, V.int 0, V.int (-1)]) := upd_same
      generalize upd H14 q1 (.tup [V.int 0, V.int 0, V.int (-1)]) = G1 at f1 g1 ⊢
      walk_at "go"
      refine ⟨_, rfl, ?_⟩
      walk_at "go"
      refine ⟨_, rfl, ?_⟩
      walk_at "go"
      refine ⟨(by show 3 ≤ sizeLine; decide), fun q2 hq2 => ?_⟩
      have f2 := Same.new hq2 (.tup [V.int (-1), V.int 0, V.int (-1)])
      have g2 : (upd G1 q2 (.tup [V.int (-1), V.int 0, V.int (-1)])) q2 = some (.tup [V.int (-1), V.int 0, V.int (-1)]) := upd_same
      generalize upd G1 q2 (.tup [V.int (-1), V.int 0, V.int (-1)]) = G2 at f2 g2 ⊢
      walk_at "go"
      refine ⟨(by show 3 ≤ sizeLine; decide), fun q3 hq3 => ?_⟩
      have f3 := Same.new hq3 (.tup [V.int 0, V.int 1, V.int 1])
      have g3 : (upd G2 q3 (.tup [V.int 0, V.int 1, V.int 1])) q3 = some (.tup [V.int 0, V.int 1, V.int 1]) := upd_same
      generalize upd G2 q3 (.tup [V.int 0, V.int 1, V.int 1]) = G3 at f3 g3 ⊢
      walk_at "go"
      refine ⟨_, rfl, ?_⟩
      walk_at "go"
      refine ⟨(by show 3 ≤ sizeLine; decide), fun q4 hq4 => ?_⟩
      have f4 := Same.new hq4 (.tup [V.int (-1), V.int 1, V.int 1])
      have g4 : (upd G3 q4 (.tup [V.int (-1), V.int 1, V.int 1])) q4 = some (.tup [V.int (-1), V.int 1, V.int 1]) := upd_same
      generalize upd G3 q4 (.tup [V.int (-1), V.int 1, V.int 1]) = G4 at f4 g4 ⊢
      walk_at "go"
      refine ⟨(by show 4 ≤ sizeLine; decide), fun pl hpl => ?_⟩
      have f5 := Same.new hpl (.lst [V.ref q1, .ref q2, .ref q3, .ref q4])
      have h7 : (upd G4 pl (.lst [V.ref q1, .ref q2, .ref q3, .ref q4])) pl = some (.lst [V.ref q1, .ref q2, .ref q3, .ref q4]) := upd_same
      have f14 := f1.trans (f2.trans (f3.trans f4))
      have plr : ∀ r ∈ cs13, pl ≠ r := fun r hr zz => by
        obtain ⟨row, hrow⟩ := paired_has (oT.tab.same f14).rows hr
        have hrow : G4 r = some _ := hrow
        rw [← zz, hpl] at hrow
        cases hrow
      have e15 := f14.trans f5
      generalize upd G4 pl (.lst [V.ref q1, .ref q2, .ref q3, .ref q4]) = H15 at f5 h7 e15 ⊢
      have items : Paired (PosT m n H15) [V.ref q1, .ref q2, .ref q3, .ref q4] ([((0, 0), -1), ((m - 1, 0), -1), ((0, 1), 1), ((m - 1, 1), 1)] : List ((Nat × Nat) × Int)) := .cons ⟨q1, _, _, rfl, (f2.trans (f3.trans (f4.trans f5))) _ _ g1, .inl rfl, .inl rfl, by show 0 < m; omega, by show 0 < n; omega⟩ (.cons ⟨q2, _, _, rfl, (f3.trans (f4.trans f5)) _ _ g2, .inr ⟨rfl, by show m - 1 + 1 = m; omega⟩, .inl rfl, by show m - 1 < m; omega, by show 0 < n; omega⟩ (.cons ⟨q3, _, _, rfl, (f4.trans f5) _ _ g3, .inl rfl, .inl rfl, by show 0 < m; omega, by show 1 < n; omega⟩ (.cons ⟨q4, _, _, rfl, (f5) _ _ g4, .inr ⟨rfl, by show m - 1 + 1 = m; omega⟩, .inl rfl, by show m - 1 < m; omega, by show 1 < n; omega⟩ .nil)))
      have inb : ∀ p ∈ ([((m - 1, 0), -1), ((0, 1), 1), ((m - 1, 1), 1)] : List ((Nat × Nat) × Int)), p.1.1 < m ∧ p.1.2 < n ∧ p.1 ≠ (0, 0) := fun p hp => by
        simp only [List.mem_cons, List.not_mem_nil, or_false] at hp
        rcases hp with rfl | rfl | rfl
        · exact ⟨by show m - 1 < m; omega, by show 0 < n; omega, fun zz => by have h1 : m - 1 = 0 := congrArg Prod.fst zz; have h2 : 0 = 0 := congrArg Prod.snd zz; omega⟩
        · exact ⟨by show 0 < m; omega, by show 1 < n; omega, fun zz => by have h1 : 0 = 0 := congrArg Prod.fst zz; have h2 : 1 = 0 := congrArg Prod.snd zz; omega⟩
        · exact ⟨by show m - 1 < m; omega, by show 1 < n; omega, fun zz => by have h1 : m - 1 = 0 := congrArg Prod.fst zz; have h2 : 1 = 0 := congrArg Prod.snd zz; omega⟩
      have bU : ∀ hs, ¬ Fit t hs (moveF t [((0, 0), -1), ((m - 1, 0), -1), ((0, 1), 1), ((m - 1, 1), 1)]) m n := neg_fit m1 n1 (move_neg hR m1 n1 small inb)
      have oT5 := pend H15 e15
      clear f1 f2 f3 f4 g1 g2 g3 g4 f14 f5 hpl hq1 hq2 hq3 hq4 inb
      generalize ([((0, 0), -1), ((m - 1, 0), -1), ((0, 1), 1), ((m - 1, 1), 1)] : List ((Nat × Nat) × Int)) = posl at items bU
      have l4 : posl.length = 4 := items.length.symm
      generalize [V.ref q1, .ref q2, .ref q3, .ref q4] = xs at h7 items ⊢
      refine ⟨pl, rfl, ⟨_, SqL.of h7⟩, ?_⟩
      refine for_list (xs := xs) (fun (i : Nat) σ H' => ∃ (o7 o8 o9 : Option V), σ = [some (.ref g), some hv, some (.ref ps), some (.ref D7), some (.ref D9), some (.ref pe), some (.ref D13), o7, o8, o9, none, none] ∧ Own H13 H' D13 cs13 (moveF t (posl.take i)) m n ∧ Tk H15 H' ∧ H' pl = some (.lst xs))
        ⟨none, none, none, rfl, oT5, Tk.refl _, h7⟩ (fun i σ H' _ ⟨_, _, _, _, _, _, hp⟩ => SqL.of hp) ?_ ?_
      · rintro i x σ H' hx ⟨o7, o8, o9, rfl, o, tk, hp⟩
        obtain ⟨q, hq, ⟨aq, x1, y1, rfl, haq, hx1, hy1, c1, c2⟩⟩ := K3.Paired.get items hx
        have mo : moveF t (posl.take (i + 1)) = addAt (moveF t (posl.take i)) q.1 (q.2 * 1000000000) := by
          rw [List.take_add_one, hq]
          unfold moveF
          rw [List.foldl_append]
          rfl
        rw [mo]
        generalize moveF t (posl.take i) = u at o ⊢
        obtain ⟨ar, r, har, hr, hxr⟩ := row_of o.tab (i := q.1.1) (by rw [o.rect.1]; exact c1)
        have lrr : r.length = n := o.rect.2 r (List.mem_of_getElem? hr)
        have lcs : cs13.length = m := by rw [o.tab.rows.length, o.rect.1]
        have ai : atI (cs13.map V.ref) x1 = some (.ref ar) := atI_any (by rw [List.length_map, lcs]; exact hx1) (by rw [List.getElem?_map, har]; rfl)
        have ri : ixN (r.map V.int).length y1 = some q.1.2 := ixN_any (by rw [List.length_map, lrr]; exact hy1) (by rw [List.length_map, lrr]; exact c2)
        have rv : atI (r.map V.int) y1 = some (.int (r.getD q.1.2 0)) := by
          unfold atI
          rw [ri]
          have := at_getD (r := r) (c := q.1.2) (by omega)
          unfold atI at this
          rw [ixN_any (.inl rfl) (by rw [List.length_map, lrr]; exact c2)] at this
          exact this
        refine w_gtup (SqT.of (tk _ _ haq)) rfl (w_g3 ?_)
        dsimp only
        walk_at "go"
        refine w_ixL o.tab.at_ ai ?_
        walk_at "go"
        refine w_ixL hxr rv ?_
        walk_at "go"
        refine w_i (by refine ⟨?_, ?_, ?_⟩ <;> decide) ?_
        refine w_i (.inr (by constructor <;> decide)) ?_
        walk_at "go"
        refine w_ixL o.tab.at_ ai ?_
        walk_at "go"
        refine w_setL hxr ri ?_
        exact ⟨_, _, _, rfl, o.add har hr (q.2 * 1000000000), tk.trans (Tk.upd hxr fun xs e => by cases e), by rw [upd_ne (plr ar (List.mem_of_getElem? har))]; exact hp⟩
      rintro σ H' ⟨o7, o8, o9, rfl, o, tk, hp⟩
      rw [items.length, List.take_length] at o
      exact ⟨_, _, _, _, rfl, o, .inr bU⟩
    rw [decide_eq_false z]
    walk_at "go"
    refine ⟨g, _, rfl, .inl (SqL.of (oT.same _ _ ht13.at_)), ?_⟩
    rw [List.length_map, lr, lt]
    walk_at "go"
    by_cases z2 : (2 : Int) < (m : Int)
    · rw [decide_eq_true z2]
      walk_at "go"
      refine list_open ?_
      walk_at "go"
      refine ⟨_, rfl, ?_⟩
      walk_at "go"
      refine ⟨(by show 3 ≤ sizeLine; decide), fun q1 hq1 => ?_⟩
      have f1 := Same.new hq1 (.tup [V.int 0, V.int 0, V.int (-1)])
      have g1 : (upd H14 q1 (.tup [V.int 0, V.int 0, V.int (-1)])) q1 = some (.tup [V.int 0, V.int 0, V.int (-1)]) := upd_same
      generalize upd H14 q1 (.tup [V.int 0, V.int 0, V.int (-1)]) = G1 at f1 g1 ⊢
      walk_at "go"
      refine ⟨_, rfl, ?_⟩
      walk_at "go"
      refine ⟨_, rfl, ?_⟩
      walk_at "go"
      refine ⟨(by show 3 ≤ sizeLine; decide), fun q2 hq2 => ?_⟩
      have f2 := Same.new hq2 (.tup [V.int 0, V.int (-1), V.int (-1)])
      have g2 : (upd G1 q2 (.tup [V.int 0, V.int (-1), V.int (-1)])) q2 = some (.tup [V.int 0, V.int (-1), V.int (-1)]) := upd_same
      generalize upd G1 q2 (.tup [V.int 0, V.int (-1), V.int (-1)]) = G2 at f2 g2 ⊢
      walk_at "go"
      refine ⟨(by show 3 ≤ sizeLine; decide), fun q3 hq3 => ?_⟩
      have f3 := Same.new hq3 (.tup [V.int 1, V.int 0, V.int 1])
      have g3 : (upd G2 q3 (.tup [V.int 1, V.int 0, V.int 1])) q3 = some (.tup [V.int 1, V.int 0, V.int 1]) := upd_same
      generalize upd G2 q3 (.tup [V.int 1, V.int 0, V.int 1]) = G3 at f3 g3 ⊢
      walk_at "go"
      refine ⟨_, rfl, ?_⟩
      walk_at "go"
      refine ⟨(by show 3 ≤ sizeLine; decide), fun q4 hq4 => ?_⟩
      have f4 := Same.new hq4 (.tup [V.int 1, V.int (-1), V.int 1])
      have g4 : (upd G3 q4 (.tup [V.int 1, V.int (-1), V.int 1])) q4 = some (.tup [V.int 1, V.int (-1), V.int 1]) := upd_same
      generalize upd G3 q4 (.tup [V.int 1, V.int (-1), V.int 1]) = G4 at f4 g4 ⊢
      walk_at "go"
      refine ⟨(by show 4 ≤ sizeLine; decide), fun pl hpl => ?_⟩
      have f5 := Same.new hpl (.lst [V.ref q1, .ref q2, .ref q3, .ref q4])
      have h7 : (upd G4 pl (.lst [V.ref q1, .ref q2, .ref q3, .ref q4])) pl = some (.lst [V.ref q1, .ref q2, .ref q3, .ref q4]) := upd_same
      have f14 := f1.trans (f2.trans (f3.trans f4))
      have plr : ∀ r ∈ cs13, pl ≠ r := fun r hr zz => by
        obtain ⟨row, hrow⟩ := paired_has (oT.tab.same f14).rows hr
        have hrow : G4 r = some _ := hrow
        rw [← zz, hpl] at hrow
        cases hrow
      have e15 := f14.trans f5
      generalize upd G4 pl (.lst [V.ref q1, .ref q2, .ref q3, .ref q4]) = H15 at f5 h7 e15 ⊢
      have items : Paired (PosT m n H15) [V.ref q1, .ref q2, .ref q3, .ref q4] ([((0, 0), -1), ((0, n - 1), -1), ((1, 0), 1), ((1, n - 1), 1)] : List ((Nat × Nat) × Int)) := .cons ⟨q1, _, _, rfl, (f2.trans (f3.trans (f4.trans f5))) _ _ g1, .inl rfl, .inl rfl, by show 0 < m; omega, by show 0 < n; omega⟩ (.cons ⟨q2, _, _, rfl, (f3.trans (f4.trans f5)) _ _ g2, .inl rfl, .inr ⟨rfl, by show n - 1 + 1 = n; omega⟩, by show 0 < m; omega, by show n - 1 < n; omega⟩ (.cons ⟨q3, _, _, rfl, (f4.trans f5) _ _ g3, .inl rfl, .inl rfl, by show 1 < m; omega, by show 0 < n; omega⟩ (.cons ⟨q4, _, _, rfl, (f5) _ _ g4, .inl rfl, .inr ⟨rfl, by show n - 1 + 1 = n; omega⟩, by show 1 < m; omega, by show n - 1 < n; omega⟩ .nil)))
      have inb : ∀ p ∈ ([((0, n - 1), -1), ((1, 0), 1), ((1, n - 1), 1)] : List ((Nat × Nat) × Int)), p.1.1 < m ∧ p.1.2 < n ∧ p.1 ≠ (0, 0) := fun p hp => by
        simp only [List.mem_cons, List.not_mem_nil, or_false] at hp
        rcases hp with rfl | rfl | rfl
        · exact ⟨by show 0 < m; omega, by show n - 1 < n; omega, fun zz => by have h1 : 0 = 0 := congrArg Prod.fst zz; have h2 : n - 1 = 0 := congrArg Prod.snd zz; omega⟩
        · exact ⟨by show 1 < m; omega, by show 0 < n; omega, fun zz => by have h1 : 1 = 0 := congrArg Prod.fst zz; have h2 : 0 = 0 := congrArg Prod.snd zz; omega⟩
        · exact ⟨by show 1 < m; omega, by show n - 1 < n; omega, fun zz => by have h1 : 1 = 0 := congrArg Prod.fst zz; have h2 : n - 1 = 0 := congrArg Prod.snd zz; omega⟩
      have bU : ∀ hs, ¬ Fit t hs (moveF t [((0, 0), -1), ((0, n - 1), -1), ((1, 0), 1), ((1, n - 1), 1)]) m n := neg_fit m1 n1 (move_neg hR m1 n1 small inb)
      have oT5 := pend H15 e15
      clear f1 f2 f3 f4 g1 g2 g3 g4 f14 f5 hpl hq1 hq2 hq3 hq4 inb
      generalize ([((0, 0), -1), ((0, n - 1), -1), ((1, 0), 1), ((1, n - 1), 1)] : List ((Nat × Nat) × Int)) = posl at items bU
      have l4 : posl.length = 4 := items.length.symm
      generalize [V.ref q1, .ref q2, .ref q3, .ref q4] = xs at h7 items ⊢
      refine ⟨pl, rfl, ⟨_, SqL.of h7⟩, ?_⟩
      refine for_list (xs := xs) (fun (i : Nat) σ H' => ∃ (o7 o8 o9 : Option V), σ = [some (.ref g), some hv, some (.ref ps), some (.ref D7), some (.ref D9), some (.ref pe), some (.ref D13), o7, o8, o9, none, none] ∧ Own H13 H' D13 cs13 (moveF t (posl.take i)) m n ∧ Tk H15 H' ∧ H' pl = some (.lst xs))
        ⟨none, none, none, rfl, oT5, Tk.refl _, h7⟩ (fun i σ H' _ ⟨_, _, _, _, _, _, hp⟩ => SqL.of hp) ?_ ?_
      · rintro i x σ H' hx ⟨o7, o8, o9, rfl, o, tk, hp⟩
        obtain ⟨q, hq, ⟨aq, x1, y1, rfl, haq, hx1, hy1, c1, c2⟩⟩ := K3.Paired.get items hx
        have mo : moveF t (posl.take (i + 1)) = addAt (moveF t (posl.take i)) q.1 (q.2 * 1000000000) := by
          rw [List.take_add_one, hq]
          unfold moveF
          rw [List.foldl_append]
          rfl
        rw [mo]
        generalize moveF t (posl.take i) = u at o ⊢
        obtain ⟨ar, r, har, hr, hxr⟩ := row_of o.tab (i := q.1.1) (by rw [o.rect.1]; exact c1)
        have lrr : r.length = n := o.rect.2 r (List.mem_of_getElem? hr)
        have lcs : cs13.length = m := by rw [o.tab.rows.length, o.rect.1]
        have ai : atI (cs13.map V.ref) x1 = some (.ref ar) := atI_any (by rw [List.length_map, lcs]; exact hx1) (by rw [List.getElem?_map, har]; rfl)
        have ri : ixN (r.map V.int).length y1 = some q.1.2 := ixN_any (by rw [List.length_map, lrr]; exact hy1) (by rw [List.length_map, lrr]; exact c2)
        have rv : atI (r.map V.int) y1 = some (.int (r.getD q.1.2 0)) := by
          unfold atI
          rw [ri]
          have := at_getD (r := r) (c := q.1.2) (by omega)
          unfold atI at this
          rw [ixN_any (.inl rfl) (by rw [List.length_map, lrr]; exact c2)] at this
          exact this
        refine w_gtup (SqT.of (tk _ _ haq)) rfl (w_g3 ?_)
        dsimp only
        walk_at "go"
        refine w_ixL o.tab.at_ ai ?_
        walk_at "go"
        refine w_ixL hxr rv ?_
        walk_at "go"
        refine w_i (by refine ⟨?_, ?_, ?_⟩ <;> decide) ?_
        refine w_i (.inr (by constructor <;> decide)) ?_
        walk_at "go"
        refine w_ixL o.tab.at_ ai ?_
        walk_at "go"
        refine w_setL hxr ri ?_
        exact ⟨_, _, _, rfl, o.add har hr (q.2 * 1000000000), tk.trans (Tk.upd hxr fun xs e => by cases e), by rw [upd_ne (plr ar (List.mem_of_getElem? har))]; exact hp⟩
      rintro σ H' ⟨o7, o8, o9, rfl, o, tk, hp⟩
      rw [items.length, List.take_length] at o
      exact ⟨_, _, _, _, rfl, o, .inr bU⟩
    rw [decide_eq_false z2]
    walk_at "go"
    exact ⟨_, _, _, _, rfl, oT, .inl rfl⟩
  rintro σ' H16 ⟨o7, o8, o9, u, rfl, oU, hu⟩
  have e1316 := oU.same
  have ht16 := ht13.same e1316
  have l60 : (cellsOf m n).dropLast.length ≤ 60 := by
    rw [List.length_dropLast, cells_len]
    have := Nat.mul_le_mul m4 n4
    omega
  have hide : ∀ H', Same H13 H' → HidIn K H' (.ref pe) (cellsOf m n).dropLast m n := fun H' e => ⟨pe, we, rfl, .inl (SqL.of (e _ _ hpe)), L2.Paired.mapP hwe fun _ _ z => CellAt.same e z, fun k hk => hk, l60⟩
  clear pend oT
  refine Evl.q_cut (M := fun σ' H' => σ' = [some (.ref g), some hv, some (.ref ps), some (.ref D7), some (.ref D9), some (.ref pe), some (.ref D13), o7, o8, o9, none, none] ∧ Same H16 H') ?_ ?_
  · walk_at "go"
    refine ⟨_, _, tab_dp oU.tab, tab_dp ht16, (tab_shaped u).1, (tab_shaped t).1, ?_⟩
    rw [tab_eqv]
    by_cases z : u = t
    · rw [decide_eq_true z]
      walk_at "go"
      exact ⟨rfl, Same.refl _⟩
    · rw [decide_eq_false z]
      walk_at "go"
      refine ⟨g, D13, .ref pe, rs, cs13, t, u, m, n, m, n, _, rfl, ht16.gt, hR, m1, n1, m60, n60, hide _ e1316, oU.tab.gt, oU.rect, m1, n1, m60, n60, fun b H17 e17 hb => ?_⟩
      cases b with
      | true => exact absurd (hb.mp rfl) ((hu.resolve_left z) _)
      | false =>
        walk_at "go"
        exact ⟨rfl, e17⟩
  rintro σ' H17 ⟨rfl, e17⟩
  have e1317 := e1316.trans e17
  have ht17 := ht16.same e17
  clear oU hu e17 ht16 e1316
  walk_at "go"
  refine list_open ?_
  walk_at "go"
  refine ⟨ps, _, rfl, SqL.of (e1317 _ _ hsome13), fun p6 hp6 => ?_⟩
  rw [show (some (4 : Int)) = some (((4 : Nat)) : Int) from rfl, cut_to]
  have e18 := Same.new hp6 (.lst ([V.ref p1, .ref DB, .ref p3, .ref DD, .ref p5].take 4))
  have h6 : (upd H17 p6 (.lst ([V.ref p1, .ref DB, .ref p3, .ref DD, .ref p5].take 4))) p6 = some (.lst [V.ref p1, .ref DB, .ref p3, .ref DD]) := upd_same
  generalize upd H17 p6 (.lst ([V.ref p1, .ref DB, .ref p3, .ref DD, .ref p5].take 4)) = H18 at e18 h6 ⊢
  walk_at "go"
  refine ⟨(by show 2 ≤ sizeLine; decide), fun p7 hp7 => ?_⟩
  have e19 := Same.new hp7 (.lst [V.ref D7, .ref D9])
  refine ⟨p6, p7, _, _, rfl, rfl, e19 _ _ h6, upd_same, Nat.le_trans (show (6 : Nat) ≤ 2000 by decide) (by decide), fun p8 hp8 => ?_⟩
  have e20 := Same.new hp8 (.lst ([V.ref p1, .ref DB, .ref p3, .ref DD] ++ [V.ref D7, .ref D9]))
  have h8 : (upd (upd H18 p7 (.lst [V.ref D7, .ref D9])) p8 (.lst ([V.ref p1, .ref DB, .ref p3, .ref DD] ++ [V.ref D7, .ref D9]))) p8 = some (.lst [V.ref p1, .ref DB, .ref p3, .ref DD, .ref D7, .ref D9]) := upd_same
  have e1720 := (e18.trans e19).trans e20
  generalize upd (upd H18 p7 (.lst [V.ref D7, .ref D9])) p8 (.lst ([V.ref p1, .ref DB, .ref p3, .ref DD] ++ [V.ref D7, .ref D9])) = H20 at e1720 h8 ⊢
  have e1320 := e1317.trans e1720
  clear e18 e19 e20 h6 hp6 hp7 hp8 e1720 e1317 ht17
  refine ⟨p8, rfl, ⟨_, SqL.of h8⟩, ?_⟩
  refine for_list (xs := [V.ref p1, .ref DB, .ref p3, .ref DD, .ref D7, .ref D9]) (fun (i : Nat) σ H' => ∃ o10 : Option V, σ = [some (.ref g), some hv, some (.ref ps), some (.ref D7), some (.ref D9), some (.ref pe), some (.ref D13), o7, o8, o9, o10, none] ∧ Same H20 H')
    ⟨none, rfl, Same.refl _⟩ (fun i σ H' _ ⟨_, _, e⟩ => SqL.of (e _ _ h8)) ?_ ?_
  · rintro i x σ H21 hx ⟨o10, rfl, e21⟩
    have e1321 := e1320.trans e21
    obtain ⟨q, qs, u', m', n', rfl, tabq, rq, q1, q2, q3, q4, qb⟩ := (bads13 x (List.mem_of_getElem? hx)).same e1321
    walk_at "go"
    refine ⟨g, q, hv, rs, qs, t, u', m, n, m', n', hs, rfl, (ht13.same e1321).gt, hR, m1, n1, m60, n60, hid_same hid13 e1321, tabq.gt, rq, q1, q2, q3, q4, fun b H22 e22 hb => ?_⟩
    cases b with
    | true => exact absurd (hb.mp rfl) (qb _)
    | false =>
      have e1322 := e1321.trans e22
      walk_at "go"
      refine ⟨g, q, .ref pe, rs, qs, t, u', m, n, m', n', _, rfl, (ht13.same e1322).gt, hR, m1, n1, m60, n60, hide _ e1322, (tabq.same e22).gt, rq, q1, q2, q3, q4, fun b H23 e23 hb => ?_⟩
      cases b with
      | true => exact absurd (hb.mp rfl) (qb _)
      | false =>
        walk_at "go"
        exact ⟨_, rfl, (e21.trans e22).trans e23⟩
  rintro σ H21 ⟨o10, rfl, e21⟩
  have e1321 := e1320.trans e21
  walk_at "go"
  refine ⟨g, g, hv, rs, rs, t, t, m, n, m, n, hs, rfl, (ht13.same e1321).gt, hR, m1, n1, m60, n60, hid_same hid13 e1321, (ht13.same e1321).gt, hR, m1, n1, m60, n60, fun b H22 e22 hb => ?_⟩
  rw [hb.mpr (own_fit gt hs)]
  have e1322 := e1321.trans e22
  have ht22 := ht13.same e1322
  walk_at "go"
  refine lcAt_open (list_open ?_)
  walk_at "go"
  refine ⟨g, rfl, ⟨_, SqL.of ht22.at_⟩, fun DF hDF => ?_⟩
  refine items_gen (F := RowV) (G := TupR) (fun e h => RowV.same e h) (fun e h => TupR.tk e h) (fun _ => true) (fun r => r) (SqL.of ht22.at_) (rowV_of ht22.rows) hDF (by omega) ?_ ?_
  · rintro v r H23 e23 hr ⟨b, rfl, hb⟩ R' _ r2
    walk_at "go"
    refine ⟨rfl, ?_⟩
    walk_at "go"
    refine ⟨b, _, rfl, .inl ⟨SqL.of hb, fun tr htr => ?_⟩⟩
    exact r2 _ _ (Same.new htr _) rfl ⟨tr, rfl, upd_same⟩
  intro H23 zs e23 hD23 hz
  rw [List.map_id', show t.filter (fun _ => true) = t from List.filter_eq_self.mpr fun _ _ => rfl] at hz
  obtain ⟨rsf, rfl, hrf⟩ := tup_rows hz
  walk_at "go"
  refine ⟨DF, _, rfl, .inl ⟨SqL.of hD23, fun ff hff => ?_⟩⟩
  have e24 := Same.new hff (.tup (rsf.map V.ref))
  have firm : GT K (upd H23 ff (.tup (rsf.map V.ref))) ff rsf t := ⟨.tup upd_same, L2.Paired.mapP hrf fun _ _ z => .tup (e24 _ _ z)⟩
  have e1324 := (e1322.trans e23).trans e24
  walk_at "go"
  refine ⟨g, ff, .ref pe, rs, rsf, t, t, m, n, m, n, _, rfl, (ht13.same e1324).gt, hR, m1, n1, m60, n60, hide _ e1324, firm, hR, m1, n1, m60, n60, fun b H25 e25 hb => ?_⟩
  rw [hb.mpr (own_fit gt _)]
  exact ok _ ((e013.trans e1324).trans e25)
end
end K3
end X5_part
section X6_part
set_option Elab.async false
set_option linter.all false
set_option maxRecDepth 100000
set_option maxHeartbeats 1000000
set_option pp.deepTerms.threshold 5
open PySem PySem.Spec PyProof.Rows L2
/-- go on as far as nothing is open -/
local macro_rules | `(tactic| walk_at "go") => `(tactic| repeat (first
  | with_reducible refine w_seq ?_ | with_reducible refine w_next ?_ | with_reducible refine w_set ?_ | with_reducible refine w_drop ?_ | with_reducible refine w_ret ?_ | with_reducible refine w_retN ?_
  | with_reducible refine w_if ?_ | ((with_reducible refine' w_var ?hv ?_); (case hv => exact rfl)) | with_reducible refine w_c ?_ | with_reducible refine w_nil ?_ | with_reducible refine w_cons ?_ | with_reducible refine w_op ?_ | with_reducible refine w_un ?_
  | with_reducible refine w_test ?_ | with_reducible refine w_tB ?_ | with_reducible refine w_not ?_ | with_reducible refine w_and ?_ | with_reducible refine w_or ?_ | with_reducible refine w_bl ?_
  | with_reducible refine w_andV ?_ | with_reducible refine w_orV ?_ | with_reducible refine w_notV ?_ | with_reducible refine w_ifE ?_ | with_reducible refine w_chain ?_ | with_reducible refine w_i0 ?_
  | with_reducible refine w_call ?_ | with_reducible refine w_callS ?_ | with_reducible refine w_cB ?_ | with_reducible refine w_tup ?_ | with_reducible refine w_lst ?_ | with_reducible refine w_fldV ?_
  | with_reducible refine w_neF ?_ | with_reducible refine w_neT ?_ | with_reducible refine w_notN ?_ | with_reducible refine w_isN ?_ | with_reducible refine w_gname ?_ | with_reducible refine w_gsub ?_ | with_reducible refine w_asg ?_ | with_reducible refine w_sl ?_ | with_reducible refine w_noP ?_ | with_reducible refine w_int1 ?_ | with_reducible refine w_part ?_ | with_reducible refine w_yes ?_ | with_reducible refine w_nT ?_ | with_reducible refine w_nF ?_ | with_reducible refine w_iteT ?_ | with_reducible refine w_iteF ?_))
namespace K3
open SLam LamX
/-! ### what is said of each call -/
theorem tab_ext {H H' : Hp} (e : ExtN H H') {g : Addr} {rs : List Addr} {t : List (List Int)} (h : Tab H g rs t) : Tab H' g rs t :=
  ⟨e _ _ h.at_ fun ps z => (by cases z), L2.Paired.mapP h.rows fun a r (z : RowAt H a r) => e a _ (show H a = some (.lst (r.map V.int)) from z) fun ps y => by cases y⟩
def HidOK (K : PySem.W.Frag) (H : Hp) (h : Addr) (m n : Nat) (hs : List (Int × Int)) : Prop := ∃ ws, H h = some (.lst ws) ∧ Paired (CellI H) ws hs ∧ hs.length ≤ 100 ∧ (hs.find? (badC m n) = none → hs.length ≤ 60)
theorem HidOK.ext {K : PySem.W.Frag} {H H' : Hp} (e : ExtN H H') {h : Addr} {m n : Nat} {hs : List (Int × Int)} (o : HidOK K H h m n hs) : HidOK K H' h m n hs := let ⟨ws, h1, h2, h3⟩ := o; ⟨ws, e _ _ h1 (fun ps z => by cases z), L2.Paired.mapP h2 fun _ _ z => CellI.ext e z, h3⟩
theorem HidOK.i {K : PySem.W.Frag} {H : Hp} {h : Addr} {m n : Nat} {hs : List (Int × Int)} (o : HidOK K H h m n hs) : HidI H (.ref h) hs := let ⟨ws, h1, h2, h3, _⟩ := o; ⟨h, ws, rfl, h1, h2, h3⟩
theorem good_of {m n : Nat} {hs : List (Int × Int)} (h : hs.find? (badC m n) = none) {c : Int × Int} (hc : c ∈ hs) : inB m n c ∧ natC c ≠ (m - 1, n - 1) := by
  have := List.find?_eq_none.mp h c hc
  unfold badC at this
  by_cases b : inB m n c
  · refine ⟨b, fun z => ?_⟩
    rw [decide_eq_true z, Bool.or_true] at this
    exact this rfl
  · rw [decide_eq_false b] at this
    exact absurd rfl this
theorem nat_back {m n : Nat} {c : Int × Int} (b : inB m n c) : ((natC c).1 : Int) = c.1 ∧ ((natC c).2 : Int) = c.2 := ⟨Int.toNat_of_nonneg b.1, Int.toNat_of_nonneg b.2.2.1⟩
theorem nat_lt {m n : Nat} {c : Int × Int} (b : inB m n c) : (natC c).1 < m ∧ (natC c).2 < n := by
  obtain ⟨b1, b2, b3, b4⟩ := b
  unfold natC
  dsimp only
  omega
theorem HidOK.in {K : PySem.W.Frag} {H : Hp} {h : Addr} {m n : Nat} {hs : List (Int × Int)} (o : HidOK K H h m n hs) (m1 : 1 ≤ m) (n1 : 1 ≤ n) (hf : hs.find? (badC m n) = none) : HidIn K H (.ref h) (hs.map natC) m n := by
  obtain ⟨ws, h1, h2, h3, h4⟩ := o
  refine ⟨h, ws, rfl, .inl (SqL.of h1), ?_, fun k hk => ?_, by rw [List.length_map]; exact h4 hf⟩
  · have key : ∀ {ws : List V} {hs : List (Int × Int)}, Paired (CellI H) ws hs → (∀ c ∈ hs, inB m n c) → Paired (CellAt H) ws (hs.map natC) := by
      intro ws hs p
      induction p with
      | nil => intro _; exact .nil
      | cons h t ih => exact fun b => .cons (h.nat (b _ (List.mem_cons_self ..))) (ih fun c hc => b c (List.mem_cons_of_mem _ hc))
    exact key h2 fun c hc => (good_of hf hc).1
  · obtain ⟨c, hc, rfl⟩ := List.mem_map.mp hk
    obtain ⟨b, ne⟩ := good_of hf hc
    obtain ⟨b1, b2⟩ := nat_lt b
    exact mem_drop m1 n1 b1 b2 ne
theorem mem_nat {m n : Nat} {hs : List (Int × Int)} {c : Int × Int} (hf : hs.find? (badC m n) = none) (b : inB m n c) : natC c ∈ hs.map natC ↔ c ∈ hs := by
  constructor
  · intro h
    obtain ⟨d, hd, e⟩ := List.mem_map.mp h
    obtain ⟨d1, d2⟩ := nat_back (good_of hf hd).1
    obtain ⟨c1, c2⟩ := nat_back b
    rw [e] at d1 d2
    have : d = c := Prod.ext (by omega) (by omega)
    exact this ▸ hd
  · exact fun h => List.mem_map.mpr ⟨c, h, rfl⟩
def tAskK (n k : Nat) (sp1 sp2 : Sp) (ta tk : TA) : XK → TE := fun E σ H Q => tCallN n k sp1 (fun vs zs => vs ++ zs) E0 ta tk σ H Q ∨ tCallNS n k sp2 (fun vs zs => vs ++ zs) (WE fun cls d _ H => E cls d H) ta tk σ H Q
def tAskP (sp1 sp2 : Sp) (ta : TA) : XK → TE := fun E σ H Q => tCall sp1 [] E0 ta σ H Q ∨ tCallS sp2 (WE fun cls d _ H => E cls d H) ta σ H Q
def fwDue (few width : Int) : Option Rf := if few < 2 then some (.count "few" few) else if width < 1 then some (.count "width" width) else none
section
variable {K : PySem.W.Frag} {TT : List (Addr × Str)} {σ : L2.St} {H : Hp} {Q : VK} {g h : Addr} {v : V} {rs : List Addr} {t : List (List Int)} {m n : Nat} {hs : List (Int × Int)} {c : Int × Int}
/-- what a call's reading is asked to lead to -/
theorem said_of {o : Option Rf} {tl : XK → Hp → VK → Prop} (tT : Tabs TT H) (q : ∀ H' a, ExtN H H' → Tabs TT H' → DueAt H' (.ref a) o → Q (.ref a) H')
    (go : ∀ H1 (Q2 : Hp → Prop), ExtN H H1 → Tabs TT H1 → (∀ H', ExtN H1 H' → Tabs TT H' → o = none → Q2 H') → (∀ r cls d H', (o = some r ∨ (o = none ∧ ∃ v, r = .uns v)) → Same H1 H' → ErrD K cls d (He.ga K r.x) H' r.f → Caught K Q cls d H') → tl (Caught K Q) H1 fun _ H' => Q2 H') :
    Tabs TT H ∧ ∀ H1, ExtN H H1 → Tabs TT H1 → TTsaid K tl H1 Q := by
  refine ⟨tT, fun H1 x1 t1 Q2 k2 => go H1 Q2 x1 t1 (fun H' x2 t2 e => k2 H' fun H'' a s ha => q H'' a ((x1.trans x2).trans (ExtN.of s)) (t2.ext s) ⟨a, rfl, by rw [e]; exact ha⟩) fun r cls d H' e s ed => ⟨r, ed, fun H'' a s2 ha => q H'' a (x1.trans (ExtN.of (s.trans s2))) (t1.ext (s.trans s2)) ⟨a, rfl, ?_⟩⟩⟩
  rcases e with e | ⟨e, v, rfl⟩
  · rw [e]
    exact ha
  · rw [e]
    exact ha
/-- the three that ask of one cell -/
theorem ask_of {E : XK} {H1 : Hp} (hid : HidOK K H1 h m n hs) (hc : CellI H1 v c) (m1 : 1 ≤ m) (n1 : 1 ≤ n) {o : Option Rf} (ho : o = cellDue m n hs c) (k : ∀ r d H', o = some r → Same H1 H' → H' d = some (.xd r.f) → E (.ref (He.ga K r.x)) (some d) H') :
    (∃ r, o = some r ∧ AskE K H1 E (.ref h) v m n) ∨ (o = none ∧ hs.find? (badC m n) = none ∧ inB m n c ∧ c ∈ hs) := by
  unfold cellDue at ho
  cases hf : hs.find? (badC m n) with
  | some b =>
    rw [hf] at ho
    exact .inl ⟨_, ho, .inl ⟨hs, b, hid.i, hf, fun d H' s hd => k (.cell b) d H' ho s hd⟩⟩
  | none =>
    rw [hf] at ho
    by_cases b : inB m n c
    · have ho : o = if inB m n c then (if c ∈ hs then none else some .fit) else some (.cell c) := ho
      rw [if_pos b] at ho
      by_cases z : c ∈ hs
      · rw [if_pos z] at ho
        exact .inr ⟨ho, rfl, b, z⟩
      · rw [if_neg z] at ho
        exact .inl ⟨_, ho, .inr ⟨_, c, hid.in m1 n1 hf, hc, .inr ⟨b, fun y => z ((mem_nat hf b).mp y), fun d H' s hd => k .fit d H' ho s hd⟩⟩⟩
    · have ho : o = if inB m n c then (if c ∈ hs then none else some .fit) else some (.cell c) := ho
      rw [if_neg b] at ho
      exact .inl ⟨_, ho, .inr ⟨_, c, hid.in m1 n1 hf, hc, .inl ⟨b, fun d H' s hd => k (.cell c) d H' ho s hd⟩⟩⟩
theorem sd_reach (s8 : σ[8]? = some (some (.ref g))) (s9 : σ[9]? = some (some (.ref h))) (s10 : σ[10]? = some (some v)) (ht : Tab H g rs t) (gt : Grid t m n) (m30 : m ≤ 30) (n30 : n ≤ 30) (hid : HidOK K H h m n hs) (hc : CellI H v c) (tT : Tabs TT H)
    (q : ∀ H' a, ExtN H H' → Tabs TT H' → DueAt H' (.ref a) (cellDue m n hs c) → Q (.ref a) H') : tLam TT (TTsaid K) (tAskK 2 1 (spReach K) (spAskE K) (tCons (tVar 8) (tCons (tVar 9) tNil)) (tCons (tVar 10) tNil)) σ H Q := by
  refine said_of (o := cellDue m n hs c) tT q fun H1 Q2 x1 t1 told caught => ?_
  have hid1 := hid.ext x1
  have hc1 := hc.ext x1
  have ht1 := (tab_ext x1 ht).gt (K := K)
  rcases ask_of (E := Caught K Q) (o := cellDue m n hs c) hid1 hc1 gt.m1 gt.n1 rfl (fun r d H' e s hd => caught r _ _ H' (.inl e) s ⟨rfl, d, rfl, hd⟩) with ⟨r, e, ask⟩ | ⟨e, hf, b, z⟩
  · refine .inr (w_callNS (w_cons (w_var s8 (w_cons (w_var s9 (w_nil (w_cons (w_var s10 (w_nil ⟨rfl, rfl, ?_⟩)))))))))
    exact ⟨g, .ref h, v, rs, t, m, n, rfl, ht1, gt.rect, gt.m1, gt.n1, by omega, by omega, ask⟩
  · refine .inl (w_callN (w_cons (w_var s8 (w_cons (w_var s9 (w_nil (w_cons (w_var s10 (w_nil ⟨rfl, rfl, ?_⟩)))))))))
    obtain ⟨c1, c2⟩ := nat_lt b
    refine ⟨g, .ref h, v, rs, t, m, n, hs.map natC, natC c, rfl, ht1, gt.rect, gt.m1, gt.n1, by omega, by omega, hid1.in gt.m1 gt.n1 hf, hc1.nat b, (mem_nat hf b).mpr z, gt.nn _ c1 _ c2, gt.room c1 c2, ?_⟩
    intro cs a H' np1 rs1 np2 rs2 hcs srt s
    intros
    exact told H' (ExtN.of s) (t1.ext s) e
theorem sd_fences (s8 : σ[8]? = some (some (.ref g))) (s9 : σ[9]? = some (some (.ref h))) (s10 : σ[10]? = some (some v)) (ht : Tab H g rs t) (gt : Grid t m n) (m30 : m ≤ 30) (n30 : n ≤ 30) (hid : HidOK K H h m n hs) (hc : CellI H v c) (tT : Tabs TT H)
    (q : ∀ H' a, ExtN H H' → Tabs TT H' → DueAt H' (.ref a) (cellDue m n hs c) → Q (.ref a) H') : tLam TT (TTsaid K) (tAskK 2 1 (spFences K) (spAskE K) (tCons (tVar 8) (tCons (tVar 9) tNil)) (tCons (tVar 10) tNil)) σ H Q := by
  refine said_of (o := cellDue m n hs c) tT q fun H1 Q2 x1 t1 told caught => ?_
  have hid1 := hid.ext x1
  have hc1 := hc.ext x1
  have ht1 := (tab_ext x1 ht).gt (K := K)
  rcases ask_of (E := Caught K Q) (o := cellDue m n hs c) hid1 hc1 gt.m1 gt.n1 rfl (fun r d H' e s hd => caught r _ _ H' (.inl e) s ⟨rfl, d, rfl, hd⟩) with ⟨r, e, ask⟩ | ⟨e, hf, b, z⟩
  · refine .inr (w_callNS (w_cons (w_var s8 (w_cons (w_var s9 (w_nil (w_cons (w_var s10 (w_nil ⟨rfl, rfl, ?_⟩)))))))))
    exact ⟨g, .ref h, v, rs, t, m, n, rfl, ht1, gt.rect, gt.m1, gt.n1, by omega, by omega, ask⟩
  · refine .inl (w_callN (w_cons (w_var s8 (w_cons (w_var s9 (w_nil (w_cons (w_var s10 (w_nil ⟨rfl, rfl, ?_⟩)))))))))
    obtain ⟨c1, c2⟩ := nat_lt b
    refine ⟨g, .ref h, v, rs, t, m, n, hs.map natC, natC c, rfl, ht1, gt.rect, gt.m1, gt.n1, m30, n30, hid1.in gt.m1 gt.n1 hf, hc1.nat b, (mem_nat hf b).mpr z, gt.nn _ c1 _ c2, gt.room c1 c2, ?_⟩
    intro cs a v1 v2 H' hcs srt s
    intros
    exact told H' (ExtN.of s) (t1.ext s) e
abbrev tFence : TE := tTup (tCons (tTup (tCons (tC (.int 0)) tNil)) (tCons (tTup (tCons (tC (.int 0)) tNil)) tNil))
theorem sd_bound (s8 : σ[8]? = some (some (.ref g))) (s9 : σ[9]? = some (some (.ref h))) (s10 : σ[10]? = some (some v)) (ht : Tab H g rs t) (gt : Grid t m n) (m30 : m ≤ 30) (n30 : n ≤ 30) (hid : HidOK K H h m n hs) (hc : CellI H v c) (tT : Tabs TT H)
    (q : ∀ H' a, ExtN H H' → Tabs TT H' → DueAt H' (.ref a) (cellDue m n hs c) → Q (.ref a) H') : tLam TT (TTsaid K) (tAskK 2 2 (spBound K) (spBoundE K) (tCons (tVar 8) (tCons (tVar 9) tNil)) (tCons (tVar 10) (tCons tFence tNil))) σ H Q := by
  refine said_of (o := cellDue m n hs c) tT q fun H1 Q2 x1 t1 told caught => ?_
  have fence : ∀ {E : XK} {QV : VK} {sp : Sp}, (∀ p H2, Same H1 H2 → FenceT K H2 (.ref p) [0] [0] → sp [.ref g, .ref h, v, .ref p] H2 QV E) → tFence σ H1 fun f H2 => tNil σ H2 fun us H3 => [V.ref g, .ref h].length = 2 ∧ (v :: f :: us).length = 2 ∧ sp ([V.ref g, .ref h] ++ (v :: f :: us)) H3 QV E := by
    intro E QV sp k
    refine ⟨(by show 1 ≤ sizeLine; decide), fun a ha => ?_⟩
    have f1 := Same.new ha (.tup [V.int 0])
    refine ⟨(by show 1 ≤ sizeLine; decide), fun b hb => ?_⟩
    have f2 := Same.new hb (.tup [V.int 0])
    refine ⟨(by show 2 ≤ sizeLine; decide), fun p hp => ?_⟩
    have f3 := Same.new hp (.tup [V.ref a, V.ref b])
    exact ⟨rfl, rfl, k p _ ((f1.trans f2).trans f3) ⟨p, a, b, rfl, SqT.of upd_same, SqT.of (f3 _ _ (f2 _ _ upd_same)), SqT.of (f3 _ _ upd_same)⟩⟩
  have hid1 := hid.ext x1
  have hc1 := hc.ext x1
  have ht1 := (tab_ext x1 ht).gt (K := K)
  rcases ask_of (E := Caught K Q) (o := cellDue m n hs c) hid1 hc1 gt.m1 gt.n1 rfl (fun r d H' e s hd => caught r _ _ H' (.inl e) s ⟨rfl, d, rfl, hd⟩) with ⟨r, e, ask⟩ | ⟨e, hf, b, z⟩
  · refine .inr (w_callNS (w_cons (w_var s8 (w_cons (w_var s9 (w_nil (w_cons (w_var s10 (w_cons (fence fun p H2 s2 fT => ?_))))))))))
    have ask2 : AskE K H2 (Caught K Q) (.ref h) v m n := by
      have x2 := x1.trans (ExtN.of s2)
      rcases ask_of (E := Caught K Q) (o := cellDue m n hs c) (hid.ext x2) (hc.ext x2) gt.m1 gt.n1 rfl (fun r d H' e s hd => caught r _ _ H' (.inl e) (s2.trans s) ⟨rfl, d, rfl, hd⟩) with ⟨r', e', ask'⟩ | ⟨e', _⟩
      · exact ask'
      · rw [e] at e'
        cases e'
    exact ⟨g, .ref h, v, .ref p, rs, t, m, n, rfl, ht1.same s2, gt.rect, gt.m1, gt.n1, by omega, by omega, ask2⟩
  · refine .inl (w_callN (w_cons (w_var s8 (w_cons (w_var s9 (w_nil (w_cons (w_var s10 (w_cons (fence fun p H2 s2 fT => ?_))))))))))
    have x2 := x1.trans (ExtN.of s2)
    refine ⟨g, .ref h, v, .ref p, rs, t, m, n, hs.map natC, natC c, [0], [0], rfl, ht1.same s2, gt.rect, gt.m1, gt.n1, m30, n30, (hid.ext x2).in gt.m1 gt.n1 hf, (hc.ext x2).nat b, (mem_nat hf b).mpr z, fT.at, fun a H' s _ => ?_⟩
    exact told H' (ExtN.of (s2.trans s)) (t1.ext (s2.trans s)) e
theorem sd_fits (s8 : σ[8]? = some (some (.ref g))) (s9 : σ[9]? = some (some (.ref h))) (ht : Tab H g rs t) (gt : Grid t m n) (m30 : m ≤ 30) (n30 : n ≤ 30) (hid : HidOK K H h m n hs) (tT : Tabs TT H)
    (q : ∀ H' a, ExtN H H' → Tabs TT H' → DueAt H' (.ref a) (hidDue m n hs) → Q (.ref a) H') : tLam TT (TTsaid K) (tAskP (spFits K) (spFitsE K) (tCons (tVar 8) (tCons (tVar 9) (tCons (tVar 8) tNil)))) σ H Q := by
  refine said_of (o := hidDue m n hs) tT q fun H1 Q2 x1 t1 told caught => ?_
  have hid1 := hid.ext x1
  have ht1 := (tab_ext x1 ht).gt (K := K)
  unfold hidDue at told caught
  cases hf : hs.find? (badC m n) with
  | some b =>
    rw [hf] at caught
    refine .inr ?_
    show tCons _ _ σ H1 _
    refine w_cons (w_var s8 (w_cons (w_var s9 (w_cons (w_var s8 (w_nil ?_))))))
    exact ⟨g, .ref h, .ref g, rs, t, m, n, hs, b, rfl, ht1, gt.rect, gt.m1, gt.n1, by omega, by omega, hid1.i, hf, fun d H' s hd => caught (.cell b) _ _ H' (.inl rfl) s ⟨rfl, d, rfl, hd⟩⟩
  | none =>
    rw [hf] at told
    refine .inl ?_
    show tCons _ _ σ H1 _
    refine w_cons (w_var s8 (w_cons (w_var s9 (w_cons (w_var s8 (w_nil ?_))))))
    exact ⟨g, g, .ref h, rs, rs, t, t, m, n, m, n, hs.map natC, rfl, ht1, gt.rect, gt.m1, gt.n1, by omega, by omega, hid1.in gt.m1 gt.n1 hf, ht1, gt.rect, gt.m1, gt.n1, by omega, by omega, fun b H' s _ => told H' (ExtN.of s) (t1.ext s) rfl⟩
theorem sd_safe {few width : Int} (s8 : σ[8]? = some (some (.ref g))) (s9 : σ[9]? = some (some (.ref h))) (s11 : σ[11]? = some (some (.int few))) (s12 : σ[12]? = some (some (.int width))) (ht : Tab H g rs t) (gt : Grid t m n) (m10 : m ≤ 10) (n10 : n ≤ 10) (hid : HidOK K H h m n hs) (tT : Tabs TT H)
    (q : ∀ H' a, ExtN H H' → Tabs TT H' → DueAt H' (.ref a) (if fwDue few width = none then hidDue m n hs else fwDue few width) → Q (.ref a) H') : tLam TT (TTsaid K) (tAskK 2 2 (spSafe K) (spSafeE K) (tCons (tVar 8) (tCons (tVar 9) tNil)) (tCons (tVar 11) (tCons (tVar 12) tNil))) σ H Q := by
  refine said_of tT q fun H1 Q2 x1 t1 told caught => ?_
  have hid1 := hid.ext x1
  have ht1 := (tab_ext x1 ht).gt (K := K)
  have m1 := gt.m1
  have n1 := gt.n1
  have bad : ∀ k : spSafeE K [.ref g, .ref h, .int few, .int width] H1 (fun _ H' => Q2 H') (Caught K Q), tAskK 2 2 (spSafe K) (spSafeE K) (tCons (tVar 8) (tCons (tVar 9) tNil)) (tCons (tVar 11) (tCons (tVar 12) tNil)) (Caught K Q) σ H1 (fun _ H' => Q2 H') := fun k =>
    .inr (w_callNS (w_cons (w_var s8 (w_cons (w_var s9 (w_nil (w_cons (w_var s11 (w_cons (w_var s12 (w_nil ⟨rfl, rfl, k⟩)))))))))))
  unfold fwDue at told caught
  by_cases f2 : few < 2
  · rw [if_pos f2] at caught
    exact bad ⟨g, .ref h, few, width, rs, t, m, n, rfl, .inl (.inl ⟨f2, fun d H' s hd => caught (.count "few" few) _ _ H' (.inl rfl) s ⟨rfl, d, rfl, hd⟩⟩)⟩
  · by_cases w1 : width < 1
    · rw [if_neg f2, if_pos w1] at caught
      exact bad ⟨g, .ref h, few, width, rs, t, m, n, rfl, .inl (.inr ⟨by omega, w1, fun d H' s hd => caught (.count "width" width) _ _ H' (.inl rfl) s ⟨rfl, d, rfl, hd⟩⟩)⟩
    · rw [if_neg f2, if_neg w1, if_pos rfl] at told caught
      unfold hidDue at told caught
      cases hf : hs.find? (badC m n) with
      | some b =>
        rw [hf] at caught
        exact bad ⟨g, .ref h, few, width, rs, t, m, n, rfl, .inr ⟨by omega, by omega, ht1, gt.rect, m1, n1, by omega, by omega, hs, b, hid1.i, hf, fun d H' s hd => caught (.cell b) _ _ H' (.inl rfl) s ⟨rfl, d, rfl, hd⟩⟩⟩
      | none =>
        rw [hf] at told
        refine .inl (w_callN (w_cons (w_var s8 (w_cons (w_var s9 (w_nil (w_cons (w_var s11 (w_cons (w_var s12 (w_nil ⟨rfl, rfl, ?_⟩)))))))))))
        exact ⟨g, .ref h, few, width, rs, t, m, n, hs.map natC, rfl, ht1, gt, m10, n10, by omega, by omega, hid1.in m1 n1 hf, fun H' s => told H' (ExtN.of s) (t1.ext s) rfl⟩
theorem sd_hidden {few width : Int} (s8 : σ[8]? = some (some (.ref g))) (s11 : σ[11]? = some (some (.int few))) (s12 : σ[12]? = some (some (.int width))) (ht : Tab H g rs t) (gt : Grid t m n) (m10 : m ≤ 10) (n10 : n ≤ 10) (tT : Tabs TT H)
    (q : ∀ H' a, ExtN H H' → Tabs TT H' → DueAt H' (.ref a) (fwDue few width) → Q (.ref a) H') : tLam TT (TTsaid K) (fun E σ H Q => tCallNS 1 2 (spHidC TT K) (fun vs zs => vs ++ zs) (WE fun cls d _ H => E cls d H) (tCons (tVar 8) tNil) (tCons (tVar 11) (tCons (tVar 12) tNil)) σ H Q ∨ tCallNS 1 2 (spHidE K) (fun vs zs => vs ++ zs) (WE fun cls d _ H => E cls d H) (tCons (tVar 8) tNil) (tCons (tVar 11) (tCons (tVar 12) tNil)) σ H Q) σ H Q := by
  refine said_of tT q fun H1 Q2 x1 t1 told caught => ?_
  have ht1 := (tab_ext x1 ht).gt (K := K)
  unfold fwDue at told caught
  by_cases f2 : few < 2
  · rw [if_pos f2] at caught
    refine .inr (w_callNS (w_cons (w_var s8 (w_nil (w_cons (w_var s11 (w_cons (w_var s12 (w_nil ⟨rfl, rfl, ?_⟩)))))))))
    exact ⟨g, few, width, rfl, .inl ⟨f2, fun d H' s hd => caught (.count "few" few) _ _ H' (.inl rfl) s ⟨rfl, d, rfl, hd⟩⟩⟩
  · by_cases w1 : width < 1
    · rw [if_neg f2, if_pos w1] at caught
      refine .inr (w_callNS (w_cons (w_var s8 (w_nil (w_cons (w_var s11 (w_cons (w_var s12 (w_nil ⟨rfl, rfl, ?_⟩)))))))))
      exact ⟨g, few, width, rfl, .inr ⟨by omega, w1, fun d H' s hd => caught (.count "width" width) _ _ H' (.inl rfl) s ⟨rfl, d, rfl, hd⟩⟩⟩
    · rw [if_neg f2, if_neg w1] at told caught
      refine .inl (w_callNS (w_cons (w_var s8 (w_nil (w_cons (w_var s11 (w_cons (w_var s12 (w_nil ⟨rfl, rfl, ?_⟩)))))))))
      exact ⟨g, few, width, rs, t, m, n, rfl, ht1, gt, m10, n10, by omega, by omega, t1, fun _ p H' ws x2 t2 _ _ _ => told H' x2 t2 rfl, fun cc _ d H' v s hd _ => caught (.uns v) _ _ H' (.inr ⟨rfl, v, rfl⟩) s ⟨rfl, d, rfl, hd⟩⟩
end
/-- _law_said(lambda: ..) -/
theorem pe_said {X : Cx} {TT : List (Addr × Str)} {c P : Addr} {k : Nat} {params : Arguments} {body : Expr} {scope : Scope} {t : XK → TE} {p lpos pos : Pos} (T : Tx X.K X.mg) (hg : Gl X "_law_said") (TB : TabB X.base X.mg c P) (hcode : X.env.code = .ref c)
    (hmT : (P, X.env.qual ++ "<lambda>") ∈ TT) (hu : ∀ p ∈ TT, p.1 = P → p.2 = X.env.qual ++ "<lambda>") (hr : Room (k + 2) X.A) (L : LamS X.env.scope scope) (hdef : defaultsOf params X.env = ([], []))
    (hbind : ∀ (q : Str) (cl : List (Str × Addr)) (pm cv ctv : Value), bindArgs (PySem.W.kla_fn "<lambda>" q params body scope cl pm cv ctv) ⟨[], []⟩ = pure [])
    (hbody : ∀ (A : Around) (outer : List Env) (s : Shared) (H : Hp) (E : XK) (f c' : Addr), Room k (A.deeper (lamEnv X scope s.heap.objs.size f c')) → PE (lamCx X A outer s H E scope f c') body (t E)) :
    PE X (.Call (.Name "_law_said" p) [.Lambda params body scope lpos] [] pos) (tLam TT (TTsaid X.K) t) := by
  obtain ⟨fd, F⟩ := T.f__law_said
  have b := F.bindsN (ps := ["_law_ask"]) fun _ _ _ _ _ _ us hl => match us, hl with | [_], _ => rfl
  have kp := F.kp
  obtain ⟨oc, od, dV, kV, doc, pm, an, cdv, ct, osl, rfl, lk, hcd, hD, hK⟩ := F.ex
  exact pe_lamcall (a := "_law_ask") (x := "_law_said") hg T.g__law_said kp lk hcd b sc_said rfl (.inl (by decide +kernel)) (said_gives T) TB hcode hmT hu hr L hdef hbind hbody
end K3
end X6_part
section X7_part
set_option Elab.async false
set_option linter.all false
set_option maxRecDepth 100000
set_option maxHeartbeats 1000000
set_option pp.deepTerms.threshold 5
open PySem PySem.Spec PyProof.Rows L2
/-- go on as far as nothing is open -/
local macro_rules | `(tactic| walk_at "go") => `(tactic| repeat (first
  | with_reducible refine w_seq ?_ | with_reducible refine w_next ?_ | with_reducible refine w_set ?_ | with_reducible refine w_drop ?_ | with_reducible refine w_ret ?_ | with_reducible refine w_retN ?_
  | with_reducible refine w_if ?_ | ((with_reducible refine' w_var ?hv ?_); (case hv => exact rfl)) | with_reducible refine w_c ?_ | with_reducible refine w_nil ?_ | with_reducible refine w_cons ?_ | with_reducible refine w_op ?_ | with_reducible refine w_un ?_
  | with_reducible refine w_test ?_ | with_reducible refine w_tB ?_ | with_reducible refine w_not ?_ | with_reducible refine w_and ?_ | with_reducible refine w_or ?_ | with_reducible refine w_bl ?_
  | with_reducible refine w_andV ?_ | with_reducible refine w_orV ?_ | with_reducible refine w_notV ?_ | with_reducible refine w_ifE ?_ | with_reducible refine w_chain ?_ | with_reducible refine w_i0 ?_
  | with_reducible refine w_call ?_ | with_reducible refine w_callS ?_ | with_reducible refine w_cB ?_ | with_reducible refine w_tup ?_ | with_reducible refine w_lst ?_ | with_reducible refine w_fldV ?_
  | with_reducible refine w_neF ?_ | with_reducible refine w_neT ?_ | with_reducible refine w_notN ?_ | with_reducible refine w_isN ?_ | with_reducible refine w_gname ?_ | with_reducible refine w_gsub ?_ | with_reducible refine w_asg ?_ | with_reducible refine w_sl ?_ | with_reducible refine w_noP ?_ | with_reducible refine w_int1 ?_ | with_reducible refine w_part ?_ | with_reducible refine w_yes ?_ | with_reducible refine w_nT ?_ | with_reducible refine w_nF ?_ | with_reducible refine w_iteT ?_ | with_reducible refine w_iteF ?_))
namespace K3
open SLam LamX
def rCatL (K : PySem.W.Frag) : R2 := fun x y H Q => ∃ a b xs ys, x = .ref a ∧ y = .ref b ∧ SqL K H a xs ∧ SqL K H b ys ∧ xs.length + ys.length ≤ sizeLine ∧ ∀ p, H p = none → Q (.ref p) (upd H p (.lst (xs ++ ys)))
theorem op_catL {X : Cx} : OpR X (binaryOp .Add) (rCatL X.K) := by
  intro pins s σ H x y v u Q I rx ry ⟨a, b, xs, ys, ex, ey, ha, hb, hz, q⟩
  subst ex ey
  cases rx
  cases ry
  obtain ⟨is, r1, ⟨⟨c1, d1, t1, sl1⟩, n1, g1, hc1, _, hd1⟩, _⟩ := I.list ha
  obtain ⟨js, r2, ⟨⟨c2, d2, t2, sl2⟩, n2, g2, hc2, _, hd2⟩, _⟩ := I.list hb
  simp only at hc1 hd1 hc2 hd2
  subst hc1 hd1 hc2 hd2
  have hs : is.toArray.size + js.toArray.size ≤ sizeLine := by rw [List.size_toArray, List.size_toArray, ← r1.length, ← r2.length]; exact hz
  refine concat_meets ⟨_, g1, rfl⟩ ⟨_, g2, rfl⟩ noFill_list_add seq_list_add PySem.F.slot_list_add PySem.F.entry_list_add (PySem.F.args_list_add_2 _ _) (list_addW a b is.toArray js.toArray n1 n2 d1 d2 sl1 sl2 hs) ⟨g1, g2, ?_⟩
  rw [show is.toArray ++ js.toArray = (is ++ js).toArray by simp]
  exact ⟨.ref _, _, I.lnew (t' := s.toks) (r1.append r2) (by rw [List.length_append]; exact hz), rfl, q _ I.fresh⟩
/-- all but M and the tables stay -/
def ExM (M : List Addr) (H H' : Hp) : Prop := ∀ b o, H b = some o → (∀ ps, o ≠ .tbl ps) → b ∉ M → H' b = some o
theorem ExM.trans {M : List Addr} {H H1 H2 : Hp} (p : ExM M H H1) (q : ExM M H1 H2) : ExM M H H2 := fun b o h n m => q b o (p b o h n m) n m
theorem ExM.of {M : List Addr} {H H' : Hp} (e : Same H H') : ExM M H H' := fun b o h _ _ => e b o h
theorem ExM.ext {M : List Addr} {H H' : Hp} (e : ExtN H H') : ExM M H H' := fun b o h n _ => e b o h n
theorem ExM.bm {M M' : List Addr} {H H' : Hp} (e : BM M' H H') (s : ∀ a ∈ M', a ∈ M) : ExM M H H' := fun b o h _ m => e.at h fun z => m (s b z)
theorem ExM.upd {M : List Addr} {H : Hp} {a : Addr} (h : a ∈ M) (o : HO) : ExM M H (L2.upd H a o) := fun b u hb _ m => by
  rw [upd_ne (fun z => m (by rw [z]; exact h))]
  exact hb
theorem tabs_lst {T : List (Addr × Str)} {H H' : Hp} (t : Tabs T H) (e : ∀ b o, H b = some o → (∀ xs, o ≠ .lst xs) → H' b = some o) : Tabs T H' := fun p hp => by
  obtain ⟨ps, h1, h2, h3⟩ := t p hp
  refine ⟨ps, e _ _ h1 (fun xs z => by cases z), h2, fun pos cv hc => ?_⟩
  obtain ⟨c, k1, k2⟩ := h3 pos cv hc
  exact ⟨c, k1, e _ _ k2 fun xs z => by cases z⟩
theorem tabs_bm {T : List (Addr × Str)} {s : Addr} {H H' : Hp} (hs : Sd H s) (t : Tabs T H) (e : BM [s] H H') : Tabs T H' := tabs_lst t fun b o h n => e.at h fun z => by
  obtain ⟨x, y, c, q, _⟩ := hs
  rw [List.mem_singleton.mp z, q] at h
  exact n _ (Option.some.inj h).symm
theorem tabs_upd {T : List (Addr × Str)} {a : Addr} {H : Hp} {xs : List V} (h : H a = some (.lst xs)) (o : HO) (t : Tabs T H) : Tabs T (L2.upd H a o) := tabs_lst t fun b u hb n => by
  rw [upd_ne (fun z => by rw [z, h] at hb; exact n _ (Option.some.inj hb).symm)]
  exact hb
theorem tk_bm {s : Addr} {H H' : Hp} (hs : Sd H s) (e : BM [s] H H') : Tk H H' := fun a xs h => e.at h fun z => by
  have := List.mem_singleton.mp z
  subst this
  obtain ⟨x, y, w, q, _⟩ := hs
  rw [h] at q
  cases q
theorem inner_at {t : List (List Int)} {m k i j : Nat} (hm : t.length = m) (hk : ∀ r ∈ t, r.length = k) (hi : i < m) (hj : j < k) : ∃ r, t[i]? = some r ∧ j < r.length ∧ at2 (withSums k t) i j = r.getD j 0 := by
  have hi' : i < t.length := by omega
  refine ⟨t[i], List.getElem?_eq_getElem hi', by rw [hk _ (List.getElem_mem hi')]; exact hj, ?_⟩
  have e : (withSums k t)[i]? = some (addSum t[i]) := by
    unfold withSums
    rw [List.getElem?_append_left (by rw [List.length_map]; exact hi'), List.getElem?_map, List.getElem?_eq_getElem hi']
    rfl
  rw [at2_of e]
  unfold addSum
  rw [List.getD_eq_getElem?_getD, List.getD_eq_getElem?_getD, List.getElem?_append_left (by rw [hk _ (List.getElem_mem hi')]; exact hj)]
theorem Sd.ext {H H' : Hp} {s : Addr} (h : Sd H s) (e : ExtN H H') : Sd H' s := let ⟨a, b, c, q, r⟩ := h; ⟨a, b, c, e _ _ q (fun ps z => by cases z), r⟩
theorem sql_extS {K : PySem.W.Frag} {H H1 : Hp} (e : ExtN H H1) {a : Addr} {xs : List V} (h : SqL K H a xs) : SqL K H1 a xs := sql_ext e h
structure Fr (K : PySem.W.Frag) (TT : List (Addr × Str)) (B H : Hp) (s h g : Addr) (rs : List Addr) (G : List (List Int)) (m n : Nat) (his : List (Int × Int)) (ops : List V) (ods : List (Int × Int)) : Prop where
  sd : Sd H s
  tab : Tab H g rs G
  ts : Tabs TT H
  ex : ExM [s, h] B H
  hid : HidOK K H h m n his
  od : Paired (CellI H) ops ods
  gs : g ≠ s ∧ ∀ r ∈ rs, r ≠ s
  hs : h ≠ s
section
variable {K : PySem.W.Frag} {TT : List (Addr × Str)} {B H H' : Hp} {s h g : Addr} {rs : List Addr} {G : List (List Int)} {m n : Nat} {his : List (Int × Int)} {ops : List V} {ods : List (Int × Int)}
theorem Fr.ext (F : Fr K TT B H s h g rs G m n his ops ods) (e : ExtN H H') (t : Tabs TT H') : Fr K TT B H' s h g rs G m n his ops ods :=
  ⟨F.sd.ext e, tab_ext e F.tab, t, F.ex.trans (ExM.ext e), F.hid.ext e, L2.Paired.mapP F.od fun _ _ z => z.ext e, F.gs, F.hs⟩
theorem Fr.same (F : Fr K TT B H s h g rs G m n his ops ods) (e : Same H H') : Fr K TT B H' s h g rs G m n his ops ods :=
  ⟨F.sd.same e, F.tab.same e, F.ts.ext e, F.ex.trans (ExM.of e), F.hid.ext (ExtN.of e), L2.Paired.mapP F.od fun _ _ z => z.same e, F.gs, F.hs⟩
theorem Fr.bm (F : Fr K TT B H s h g rs G m n his ops ods) (b : BM [s] H H') (sd : Sd H' s) : Fr K TT B H' s h g rs G m n his ops ods := by
  have tk := tk_bm F.sd b
  obtain ⟨ws, h1, h2, h3⟩ := F.hid
  exact ⟨sd, F.tab.bm b F.gs.1 F.gs.2, tabs_bm F.sd F.ts b, F.ex.trans (ExM.bm b fun a ha => by rw [List.mem_singleton.mp ha]; exact List.mem_cons_self ..), ⟨ws, b.at h1 (by simpa using F.hs), L2.Paired.mapP h2 fun _ _ z => z.tk tk, h3⟩, L2.Paired.mapP F.od fun _ _ z => z.tk tk, F.gs, F.hs⟩
end
theorem paired_mem {α β : Type} {F : α → β → Prop} {xs : List α} {ys : List β} (h : Paired F xs ys) {i : Nat} (hi : i < xs.length) : ∃ x y, xs[i]? = some x ∧ ys[i]? = some y ∧ F x y := by
  induction h generalizing i with
  | nil => exact absurd hi (by simp)
  | cons h t ih =>
    cases i with
    | zero => exact ⟨_, _, rfl, rfl, h⟩
    | succ i => exact ih (by simpa using hi)
theorem paired_app {α β : Type} {F : α → β → Prop} {xs xs' : List α} {ys ys' : List β} (h : Paired F xs ys) (h' : Paired F xs' ys') : Paired F (xs ++ xs') (ys ++ ys') := by
  induction h with
  | nil => exact h'
  | cons h t ih => exact .cons h ih
theorem Fr.ins {K : PySem.W.Frag} {TT : List (Addr × Str)} {B H : Hp} {s h g : Addr} {rs : List Addr} {G : List (List Int)} {m n : Nat} {his : List (Int × Int)} {ops : List V} {ods : List (Int × Int)} (F : Fr K TT B H s h g rs G m n his ops ods) {i : Nat} {ws : List V} (hh : H h = some (.lst ws)) {v : V} {c : Int × Int} (hc : CellI H v c) (hb : badC m n c = true) (len : his.length ≤ 60)
    (gh : g ≠ h) (rsh : ∀ r ∈ rs, r ≠ h) : Fr K TT B (upd H h (.lst (ws.take i ++ [v] ++ ws.drop i))) s h g rs G m n (his.take i ++ [c] ++ his.drop i) ops ods := by
  have tk : Tk H (upd H h (.lst (ws.take i ++ [v] ++ ws.drop i))) := Tk.upd hh fun xs e => by cases e
  obtain ⟨ws', h1, h2, h3, h4⟩ := F.hid
  rw [hh] at h1
  cases h1
  have tab := F.tab
  refine ⟨F.sd.upd F.hs _, ⟨by rw [upd_ne gh]; exact tab.at_, ?_⟩, tabs_upd hh _ F.ts, F.ex.trans (ExM.upd (List.mem_cons_of_mem _ (List.mem_singleton.mpr rfl)) _), ⟨_, upd_same, ?_, ?_, fun z => ?_⟩, L2.Paired.mapP F.od fun _ _ z => z.tk tk, F.gs, F.hs⟩
  · have key : ∀ {rs : List Addr} {t : List (List Int)}, Paired (RowAt H) rs t → (∀ r ∈ rs, r ≠ h) → Paired (RowAt (upd H h (.lst (ws.take i ++ [v] ++ ws.drop i)))) rs t := by
      intro rs t p
      induction p with
      | nil => intro _; exact .nil
      | cons hx t ih =>
        intro hr
        refine .cons ?_ (ih fun r z => hr r (List.mem_cons_of_mem _ z))
        show upd H h _ _ = _
        rw [upd_ne (hr _ (List.mem_cons_self ..))]
        exact hx
    exact key tab.rows rsh
  · have p0 := L2.Paired.mapP h2 fun _ _ z => CellI.tk tk z
    exact paired_app (paired_app (paired_take p0 i) (.cons (hc.tk tk) .nil)) (paired_from p0 i)
  · rw [List.length_append, List.length_append, List.length_take, List.length_drop, List.length_singleton]
    omega
  · have := List.find?_eq_none.mp z c (List.mem_append_left _ (List.mem_append_right _ (List.mem_singleton.mpr rfl)))
    rw [hb] at this
    exact absurd rfl this
theorem DueAt.tk {H H' : Hp} (e : Tk H H') {v : V} {o : Option Rf} (h : DueAt H v o) : DueAt H' v o := let ⟨a, h1, h2⟩ := h; ⟨a, h1, e _ _ h2⟩
def spLawT (TT : List (Addr × Str)) (K : PySem.W.Frag) : Sp := fun vs H Q _ => ∃ (a : Addr) (ns : List Int), vs = [.ref a] ∧ SqL K H a (ns.map V.int) ∧ ns.length ≤ 63 ∧ Tabs TT H ∧ ∀ H', Q (.bl true) H'
section
variable {P : Program} {w : World} {K : PySem.W.Frag} {mg : Str → Option Value} {base : Heap}
theorem sc_law : FnScope ["_law_script", "_law_number", "_law_s", "_law_tall", "_law_wide", "_law_odd", "_law_due", "_law_count", "_law_grid", "_law_hidden_here", "_law_place", "_law_scarce", "_law_span"] ["_law_script"] (defScope s_law) := ⟨rfl, rfl, rfl, by decide +kernel, rfl, by decide +kernel, by decide +kernel⟩
set_option maxHeartbeats 0
theorem ok_law {ct PT cl PL : Addr} {TT : List (Addr × Str)} (T : Tx K mg) (BG : Told K mg base "greatest_first" ct PT TT) (BL : Told K mg base "law" cl PL TT) {fd : FuncData} (F : FunD K "law" "law" (defArgs s_law) (defBody s_law) (defScope s_law) [] [] (He.ga K "law") fd) : FnOk P w K mg base L2.CX0 13 (He.ga K "law") fd ["_law_script"] (spLawT TT K) := by
  have O_law_digit := ok_digit (P := P) (w := w) (base := base) T
  have O_law_hidden_due := ok_hidden_due (P := P) (w := w) (base := base) T
  have O_law_cell_due := ok_cell_due (P := P) (w := w) (base := base) T
  have O_law_cells := ok_cells (P := P) (w := w) (base := base) T
  have O_law_fits_right := ok_fits_right (P := P) (w := w) (base := base) T
  have O_law_hidden := ok_hidden (P := P) (w := w) (base := base) T
  have O_law_drawn_grid := ok_drawn_grid (P := P) (w := w) (base := base) T
  have O_law_state := ok_state (P := P) (w := w) (base := base) T
  have Oreach := ok_reach (P := P) (w := w) (base := base) T
  have OEreach := okE_reach (P := P) (w := w) (base := base) T
  have Ofences := ok_fences (P := P) (w := w) (base := base) T
  have OEfences := okE_fences (P := P) (w := w) (base := base) T
  have Obound := ok_bound (P := P) (w := w) (base := base) T
  have OEbound := okE_bound (P := P) (w := w) (base := base) T
  have Ofits := ok_fits (P := P) (w := w) (base := base) T
  have OEfits := okE_fits (P := P) (w := w) (base := base) T
  have Ois_safe := ok_is_safe (P := P) (w := w) (base := base) T
  have OEis_safe := okE_is_safe (P := P) (w := w) (base := base) T
  have Ohidden_cells := ok_hidden_cells (P := P) (w := w) (base := base) T BG
  have OEhidden_cells := okE_hidden_cells (P := P) (w := w) (base := base) T
  refine F.okC (k := 12) sc_law (fun vs H Q E h => ?_) (fun A outer s_ H vs Q E hr h => ?_)
  · obtain ⟨a, ns, rfl, _⟩ := h
    rfl
  obtain ⟨a, ns, rfl, hns, h63, hT, q⟩ := h
  have hu65 := K3.Room.units65 hr
  have hu64 := Nat.lt_of_succ_lt hu65
  have r_law_digit : Room 1 _ := hr.mono (by decide)
  have r_law_hidden_due : Room 2 _ := hr.mono (by decide)
  have r_law_cell_due : Room 3 _ := hr.mono (by decide)
  have r_law_cells : Room 1 _ := hr.mono (by decide)
  have r_law_fits_right : Room 4 _ := hr.mono (by decide)
  have r_law_hidden : Room 2 _ := hr.mono (by decide)
  have r_law_drawn_grid : Room 2 _ := hr.mono (by decide)
  have r_law_state : Room 1 _ := hr.mono (by decide)
  refine ⟨_, pss_cons (ps_for (passes_of rfl) (by rfl) (pi_list (pe_slice sl_list (pe_op op_catL (pv 0) (pe_lst (pa_cons pe_int pa_nil))) po_none (po_some pe_int))) (pg_name (i := 1) sc_law.nd rfl (Or.inl rfl)) (pss_cons (ps_set (i := 2) sc_law.nd rfl (Or.inl rfl) (pe_f O_law_state r_law_state T.g__law_state (pa_cons (pv 1) pa_nil)))
      (pss_cons (ps_par (by rfl) sc_law.nd (i := 3) (j := 4) rfl rfl (by decide) rfl rfl (pa_cons (pe_op op_add pe_int (pe_f O_law_digit r_law_digit T.g__law_digit (pa_cons (pv 2) (pa_cons pe_int pa_nil)))) (pa_cons (pe_op op_add pe_int (pe_f O_law_digit r_law_digit T.g__law_digit (pa_cons (pv 2) (pa_cons pe_int pa_nil)))) pa_nil)) (by rfl))
      (pss_cons (ps_set (i := 8) sc_law.nd rfl (Or.inr rfl) (pe_f O_law_drawn_grid r_law_drawn_grid T.g__law_drawn_grid (pa_cons (pv 2) (pa_cons (pv 3) (pa_cons (pv 4) (pa_cons pe_int pa_nil))))))
      (pss_cons (ps_set (i := 9) sc_law.nd rfl (Or.inr rfl) (pe_f O_law_hidden r_law_hidden T.g__law_hidden (pa_cons (pv 2) (pa_cons (pv 8) (pa_cons pe_int pa_nil)))))
      (pss_cons (ps_set (i := 5) sc_law.nd rfl (Or.inl rfl) (pe_lst (pa_cons (pe_tup (pa_cons (pv 3) (pa_cons (pv 4) pa_nil))) (pa_cons (pe_tup (pa_cons (pe_un un_neg pe_int) (pa_cons pe_int pa_nil))) (pa_cons (pe_tup (pa_cons pe_int (pa_cons (pe_op op_add (pv 4) pe_int) pa_nil))) (pa_cons (pe_tup (pa_cons (pe_op op_add (pv 3) pe_int) (pa_cons pe_int pa_nil))) (pa_cons (pe_tup (pa_cons pe_int (pa_cons pe_int pa_nil))) (pa_cons (pe_tup (pa_cons pe_int (pa_cons (pe_un un_neg pe_int) pa_nil))) pa_nil))))))))
      (pss_cons (ps_if (pt_not (pt_val (pe_f O_law_fits_right r_law_fits_right T.g__law_fits_right (pa_cons (pv 8) (pa_cons (pv 9) pa_nil))))) (pss_one (ps_ret pe_bl)) pss_nil)
      (Evl.pss_cut (ps_if (pt_cmpR op_eq (pe_f O_law_digit r_law_digit T.g__law_digit (pa_cons (pv 2) (pa_cons pe_int pa_nil))) pe_int (nomark _)) (pss_one (ps_expr (pe_bm PySem.F.plainAttrs_list PySem.F.slot_list_insert PySem.F.type_list_insert mt_insert (pv 9) (pa_cons (pe_f O_law_digit r_law_digit T.g__law_digit (pa_cons (pv 2) (pa_cons (pe_op op_add (pe_callB call_len_seq (by rfl) T.z_len PySem.boot_len (pa_cons (pv 9) pa_nil)) pe_int) pa_nil))) (pa_cons (pe_ix ix_list (pv 5) (pe_f O_law_digit r_law_digit T.g__law_digit (pa_cons (pv 2) (pa_cons pe_int pa_nil))) (fun _ _ => rfl)) pa_nil))))) pss_nil)
      (pss_cons (ps_set (i := 10) sc_law.nd rfl (Or.inr rfl) (pe_ix ix_list (pe_op op_catL (pe_op op_catL (pv 5) (pe_slice sl_list (pv 9) po_none (po_some pe_int))) (pe_f O_law_cells r_law_cells T.g__law_cells (pa_cons (pv 8) pa_nil))) (pe_f O_law_digit r_law_digit T.g__law_digit (pa_cons (pv 2) (pa_cons (pe_op op_sub (pe_op op_add pe_int (pe_callB call_len_seq (by rfl) T.z_len PySem.boot_len (pa_cons (pe_f O_law_cells r_law_cells T.g__law_cells (pa_cons (pv 8) pa_nil)) pa_nil))) (pe_callTy call_int1 (by rfl) T.z_int (by decide +kernel) (pa_cons (pe_cmpR op_lt (pe_callB call_len_seq (by rfl) T.z_len PySem.boot_len (pa_cons (pv 9) pa_nil)) pe_int rfl) pa_nil))) pa_nil))) (fun _ _ => rfl)))
      (pss_cons (ps_set (i := 6) sc_law.nd rfl (Or.inl rfl) (pe_f O_law_cell_due r_law_cell_due T.g__law_cell_due (pa_cons (pv 8) (pa_cons (pv 9) (pa_cons (pv 10) pa_nil)))))
      (pss_cons (ps_if (pt_cmpR (op_neD hu64) (pe_said T (by rfl) BL.tab BL.code BL.mem BL.one hr (lamS_by (sc := defScope s_law) (by decide +kernel)) rfl (fun _ _ _ _ _ => rfl) (t := tAskK 2 1 (spReach K) (spAskE K) (tCons (tVar 8) (tCons (tVar 9) tNil)) (tCons (tVar 10) tNil)) (fun _ _ _ _ _ _ _ hA => by refine PE.or ?_ ?_; (exact (pe_fK (ks := ["cell"]) Oreach (hA.mono (by decide : 8 ≤ 10)) T.g_reach (pa_cons (pv 8) (pa_cons (pv 9) pa_nil)) (pk_cons (pv 10) pk_nil))); (exact (pe_fKS (ks := ["cell"]) (takes_of rfl rfl rfl rfl) OEreach (hA.mono (by decide : 5 ≤ 10)) T.g_reach (pa_cons (pv 8) (pa_cons (pv 9) pa_nil)) (pk_cons (pv 10) pk_nil))))) (pv 6) (nomark _)) (pss_one (ps_ret pe_bl)) pss_nil)
      (pss_cons (ps_if (pt_cmpR (op_neD hu64) (pe_said T (by rfl) BL.tab BL.code BL.mem BL.one hr (lamS_by (sc := defScope s_law) (by decide +kernel)) rfl (fun _ _ _ _ _ => rfl) (t := tAskK 2 1 (spFences K) (spAskE K) (tCons (tVar 8) (tCons (tVar 9) tNil)) (tCons (tVar 10) tNil)) (fun _ _ _ _ _ _ _ hA => by refine PE.or ?_ ?_; (exact (pe_fK (ks := ["cell"]) Ofences (hA.mono (by decide : 8 ≤ 10)) T.g_fences (pa_cons (pv 8) (pa_cons (pv 9) pa_nil)) (pk_cons (pv 10) pk_nil))); (exact (pe_fKS (ks := ["cell"]) (takes_of rfl rfl rfl rfl) OEfences (hA.mono (by decide : 5 ≤ 10)) T.g_fences (pa_cons (pv 8) (pa_cons (pv 9) pa_nil)) (pk_cons (pv 10) pk_nil))))) (pv 6) (nomark _)) (pss_one (ps_ret pe_bl)) pss_nil)
      (pss_cons (ps_if (pt_cmpR (op_neD hu64) (pe_said T (by rfl) BL.tab BL.code BL.mem BL.one hr (lamS_by (sc := defScope s_law) (by decide +kernel)) rfl (fun _ _ _ _ _ => rfl) (t := tAskK 2 2 (spBound K) (spBoundE K) (tCons (tVar 8) (tCons (tVar 9) tNil)) (tCons (tVar 10) (tCons tFence tNil))) (fun _ _ _ _ _ _ _ hA => by refine PE.or ?_ ?_; (exact (pe_fK (ks := ["cell", "fence"]) Obound (hA.mono (by decide : 5 ≤ 10)) T.g_bound (pa_cons (pv 8) (pa_cons (pv 9) pa_nil)) (pk_cons (pv 10) (pk_cons (pe_tup (pa_cons (pe_tup (pa_cons pe_int pa_nil)) (pa_cons (pe_tup (pa_cons pe_int pa_nil)) pa_nil))) pk_nil)))); (exact (pe_fKS (ks := ["cell", "fence"]) (takes_of rfl rfl rfl rfl) OEbound (hA.mono (by decide : 5 ≤ 10)) T.g_bound (pa_cons (pv 8) (pa_cons (pv 9) pa_nil)) (pk_cons (pv 10) (pk_cons (pe_tup (pa_cons (pe_tup (pa_cons pe_int pa_nil)) (pa_cons (pe_tup (pa_cons pe_int pa_nil)) pa_nil))) pk_nil)))))) (pv 6) (nomark _)) (pss_one (ps_ret pe_bl)) pss_nil)
      (pss_cons (ps_set (i := 6) sc_law.nd rfl (Or.inl rfl) (pe_f O_law_hidden_due r_law_hidden_due T.g__law_hidden_due (pa_cons (pv 8) (pa_cons (pv 9) pa_nil))))
      (pss_cons (ps_asg (pe_tup (pa_cons (pe_ix ix_list (pe_lst (pa_cons pe_int (pa_cons pe_int (pa_cons pe_int (pa_cons pe_int pa_nil))))) (pe_f O_law_digit r_law_digit T.g__law_digit (pa_cons (pv 2) (pa_cons pe_int pa_nil))) (fun _ _ => rfl)) (pa_cons (pe_ix ix_list (pe_lst (pa_cons pe_int (pa_cons pe_int (pa_cons pe_int (pa_cons (pe_un un_neg pe_int) pa_nil))))) (pe_f O_law_digit r_law_digit T.g__law_digit (pa_cons (pv 2) (pa_cons pe_int pa_nil))) (fun _ _ => rfl)) pa_nil))) (pg_tup (by rfl) (pgs_cons (pg_name (i := 11) sc_law.nd rfl (Or.inr rfl)) (pgs_cons (pg_name (i := 12) sc_law.nd rfl (Or.inr rfl)) pgs_nil))))
      (pss_cons (ps_set (i := 7) sc_law.nd rfl (Or.inl rfl) (pe_ix ix_list (pe_lst (pa_cons (pe_tup (pa_cons pe_str (pa_cons pe_str (pa_cons (pv 12) pa_nil)))) (pa_cons (pe_tup (pa_cons pe_str (pa_cons pe_str (pa_cons (pv 11) pa_nil)))) pa_nil))) (pe_callTy call_int1 (by rfl) T.z_int (by decide +kernel) (pa_cons (pe_cmpR op_lt (pv 11) pe_int rfl) pa_nil)) (fun _ _ => rfl)))
      (Evl.pss_cut (ps_if (pw_and (pt_cmpR op_gt (pv 11) pe_int (nomark _)) (pw_and1 (pt_cmpR op_gt (pv 12) pe_int (nomark _)))).pt (pss_one (ps_set (i := 7) sc_law.nd rfl (Or.inl rfl) (pe_tup (pa_cons pe_str pa_nil)))) pss_nil)
      (pss_cons (ps_if (pt_cmpR (op_neD hu64) (pe_said T (by rfl) BL.tab BL.code BL.mem BL.one hr (lamS_by (sc := defScope s_law) (by decide +kernel)) rfl (fun _ _ _ _ _ => rfl) (t := tAskP (spFits K) (spFitsE K) (tCons (tVar 8) (tCons (tVar 9) (tCons (tVar 8) tNil)))) (fun _ _ _ _ _ _ _ hA => by refine PE.or ?_ ?_; (exact (pe_f Ofits (hA.mono (by decide : 3 ≤ 10)) T.g_fits (pa_cons (pv 8) (pa_cons (pv 9) (pa_cons (pv 8) pa_nil))))); (exact (pe_fE (takes_of rfl rfl rfl rfl) OEfits (hA.mono (by decide : 5 ≤ 10)) T.g_fits (pa_cons (pv 8) (pa_cons (pv 9) (pa_cons (pv 8) pa_nil))))))) (pv 6) (nomark _)) (pss_one (ps_ret pe_bl)) pss_nil)
      (pss_cons (ps_if (pt_cmpR (op_neD hu64) (pe_said T (by rfl) BL.tab BL.code BL.mem BL.one hr (lamS_by (sc := defScope s_law) (by decide +kernel)) rfl (fun _ _ _ _ _ => rfl) (t := tAskK 2 2 (spSafe K) (spSafeE K) (tCons (tVar 8) (tCons (tVar 9) tNil)) (tCons (tVar 11) (tCons (tVar 12) tNil))) (fun _ _ _ _ _ _ _ hA => by refine PE.or ?_ ?_; (exact (pe_fK (ks := ["few", "width"]) Ois_safe (hA.mono (by decide : 10 ≤ 10)) T.g_is_safe (pa_cons (pv 8) (pa_cons (pv 9) pa_nil)) (pk_cons (pv 11) (pk_cons (pv 12) pk_nil)))); (exact (pe_fKS (ks := ["few", "width"]) (takes_of rfl rfl rfl rfl) OEis_safe (hA.mono (by decide : 5 ≤ 10)) T.g_is_safe (pa_cons (pv 8) (pa_cons (pv 9) pa_nil)) (pk_cons (pv 11) (pk_cons (pv 12) pk_nil)))))) (pe_ix ix_list (pe_lst (pa_cons (pv 7) (pa_cons (pv 6) pa_nil))) (pe_callTy call_int1 (by rfl) T.z_int (by decide +kernel) (pa_cons (pe_cmpR (op_eqD hu64) (pv 7) (pe_tup (pa_cons pe_str pa_nil)) rfl) pa_nil)) (fun _ _ => rfl)) (nomark _)) (pss_one (ps_ret pe_bl)) pss_nil)
      (pss_one (ps_if (pt_cmpR (op_neD hu64) (pe_said T (by rfl) BL.tab BL.code BL.mem BL.one hr (lamS_by (sc := defScope s_law) (by decide +kernel)) rfl (fun _ _ _ _ _ => rfl) (t := fun E σ H Q => tCallNS 1 2 (spHidC TT K) (fun vs zs => vs ++ zs) (WE fun cls d _ H => E cls d H) (tCons (tVar 8) tNil) (tCons (tVar 11) (tCons (tVar 12) tNil)) σ H Q ∨ tCallNS 1 2 (spHidE K) (fun vs zs => vs ++ zs) (WE fun cls d _ H => E cls d H) (tCons (tVar 8) tNil) (tCons (tVar 11) (tCons (tVar 12) tNil)) σ H Q) (fun _ _ _ _ _ _ _ hA => by refine PE.or ?_ ?_; (exact (pe_fKS (ks := ["few", "width"]) (takes_of rfl rfl rfl rfl) Ohidden_cells (hA.mono (by decide : 10 ≤ 10)) T.g_hidden_cells (pa_cons (pv 8) pa_nil) (pk_cons (pv 11) (pk_cons (pv 12) pk_nil)))); (exact (pe_fKS (ks := ["few", "width"]) (takes_of rfl rfl rfl rfl) OEhidden_cells (hA.mono (by decide : 4 ≤ 10)) T.g_hidden_cells (pa_cons (pv 8) pa_nil) (pk_cons (pv 11) (pk_cons (pv 12) pk_nil)))))) (pv 7) (nomark _)) (pss_one (ps_ret pe_bl)) pss_nil)))))))))))))))))))))
      (pss_one (ps_ret pe_bl)), ?_⟩
  walk_at "go"
  refine list_open ?_
  walk_at "go"
  refine ⟨(by show 1 ≤ sizeLine; decide), fun p1 hp1 => ?_⟩
  have e1 := Same.new hp1 (.lst [V.int 0])
  refine ⟨a, p1, _, _, rfl, rfl, e1.seq hns, SqL.of upd_same, Nat.le_trans (show (ns.map V.int).length + 1 ≤ 64 by rw [List.length_map]; omega) (by decide), fun p2 hp2 => ?_⟩
  walk_at "go"
  refine ⟨p2, _, rfl, SqL.of upd_same, fun p3 hp3 => ?_⟩
  have hx2 : ∀ x ∈ cutV (ns.map V.int ++ [V.int 0]) none (some 8), ∃ c, x = V.int c := fun x hx => by
    rcases List.mem_append.mp (cut_mem hx) with hx | hx
    · obtain ⟨c, _, rfl⟩ := List.mem_map.mp hx
      exact ⟨c, rfl⟩
    · exact ⟨0, List.mem_singleton.mp hx⟩
  generalize cutV (ns.map V.int ++ [V.int 0]) none (some 8) = cells at hp3 hx2 ⊢
  have h3 : (upd (upd (upd H p1 (.lst [V.int 0])) p2 (.lst (ns.map V.int ++ [V.int 0]))) p3 (.lst cells)) p3 = some (.lst cells) := upd_same
  have e03 : Same H (upd (upd (upd H p1 (.lst [V.int 0])) p2 (.lst (ns.map V.int ++ [V.int 0]))) p3 (.lst cells)) := e1.trans ((Same.new hp2 _).trans (Same.new hp3 _))
  have hT0 := hT.ext e03
  generalize upd (upd (upd H p1 (.lst [V.int 0])) p2 (.lst (ns.map V.int ++ [V.int 0]))) p3 (.lst cells) = H0 at h3 hT0 ⊢
  clear e1 hns hp3 hp2 hp1 hT e03
  refine ⟨p3, rfl, ⟨_, SqL.of h3⟩, ?_⟩
  refine for_list (xs := cells) (fun (i : Nat) σ H' => ∃ o1 o2 o3 o4 o5 o6 o7 o8 o9 o10 o11 o12 : Option V, σ = [some (.ref a), o1, o2, o3, o4, o5, o6, o7, o8, o9, o10, o11, o12] ∧ ExtN H0 H' ∧ Tabs TT H')
    ⟨none, none, none, none, none, none, none, none, none, none, none, none, rfl, ExtN.of (Same.refl _), hT0⟩ (fun i σ H' _ ⟨_, _, _, _, _, _, _, _, _, _, _, _, _, e, _⟩ => SqL.of (e _ _ h3 fun ps z => by cases z)) ?_ ?_
  · rintro i x σ H1 hxi ⟨o1, o2, o3, o4, o5, o6, o7, o8, o9, o10, o11, o12, rfl, eN1, tT1⟩
    obtain ⟨c, rfl⟩ := hx2 x (List.mem_of_getElem? hxi)
    walk_at "go"
    refine ⟨c, rfl, fun s H2 hs1 e2 s2 => ?_⟩
    walk_at "go"
    refine w_par ?_
    walk_at "go"
    refine ⟨s, 3, rfl, s2, by decide, by decide, fun r1 H3 r11 b3 s3 => ?_⟩
    walk_at "go"
    refine ⟨s, 3, rfl, s3, by decide, by decide, fun r2 H4 r21 b4 s4 => ?_⟩
    walk_at "go"
    refine ⟨_, _, rfl, ?_⟩
    dsimp only
    rw [show (1 : Int) + (r1 : Int) = ((1 + r1 : Nat) : Int) by omega, show (1 : Int) + (r2 : Int) = ((1 + r2 : Nat) : Int) by omega]
    have m1 : 1 ≤ 1 + r1 := by omega
    have m2 : 1 + r1 ≤ 3 := by omega
    have k1 : 1 ≤ 1 + r2 := by omega
    have k3 : 1 + r2 ≤ 3 := by omega
    generalize 1 + r1 = m at m1 m2 ⊢
    generalize 1 + r2 = k at k1 k3 ⊢
    have b24 := b3.trans b4
    walk_at "go"
    refine ⟨s, m, k, 5, rfl, s4, m1, by omega, k1, by omega, by omega, by omega, fun g H6 rs t b6 s6 new6 tab6 lt hk => ?_⟩
    have gG : Grid (withSums k t) (m + 1) (k + 1) := fit_grid (by omega) (by omega) (fit_self (fun r hr => ⟨(hk r hr).1, fun x hx => ((hk r hr).2 x hx).1⟩) lt [])
    have small : at2 (withSums k t) 0 0 < 1000 := by
      obtain ⟨r, hr0, hj, e⟩ := inner_at (i := 0) (j := 0) lt (fun r hr => (hk r hr).1) (by omega) (by omega)
      rw [e, List.getD_eq_getElem?_getD, List.getElem?_eq_getElem hj]
      have := ((hk r (List.mem_of_getElem? hr0)).2 _ (List.getElem_mem hj)).2
      show r[0] < 1000
      omega
    have gs : g ≠ s := src_ne s4.src new6.p0
    have rss : ∀ r ∈ rs, r ≠ s := fun r hr => src_ne s4.src (new6.rs0 r hr)
    have b26 := b24.trans b6
    generalize withSums k t = G at gG tab6 small
    have rect := gG.rect
    walk_at "go"
    refine ⟨s, g, rs, G, m + 1, k + 1, 2, rfl, s6, ⟨gs, rss⟩, tab6, rect, by omega, by omega, by omega, by omega, fun h H7 wh hs h0 b7 s7 hh hw mem hne len => ?_⟩
    have hsN : h ≠ s := src_ne s6.src h0
    have gh : g ≠ h := ne_of_none tab6.at_ h0
    have rsh : ∀ r ∈ rs, r ≠ h := fun r hr => by
      obtain ⟨i, hi⟩ := List.getElem?_of_mem hr
      obtain ⟨row, _, hrow⟩ := K3.Paired.get tab6.rows hi
      exact ne_of_none hrow h0
    have h2 : H2 h = none := b26.free h0
    have fin : ∀ H', ExM [s, h] H2 H' → ExtN H1 H' := fun H' e b o hb nt => e b o (e2 b o hb) nt fun hm => by
      rcases List.mem_cons.mp hm with z | z
      · rw [z, hs1] at hb
        cases hb
      · have := e2 b o hb
        rw [List.mem_singleton.mp z, h2] at this
        cases this
    have A7 : ExM [s, h] H2 H7 := ExM.bm (b26.trans b7) fun a ha => by rw [List.mem_singleton.mp ha]; exact List.mem_cons_self ..
    have tT7 : Tabs TT H7 := tabs_bm s2 (tT1.ext e2) (b26.trans b7)
    have tab7 := tab6.bm b7 gs rss
    have hidn : ∀ {H' : Hp}, Same H7 H' → HidIn K H' (.ref h) hs (m + 1) (k + 1) := fun e => ⟨h, wh, rfl, .inl (SqL.of (e _ _ hh)), L2.Paired.mapP hw fun _ _ z => CellAt.same e z, mem, len⟩
    clear b3 b4 b6 b24 b26 b7 s3 s4 s6 s2 tab6 new6 lt hk h0 r11 r21 e2 hs1 tT1
    walk_at "go"
    refine ⟨(by show 2 ≤ sizeLine; decide), fun q1 hq1 => ?_⟩
    have f1 := Same.new hq1 (.tup [V.int (m : Int), .int (k : Int)])
    have c1 : CellI (upd H7 q1 (.tup [V.int (m : Int), .int (k : Int)])) (.ref q1) ((m : Int), (k : Int)) := ⟨q1, rfl, upd_same⟩
    generalize upd H7 q1 (.tup [V.int (m : Int), .int (k : Int)]) = G1 at f1 c1 ⊢
    walk_at "go"
    refine ⟨_, rfl, ?_⟩
    walk_at "go"
    refine ⟨(by show 2 ≤ sizeLine; decide), fun q2 hq2 => ?_⟩
    have f2 := Same.new hq2 (.tup [V.int (-1), .int 0])
    have c2 : CellI (upd G1 q2 (.tup [V.int (-1), .int 0])) (.ref q2) (-1, 0) := ⟨q2, rfl, upd_same⟩
    generalize upd G1 q2 (.tup [V.int (-1), .int 0]) = G2 at f2 c2 ⊢
    walk_at "go"
    refine ⟨(by show 2 ≤ sizeLine; decide), fun q3 hq3 => ?_⟩
    have f3 := Same.new hq3 (.tup [V.int 0, .int ((k : Int) + 1)])
    have c3 : CellI (upd G2 q3 (.tup [V.int 0, .int ((k : Int) + 1)])) (.ref q3) (0, (k : Int) + 1) := ⟨q3, rfl, upd_same⟩
    generalize upd G2 q3 (.tup [V.int 0, .int ((k : Int) + 1)]) = G3 at f3 c3 ⊢
    walk_at "go"
    refine ⟨(by show 2 ≤ sizeLine; decide), fun q4 hq4 => ?_⟩
    have f4 := Same.new hq4 (.tup [V.int ((m : Int) + 1), .int 0])
    have c4 : CellI (upd G3 q4 (.tup [V.int ((m : Int) + 1), .int 0])) (.ref q4) ((m : Int) + 1, 0) := ⟨q4, rfl, upd_same⟩
    generalize upd G3 q4 (.tup [V.int ((m : Int) + 1), .int 0]) = G4 at f4 c4 ⊢
    walk_at "go"
    refine ⟨(by show 2 ≤ sizeLine; decide), fun q5 hq5 => ?_⟩
    have f5 := Same.new hq5 (.tup [V.int 9, .int 9])
    have c5 : CellI (upd G4 q5 (.tup [V.int 9, .int 9])) (.ref q5) (9, 9) := ⟨q5, rfl, upd_same⟩
    generalize upd G4 q5 (.tup [V.int 9, .int 9]) = G5 at f5 c5 ⊢
    walk_at "go"
    refine ⟨_, rfl, ?_⟩
    walk_at "go"
    refine ⟨(by show 2 ≤ sizeLine; decide), fun q6 hq6 => ?_⟩
    have f6 := Same.new hq6 (.tup [V.int 0, .int (-1)])
    have c6 : CellI (upd G5 q6 (.tup [V.int 0, .int (-1)])) (.ref q6) (0, -1) := ⟨q6, rfl, upd_same⟩
    generalize upd G5 q6 (.tup [V.int 0, .int (-1)]) = G6 at f6 c6 ⊢
    walk_at "go"
    refine ⟨(by show 6 ≤ sizeLine; decide), fun po hpo => ?_⟩
    have f7 := Same.new hpo (.lst [V.ref q1, .ref q2, .ref q3, .ref q4, .ref q5, .ref q6])
    have hpo7 : (upd G6 po (.lst [V.ref q1, .ref q2, .ref q3, .ref q4, .ref q5, .ref q6])) po = some (.lst [V.ref q1, .ref q2, .ref q3, .ref q4, .ref q5, .ref q6]) := upd_same
    have e78 := (((((f1.trans f2).trans f3).trans f4).trans f5).trans f6).trans f7
    have odd : Paired (CellI (upd G6 po (.lst [V.ref q1, .ref q2, .ref q3, .ref q4, .ref q5, .ref q6]))) [V.ref q1, .ref q2, .ref q3, .ref q4, .ref q5, .ref q6] [((m : Int), (k : Int)), (-1, 0), (0, (k : Int) + 1), ((m : Int) + 1, 0), (9, 9), (0, -1)] :=
      .cons ((((((c1.same f2).same f3).same f4).same f5).same f6).same f7) (.cons (((((c2.same f3).same f4).same f5).same f6).same f7) (.cons ((((c3.same f4).same f5).same f6).same f7) (.cons (((c4.same f5).same f6).same f7) (.cons ((c5.same f6).same f7) (.cons (c6.same f7) .nil)))))
    have s8 := s7.same e78
    have poh : po ≠ h := (ne_of_none ((((((f1.trans f2).trans f3).trans f4).trans f5).trans f6) _ _ hh) hpo).symm
    have pos : po ≠ s := src_ne (s7.same (((((f1.trans f2).trans f3).trans f4).trans f5).trans f6)).src hpo
    generalize upd G6 po (.lst [V.ref q1, .ref q2, .ref q3, .ref q4, .ref q5, .ref q6]) = H8 at e78 odd hpo7 s8 ⊢
    have lodd : ([V.ref q1, .ref q2, .ref q3, .ref q4, .ref q5, .ref q6] : List V).length = 6 := rfl
    have bad : ∀ c ∈ [((m : Int), (k : Int)), (-1, 0), (0, (k : Int) + 1), ((m : Int) + 1, 0), (9, 9), (0, -1)], badC (m + 1) (k + 1) c = true := by
      intro c hc
      have out : ∀ {c : Int × Int}, ¬ inB (m + 1) (k + 1) c → badC (m + 1) (k + 1) c = true := fun {c} h => by
        unfold badC
        rw [decide_eq_false h]
        rfl
      simp only [List.mem_cons, List.not_mem_nil, or_false] at hc
      rcases hc with rfl | rfl | rfl | rfl | rfl | rfl
      · have z : natC ((m : Int), (k : Int)) = (m + 1 - 1, k + 1 - 1) := by unfold natC; simp
        unfold badC
        rw [decide_eq_true z, Bool.or_true]
      all_goals
        refine out fun z => ?_
        unfold inB at z
        dsimp only at z
        omega
    generalize [V.ref q1, .ref q2, .ref q3, .ref q4, .ref q5, .ref q6] = ops at odd hpo7 lodd ⊢
    generalize [((m : Int), (k : Int)), (-1, 0), (0, (k : Int) + 1), ((m : Int) + 1, 0), (9, 9), (0, -1)] = ods at odd bad ⊢
    clear f1 f2 f3 f4 f5 f6 f7 c1 c2 c3 c4 c5 c6 hq1 hq2 hq3 hq4 hq5 hq6 hpo
    walk_at "go"
    refine ⟨g, .ref h, rs, G, m + 1, k + 1, hs, rfl, tab7.same e78, gG, by omega, by omega, by omega, by omega, small, hidn e78, fun H9 e9 => ?_⟩
    walk_at "go"
    have e79 := e78.trans e9
    have F0 : Fr K TT H2 H9 s h g rs G (m + 1) (k + 1) (hs.map fun c => ((c.1 : Int), (c.2 : Int))) ops ods := by
      refine ⟨s8.same e9, tab7.same e79, tT7.ext e79, A7.trans (ExM.of e79), ⟨wh, e79 _ _ hh, ?_, by rw [List.length_map]; omega, fun _ => by rw [List.length_map]; exact len⟩, L2.Paired.mapP odd fun _ _ z => z.same e9, ⟨gs, rss⟩, hsN⟩
      have key : ∀ {ws : List V} {hs : List (Nat × Nat)}, Paired (CellAt H7) ws hs → Paired (CellI H9) ws (hs.map fun c => ((c.1 : Int), (c.2 : Int))) := by
        intro ws hs p
        induction p with
        | nil => exact .nil
        | cons h t ih =>
          obtain ⟨a, e, h⟩ := h
          exact .cons ⟨a, e, e79 _ _ h⟩ ih
      exact key hw
    have hpo9 := e9 _ _ hpo7
    have len0 : 0 < hs.length := List.length_pos_iff.mpr hne
    have lenH : (hs.map fun c => ((c.1 : Int), (c.2 : Int))).length = hs.length := List.length_map ..
    generalize (hs.map fun c => ((c.1 : Int), (c.2 : Int))) = his0 at F0 lenH
    clear e78 e9 e79 hidn odd hpo7 s8 hh hw mem tab7 A7 tT7 s7
    refine Evl.q_cut (M := fun σ' H' => σ' = [some (.ref a), some (.int c), some (.ref s), some (.int (m : Int)), some (.int (k : Int)), some (.ref po), o6, o7, some (.ref g), some (.ref h), o10, o11, o12] ∧ H' po = some (.lst ops) ∧ ∃ his, Fr K TT H2 H' s h g rs G (m + 1) (k + 1) his ops ods ∧ 0 < his.length) ?_ ?_
    · walk_at "go"
      refine ⟨s, 3, rfl, F0.sd, by decide, by decide, fun r3 H10 r31 b10 s10 => ?_⟩
      have F1 := F0.bm b10 s10
      have hpo10 := b10.at hpo9 (by simpa using pos)
      walk_at "go"
      refine w_eqI ?_
      cases hz : decide (V.int (r3 : Int) = V.int 0) with
      | false =>
        walk_at "go"
        exact ⟨rfl, hpo10, his0, F1, by omega⟩
      | true =>
        walk_at "go"
        obtain ⟨ws, w1, w2, _⟩ := F1.hid
        have lw := w2.length
        refine ⟨_, rfl, .inl ⟨rfl, _, SqL.of w1⟩, ?_⟩
        walk_at "go"
        refine ⟨h, _, rfl, .inl (SqL.of w1), ?_⟩
        walk_at "go"
        refine ⟨s, (ws.length : Int) + 1, rfl, F1.sd, by omega, Int.lt_of_le_of_lt (show (ws.length : Int) + 1 ≤ 61 by omega) (by decide), fun r4 H11 r41 b11 s11 => ?_⟩
        have F2 := F1.bm b11 s11
        have w11 := b11.at w1 (by simpa using hsN)
        have hpo11 := b11.at hpo10 (by simpa using pos)
        walk_at "go"
        refine ⟨s, 6, rfl, F2.sd, by decide, by decide, fun r5 H12 r51 b12 s12 => ?_⟩
        have F3 := F2.bm b12 s12
        have w12 := b12.at w11 (by simpa using hsN)
        have hpo12 := b12.at hpo11 (by simpa using pos)
        obtain ⟨v, cc, hv, hcc, hvc⟩ := paired_mem F3.od (i := r5) (by omega)
        walk_at "go"
        refine w_ixL hpo12 (atI_nat hv) ?_
        walk_at "go"
        refine ⟨h, ws, (r4 : Int), v, rfl, rfl, w12, Nat.lt_of_le_of_lt (show ws.length ≤ 100 by omega) (by decide), by omega, Int.lt_of_le_of_lt (show (r4 : Int) ≤ 61 by omega) (by decide), ?_⟩
        walk_at "go"
        exact ⟨rfl, by rw [upd_ne poh]; exact hpo12, _, F3.ins w12 hvc (bad _ (List.mem_of_getElem? hcc)) (by omega) gh rsh, by rw [List.length_append, List.length_append]; simp only [List.length_singleton]; omega⟩
    rintro σ' H10 ⟨rfl, hpo10, his, F10, l0⟩
    clear F0 hpo9 lenH len0 bad
    have hm4 : m + 1 ≤ 4 := by omega
    have hk4 : k + 1 ≤ 4 := by omega
    obtain ⟨ws, w1, w2, w3, _⟩ := id F10.hid
    have lw := w2.length
    walk_at "go"
    refine ⟨h, ws, rfl, SqL.of w1, fun pa hpa => ?_⟩
    rw [show (some (2 : Int)) = some (((2 : Nat)) : Int) from rfl, cut_to]
    have f1 := Same.new hpa (.lst (ws.take 2))
    have hpa1 : (upd H10 pa (.lst (ws.take 2))) pa = some (.lst (ws.take 2)) := upd_same
    generalize upd H10 pa (.lst (ws.take 2)) = H11 at f1 hpa1 ⊢
    walk_at "go"
    have lt2 : (ws.take 2).length = min 2 ws.length := List.length_take ..
    refine ⟨po, pa, _, _, rfl, rfl, SqL.of (f1 _ _ hpo10), SqL.of hpa1, Nat.le_trans (show ops.length + (ws.take 2).length ≤ 8 by omega) (by decide), fun pb hpb => ?_⟩
    have f2 := Same.new hpb (.lst (ops ++ ws.take 2))
    have hpb1 : (upd H11 pb (.lst (ops ++ ws.take 2))) pb = some (.lst (ops ++ ws.take 2)) := upd_same
    generalize upd H11 pb (.lst (ops ++ ws.take 2)) = H12 at f2 hpb1 ⊢
    have F12 := (F10.same f1).same f2
    walk_at "go"
    refine ⟨g, rs, G, m + 1, k + 1, rfl, F12.tab, rect, by omega, by omega, by omega, fun pc H13 wc f3 _ hpc hwc => ?_⟩
    have F13 := F12.same f3
    have lwc := hwc.length
    have lcc : (cellsOf (m + 1) (k + 1)).dropLast.length ≤ 16 := by
      rw [List.length_dropLast, cells_len]
      have := Nat.mul_le_mul hm4 hk4
      omega
    walk_at "go"
    refine ⟨pb, pc, _, _, rfl, rfl, SqL.of (f3 _ _ hpb1), SqL.of hpc, Nat.le_trans (show (ops ++ ws.take 2).length + wc.length ≤ 24 by rw [List.length_append]; omega) (by decide), fun pd hpd => ?_⟩
    have f4 := Same.new hpd (.lst (ops ++ ws.take 2 ++ wc))
    have hpd1 : (upd H13 pd (.lst (ops ++ ws.take 2 ++ wc))) pd = some (.lst (ops ++ ws.take 2 ++ wc)) := upd_same
    generalize upd H13 pd (.lst (ops ++ ws.take 2 ++ wc)) = H14 at f4 hpd1 ⊢
    have F14 := F13.same f4
    have w14 := f4 _ _ (f3 _ _ (f2 _ _ (f1 _ _ w1)))
    have pds : pd ≠ s := src_ne F13.sd.src hpd
    have all : Paired (CellI H14) (ops ++ ws.take 2 ++ wc) (ods ++ his.take 2 ++ (cellsOf (m + 1) (k + 1)).dropLast.map fun c => ((c.1 : Int), (c.2 : Int))) := by
      refine paired_app (paired_app F14.od (paired_take (L2.Paired.mapP w2 fun _ _ z => (((z.same f1).same f2).same f3).same f4) 2)) ?_
      have key : ∀ {ws : List V} {hs : List (Nat × Nat)}, Paired (CellAt H13) ws hs → Paired (CellI H14) ws (hs.map fun c => ((c.1 : Int), (c.2 : Int))) := by
        intro ws hs p
        induction p with
        | nil => exact .nil
        | cons h t ih =>
          obtain ⟨a, e, h⟩ := h
          exact .cons ⟨a, e, f4 _ _ h⟩ ih
      exact key hwc
    have lall : (ops ++ ws.take 2 ++ wc).length = 6 + min 2 ws.length + wc.length := by rw [List.length_append, List.length_append]; omega
    generalize ops ++ ws.take 2 ++ wc = xs at hpd1 all lall
    clear f1 f2 f3 hpa hpb hpa1 hpb1 hpc hwc hpd F10 F12 F13 w1 hpo10
    walk_at "go"
    refine ⟨g, rs, G, m + 1, k + 1, rfl, F14.tab, rect, by omega, by omega, by omega, fun pc H15 wc' f5 _ hpc hwc => ?_⟩
    have F15 := F14.same f5
    have lwc' := hwc.length
    walk_at "go"
    refine ⟨pc, _, rfl, .inl (SqL.of hpc), ?_⟩
    walk_at "go"
    refine ⟨h, ws, rfl, .inl (SqL.of (f5 _ _ w14)), ?_⟩
    walk_at "go"
    refine .inr ⟨_, rfl, ?_⟩
    walk_at "go"
    have idx : (8 : Int) + (wc'.length : Int) - (if decide ((ws.length : Int) < 2) = true then 1 else 0) = ((xs.length : Nat) : Int) := by
      by_cases z : (ws.length : Int) < 2
      · rw [decide_eq_true z, if_pos rfl]; omega
      · rw [decide_eq_false z, if_neg (by decide)]; omega
    refine ⟨s, _, rfl, F15.sd, ?_, ?_, fun r6 H16 r61 b16 s16 => ?_⟩
    · rw [idx]; omega
    · rw [idx]
      exact Int.lt_of_le_of_lt (show ((xs.length : Nat) : Int) ≤ 30 by omega) (by decide)
    rw [idx] at r61
    have F16 := F15.bm b16 s16
    have hpd16 := b16.at (f5 _ _ hpd1) (by simpa using pds)
    obtain ⟨v, cc, hv, _, hvc⟩ := paired_mem (L2.Paired.mapP all fun _ _ z => (z.same f5).tk (tk_bm F15.sd b16)) (i := r6) (by omega)
    walk_at "go"
    refine w_ixL hpd16 (atI_nat hv) ?_
    walk_at "go"
    clear idx hv hpd16 hpd1 all lall f5 hpc hwc lwc' r61 b16 s16 F14 F15 w14 pds f4
    refine ⟨g, .ref h, v, rs, G, m + 1, k + 1, his, cc, rfl, F16.tab, rect, by omega, by omega, by omega, by omega, F16.hid.i, hvc, fun H17 d1 e17 due => ?_⟩
    have F17 := F16.same e17
    have hvc17 := hvc.same e17
    have cok : Rf.ok (cellDue (m + 1) (k + 1) his cc) := by
      unfold cellDue
      cases his.find? (badC (m + 1) (k + 1)) with
      | some b => trivial
      | none =>
        dsimp only
        split
        · split <;> trivial
        · trivial
    have hok : Rf.ok (hidDue (m + 1) (k + 1) his) := by
      unfold hidDue
      cases his.find? (badC (m + 1) (k + 1)) <;> trivial
    clear F16 hvc e17
    walk_at "go"
    refine sd_reach rfl rfl rfl F17.tab gG (by omega) (by omega) F17.hid hvc17 F17.ts fun H18 a18 x18 t18 d18 => ?_
    have F18 := F17.ext x18 t18
    walk_at "go"
    refine ⟨_, _, d18.dp, (due.ext x18).dp, (due_shape cok).1, (due_shape cok).1, ?_⟩
    rw [(due_shape cok).2]
    walk_at "go"
    refine sd_fences rfl rfl rfl F18.tab gG (by omega) (by omega) F18.hid (hvc17.ext x18) F18.ts fun H19 a19 x19 t19 d19 => ?_
    have F19 := F18.ext x19 t19
    have x1819 := x18.trans x19
    walk_at "go"
    refine ⟨_, _, d19.dp, (due.ext x1819).dp, (due_shape cok).1, (due_shape cok).1, ?_⟩
    rw [(due_shape cok).2]
    walk_at "go"
    refine sd_bound rfl rfl rfl F19.tab gG (by omega) (by omega) F19.hid (hvc17.ext x1819) F19.ts fun H20 a20 x20 t20 d20 => ?_
    have F20 := F19.ext x20 t20
    walk_at "go"
    refine ⟨_, _, d20.dp, (due.ext (x1819.trans x20)).dp, (due_shape cok).1, (due_shape cok).1, ?_⟩
    rw [(due_shape cok).2]
    walk_at "go"
    clear F17 F18 F19 x18 x19 x1819 x20 d18 d19 d20 t18 t19 t20 due hvc17 cok
    refine ⟨g, .ref h, rs, G, m + 1, k + 1, his, rfl, F20.tab, rect, by omega, by omega, by omega, by omega, F20.hid.i, fun H21 d2 e21 due => ?_⟩
    have F21 := F20.same e21
    clear F20 e21
    walk_at "go"
    refine ⟨(by show 4 ≤ sizeLine; decide), fun pe hpe => ?_⟩
    have f1 := Same.new hpe (.lst [V.int 2, .int 3, .int 1, .int 0])
    have g1 : (upd H21 pe (.lst [V.int 2, .int 3, .int 1, .int 0])) pe = some (.lst [V.int 2, .int 3, .int 1, .int 0]) := upd_same
    have pes : pe ≠ s := src_ne F21.sd.src hpe
    generalize upd H21 pe (.lst [V.int 2, .int 3, .int 1, .int 0]) = H22 at f1 g1 ⊢
    have F22 := F21.same f1
    walk_at "go"
    refine ⟨s, 4, rfl, F22.sd, by decide, by decide, fun r7 H23 r71 b23 s23 => ?_⟩
    have F23 := F22.bm b23 s23
    have due23 := (due.same f1).tk (tk_bm F22.sd b23)
    obtain ⟨few, hfew⟩ : ∃ few : Int, [V.int 2, V.int 3, V.int 1, V.int 0][r7]? = some (.int few) := by
      obtain rfl | rfl | rfl | rfl : r7 = 0 ∨ r7 = 1 ∨ r7 = 2 ∨ r7 = 3 := by omega
      · exact ⟨2, rfl⟩
      · exact ⟨3, rfl⟩
      · exact ⟨1, rfl⟩
      · exact ⟨0, rfl⟩
    walk_at "go"
    refine w_ixL (b23.at g1 (by simpa using pes)) (atI_nat hfew) ?_
    walk_at "go"
    refine ⟨_, rfl, ?_⟩
    walk_at "go"
    refine ⟨(by show 4 ≤ sizeLine; decide), fun pf hpf => ?_⟩
    have f2 := Same.new hpf (.lst [V.int 1, .int 2, .int 0, .int (-3)])
    have g2 : (upd H23 pf (.lst [V.int 1, .int 2, .int 0, .int (-3)])) pf = some (.lst [V.int 1, .int 2, .int 0, .int (-3)]) := upd_same
    have pfs : pf ≠ s := src_ne F23.sd.src hpf
    generalize upd H23 pf (.lst [V.int 1, .int 2, .int 0, .int (-3)]) = H24 at f2 g2 ⊢
    have F24 := F23.same f2
    walk_at "go"
    refine ⟨s, 4, rfl, F24.sd, by decide, by decide, fun r8 H25 r81 b25 s25 => ?_⟩
    have F25 := F24.bm b25 s25
    have due25 := (due23.same f2).tk (tk_bm F24.sd b25)
    obtain ⟨width, hwidth⟩ : ∃ width : Int, [V.int 1, V.int 2, V.int 0, V.int (-3)][r8]? = some (.int width) := by
      obtain rfl | rfl | rfl | rfl : r8 = 0 ∨ r8 = 1 ∨ r8 = 2 ∨ r8 = 3 := by omega
      · exact ⟨1, rfl⟩
      · exact ⟨2, rfl⟩
      · exact ⟨0, rfl⟩
      · exact ⟨-3, rfl⟩
    walk_at "go"
    refine w_ixL (b25.at g2 (by simpa using pfs)) (atI_nat hwidth) ?_
    walk_at "go"
    refine ⟨(by show 2 ≤ sizeLine; decide), fun pt hpt => ?_⟩
    have f3 := Same.new hpt (.tup [V.int few, .int width])
    have g3 : (upd H25 pt (.tup [V.int few, .int width])) pt = some (.tup [V.int few, .int width]) := upd_same
    generalize upd H25 pt (.tup [V.int few, .int width]) = H26 at f3 g3 ⊢
    have F26 := F25.same f3
    have due26 := due25.same f3
    refine w_gtup (SqT.of g3) rfl (w_gnn ?_)
    dsimp only
    clear F21 F22 F23 F24 F25 due due23 due25 f1 f2 f3 g1 g2 g3 b23 b25 s23 s25 hpe hpf hpt pes pfs hfew hwidth r71 r81
    walk_at "go"
    refine ⟨(by show 3 ≤ sizeLine; decide), fun ta hta => ?_⟩
    have f1 := Same.new hta (.tup [V.str ("badcount" : Str), .str ("width" : Str), .int width])
    have g1 : (upd H26 ta (.tup [V.str ("badcount" : Str), .str ("width" : Str), .int width])) ta = some (.tup [V.str ("badcount" : Str), .str ("width" : Str), .int width]) := upd_same
    generalize upd H26 ta (.tup [V.str ("badcount" : Str), .str ("width" : Str), .int width]) = H27 at f1 g1 ⊢
    walk_at "go"
    refine ⟨(by show 3 ≤ sizeLine; decide), fun tb htb => ?_⟩
    have f2 := Same.new htb (.tup [V.str ("badcount" : Str), .str ("few" : Str), .int few])
    have g2 : (upd H27 tb (.tup [V.str ("badcount" : Str), .str ("few" : Str), .int few])) tb = some (.tup [V.str ("badcount" : Str), .str ("few" : Str), .int few]) := upd_same
    generalize upd H27 tb (.tup [V.str ("badcount" : Str), .str ("few" : Str), .int few]) = H28 at f2 g2 ⊢
    walk_at "go"
    refine ⟨(by show 2 ≤ sizeLine; decide), fun tc htc => ?_⟩
    have f3 := Same.new htc (.lst [V.ref ta, .ref tb])
    have g3 : (upd H28 tc (.lst [V.ref ta, .ref tb])) tc = some (.lst [V.ref ta, .ref tb]) := upd_same
    generalize upd H28 tc (.lst [V.ref ta, .ref tb]) = H29 at f3 g3 ⊢
    have f13 := (f1.trans f2).trans f3
    have F29 := F26.same f13
    have due29 := due26.same f13
    have ga := f3 _ _ (f2 _ _ g1)
    have gb := f3 _ _ g2
    walk_at "go"
    refine .inr ⟨_, rfl, ?_⟩
    clear f1 f2 f3 g1 g2 hta htb htc F26 due26 f13
    obtain ⟨tv, htv, cnt⟩ : ∃ tv : Addr, atI [V.ref ta, V.ref tb] (if decide (few < 2) = true then 1 else 0) = some (.ref tv) ∧ (¬ (2 ≤ few ∧ 1 ≤ width) → DueAt H29 (.ref tv) (fwDue few width)) := by
      unfold fwDue
      by_cases z : few < 2
      · rw [decide_eq_true z, if_pos rfl, if_pos z]
        exact ⟨tb, rfl, fun _ => ⟨tb, rfl, gb⟩⟩
      · rw [decide_eq_false z, if_neg (by decide), if_neg z]
        refine ⟨ta, rfl, fun y => ?_⟩
        rw [if_pos (by omega : width < 1)]
        exact ⟨ta, rfl, ga⟩
    refine w_ixL g3 htv ?_
    walk_at "go"
    refine Evl.q_cut (M := fun σ' H' => ∃ tw : Addr, σ' = [some (.ref a), some (.int c), some (.ref s), some (.int (m : Int)), some (.int (k : Int)), some (.ref po), some d2, some (.ref tw), some (.ref g), some (.ref h), some v, some (.int few), some (.int width)] ∧ Same H29 H' ∧ DueAt H' (.ref tw) (fwDue few width)) ?_ ?_
    · walk_at "go"
      by_cases z1 : 1 < few
      case neg =>
        rw [decide_eq_false z1]
        walk_at "go"
        exact ⟨tv, rfl, Same.refl _, cnt fun z => z1 (by omega)⟩
      rw [decide_eq_true z1]
      walk_at "go"
      by_cases z2 : 0 < width
      case neg =>
        rw [decide_eq_false z2]
        walk_at "go"
        exact ⟨tv, rfl, Same.refl _, cnt fun z => z2 (by omega)⟩
      rw [decide_eq_true z2]
      walk_at "go"
      refine ⟨(by show 1 ≤ sizeLine; decide), fun td htd => ?_⟩
      refine ⟨td, rfl, Same.new htd _, td, rfl, ?_⟩
      unfold fwDue
      rw [if_neg (by omega), if_neg (by omega)]
      exact upd_same
    rintro σ' H30 ⟨tw, rfl, e30, cnt30⟩
    have F30 := F29.same e30
    have due30 := due29.same e30
    clear F29 due29 cnt e30 ga gb g3 htv
    have wok : Rf.ok (fwDue few width) := by
      unfold fwDue
      split
      · exact .inl rfl
      · split
        · exact .inr rfl
        · trivial
    walk_at "go"
    refine sd_fits rfl rfl F30.tab gG (by omega) (by omega) F30.hid F30.ts fun H31 a31 x31 t31 d31 => ?_
    have F31 := F30.ext x31 t31
    walk_at "go"
    refine ⟨_, _, d31.dp, (due30.ext x31).dp, (due_shape hok).1, (due_shape hok).1, ?_⟩
    rw [(due_shape hok).2]
    walk_at "go"
    refine sd_safe rfl rfl rfl rfl F31.tab gG (by omega) (by omega) F31.hid F31.ts fun H32 a32 x32 t32 d32 => ?_
    have F32 := F31.ext x32 t32
    have due32 := (due30.ext x31).ext x32
    have cnt32 := (cnt30.ext x31).ext x32
    walk_at "go"
    refine ⟨(by show 2 ≤ sizeLine; decide), fun tl htl => ?_⟩
    have f1 := Same.new htl (.lst [V.ref tw, d2])
    have g1 : (upd H32 tl (.lst [V.ref tw, d2])) tl = some (.lst [V.ref tw, d2]) := upd_same
    generalize upd H32 tl (.lst [V.ref tw, d2]) = H33 at f1 g1 ⊢
    walk_at "go"
    refine ⟨(by show 1 ≤ sizeLine; decide), fun te hte => ?_⟩
    have f2 := Same.new hte (.tup [V.str ("told" : Str)])
    have te2 : DueAt (upd H33 te (.tup [V.str ("told" : Str)])) (.ref te) none := ⟨te, rfl, upd_same⟩
    generalize upd H33 te (.tup [V.str ("told" : Str)]) = H34 at f2 te2 ⊢
    have f12 := f1.trans f2
    refine ⟨_, _, (cnt32.same f12).dp, te2.dp, (due_shape wok).1, (due_shape (o := none) trivial).1, ?_⟩
    walk_at "go"
    refine .inr ⟨_, rfl, ?_⟩
    have eqn : PyData.eqv (dueD (fwDue few width)) (dueD none) = decide (fwDue few width = none) := by
      unfold fwDue
      by_cases z1 : few < 2
      · rw [if_pos z1, decide_eq_false (fun z => by cases z)]
        unfold dueD
        simp [PyData.eqv, PyData.eqvAll]
      · rw [if_neg z1]
        by_cases z2 : width < 1
        · rw [if_pos z2, decide_eq_false (fun z => by cases z)]
          unfold dueD
          simp [PyData.eqv, PyData.eqvAll]
        · rw [if_neg z2, decide_eq_true rfl]
          exact (due_shape (o := none) trivial).2
    obtain ⟨pk, hpk, dpk, ok⟩ : ∃ pk : V, atI [V.ref tw, d2] (if PyData.eqv (dueD (fwDue few width)) (dueD none) = true then 1 else 0) = some pk ∧ DueAt H34 pk (if fwDue few width = none then hidDue (m + 1) (k + 1) his else fwDue few width) ∧ Rf.ok (if fwDue few width = none then hidDue (m + 1) (k + 1) his else fwDue few width) := by
      rw [eqn]
      by_cases z : fwDue few width = none
      · rw [decide_eq_true z, if_pos rfl, if_pos z]
        exact ⟨d2, rfl, due32.same f12, hok⟩
      · rw [decide_eq_false z, if_neg (by decide), if_neg z]
        exact ⟨.ref tw, rfl, cnt32.same f12, wok⟩
    refine w_ixL (f2 _ _ g1) hpk ?_
    refine ⟨_, _, (d32.same f12).dp, dpk.dp, (due_shape ok).1, (due_shape ok).1, ?_⟩
    rw [(due_shape ok).2]
    have F34 := F32.same f12
    have cnt34 := cnt32.same f12
    walk_at "go"
    refine sd_hidden rfl rfl rfl F34.tab gG (by omega) (by omega) F34.ts fun H35 a35 x35 t35 d35 => ?_
    have F35 := F34.ext x35 t35
    walk_at "go"
    refine ⟨_, _, d35.dp, (cnt34.ext x35).dp, (due_shape wok).1, (due_shape wok).1, ?_⟩
    rw [(due_shape wok).2]
    walk_at "go"
    exact ⟨_, _, _, _, _, _, _, _, _, _, _, _, rfl, eN1.trans (fin _ F35.ex), F35.ts⟩
  · rintro σ H1 ⟨o1, o2, o3, o4, o5, o6, o7, o8, o9, o10, o11, o12, rfl, eN1, tT1⟩
    walk_at "go"
    exact q H1
end
end K3
end X7_part
section M1_part
set_option Elab.async false
set_option linter.all false
set_option maxRecDepth 100000
set_option maxHeartbeats 0
namespace K3
open PySem PySem.Spec PyProof.Rows L2
open SLam LamX
theorem walk_ofTsE {l : PySem.W.OpenLaw} {n k : Nat} {q : Program} {loose : List Str} {XP : (Str → Option Value) → Heap → Prop} {YP : World → Heap → Prop} {d : DefRec} {CX : CXT} {x : Str}
    (hn : l.most = some n) (hn2 : n ≤ sizeLine) (hdf : d.params.defaults = []) (hr : Room k callerA)
    (F : ∀ (w : World) (mg : Str → Option Value) (fa : Addr) (h : Heap), YP w h → h.Ns mainGlobals mg → mg d.name = some (.ref fa) → ∃ K : PySem.W.Frag, K.In h ∧ LawAtS l w K CX k n x mg fa h)
    (hCX : ∀ (H : Hp) (s : Shared) (e : Value) (s' : Shared), CX [] H s (fun _ _ _ => False) e s' → False) :
    PySem.W.WalkO q loose XP YP l.row.toRowW d [] (fun f vs => PySem.call f vs) := by
  refine Att.attach_callB hn hdf fun w s₀ s₁ mg mb fa o pm cd doc a vs ns G Y ho hd hcd hmg hobj hints hlen hbits hg => ?_
  obtain ⟨K, KX, fd, cs, sp, hT, nT, C, hb, hsp, hF⟩ := F w mg fa _ Y G.T.g hmg
  exact law_callTs KX G.T.g G.T.b G.T.builtins G.T.nolimit hg hT nT C G.T.bmain hobj hints (Nat.le_trans hlen hn2) hr hF hb (fun H hH hS => hsp H a ns hlen hbits hH hS) fun H e s' => hCX H s₁ e s'
def tT (K : PySem.W.Frag) : List (Addr × Str) := [((He.cT K ("greatest_first", none)).2, "greatest_first.<locals>.<lambda>"), ((He.cT K ("law", none)).2, "law.<locals>.<lambda>")]
theorem code_of {K : PySem.W.Frag} {x : Str} {prm : Arguments} {bd : List Stmt} {sc : Scope} {dvs : List V} {kws : List (Str × V)} {fd : FuncData} (F : FunD K x x prm bd sc dvs kws (He.ga K x) fd) : codeOf K (He.ga K x) = .ref (He.codeOf K (x, none)) := by
  obtain ⟨_, _, _, _, _, _, _, cdv, _, _, rfl, lk, cd, _, _⟩ := F.ex
  obtain ⟨c, e⟩ := He.codeIn_ref cd
  subst e
  rw [He.codeOf_eq (p := (x, none)) lk rfl]
  unfold codeOf
  rw [lk]
theorem toldG {K : PySem.W.Frag} {mg : Str → Option Value} {base : Heap} (T : Tx K mg) (ne : ¬ (He.cT K ("greatest_first", none)).2 = (He.cT K ("law", none)).2) (tb : TabB base mg (He.cT K ("greatest_first", none)).1 (He.cT K ("greatest_first", none)).2) : Told K mg base "greatest_first" (He.cT K ("greatest_first", none)).1 (He.cT K ("greatest_first", none)).2 (tT K) := by
  obtain ⟨fd, F⟩ := T.f_greatest_first
  refine ⟨code_of F, tb, List.mem_cons_self .., fun p hp e => ?_⟩
  rcases List.mem_cons.mp hp with z | z
  · rw [z]
    rfl
  · rw [List.mem_singleton.mp z] at e
    exact absurd e.symm ne
theorem toldL {K : PySem.W.Frag} {mg : Str → Option Value} {base : Heap} (T : Tx K mg) (ne : ¬ (He.cT K ("greatest_first", none)).2 = (He.cT K ("law", none)).2) (tb : TabB base mg (He.cT K ("law", none)).1 (He.cT K ("law", none)).2) : Told K mg base "law" (He.cT K ("law", none)).1 (He.cT K ("law", none)).2 (tT K) := by
  obtain ⟨fd, F⟩ := T.f_law
  refine ⟨code_of F, tb, List.mem_cons_of_mem _ (List.mem_singleton.mpr rfl), fun p hp e => ?_⟩
  rcases List.mem_cons.mp hp with z | z
  · rw [z] at e
    exact absurd e ne
  · rw [List.mem_singleton.mp z]
    rfl
theorem facts {l : PySem.W.OpenLaw} {w : World} {K : PySem.W.Frag} {h : Heap} {mg : Str → Option Value} {f : Addr} (X : K.In h) (G : h.Ns mainGlobals mg) (hfa : mg ("law" : Str) = some (.ref f)) (c : He.SaysX D.fa D.fn [] tf ex2 w h K) :
    LawAtS l w K L2.CX0 13 63 "_law_script" mg f h := by
  obtain ⟨e1, e2⟩ := and2 c.more
  have ne : ¬ (He.cT K ("greatest_first", none)).2 = (He.cT K ("law", none)).2 := fun z => by
    unfold sepB at e2
    rw [decide_eq_true z] at e2
    cases e2
  have T : Tx K mg := ⟨c.t.d, e1, h, X, G⟩
  obtain ⟨fd, F⟩ := T.f_law
  have e2 := hfa.symm.trans T.g_law
  cases e2
  have b := FunD.bindsA (ps := ["_law_script"]) F fun _ _ _ _ _ _ us hl => match us, hl with | [_], _ => rfl
  have at_ : ∀ p ∈ [He.cT K ("greatest_first", none), He.cT K ("law", none)], ∃ d ∈ tf, p = He.cT K d := fun p hp => by
    rcases List.mem_cons.mp hp with z | z
    · exact ⟨("greatest_first", none), List.mem_cons_self .., z⟩
    · exact ⟨("law", none), List.mem_cons_of_mem _ (List.mem_singleton.mpr rfl), List.mem_singleton.mp z⟩
  refine ⟨fd, [He.cT K ("greatest_first", none), He.cT K ("law", none)], spLawT (tT K) K, fun p hp => ?_, fun p hp => ?_, fun p hp => ?_, fun s v => b s [v] rfl, fun H a ns hl _ hH hS => ⟨a, ns, rfl, hS, hl, ?_, fun _ => rfl⟩,
    fun base _ _ tb => ok_law T (toldG T ne (tb _ (List.mem_cons_self ..))) (toldL T ne (tb _ (List.mem_cons_of_mem _ (List.mem_singleton.mpr rfl)))) F⟩
  · obtain ⟨d, hd, rfl⟩ := at_ p hp
    exact c.empty _ hd
  · obtain ⟨d, hd, rfl⟩ := at_ p hp
    exact c.out _ hd
  · obtain ⟨d, hd, rfl⟩ := at_ p hp
    exact PySem.W.codeHd_of_K X (c.hd _ hd)
  · intro p hp
    rcases List.mem_cons.mp hp with z | z
    · rw [z]
      exact TabS.nil (hH _ (List.mem_cons_self ..))
    · rw [List.mem_singleton.mp z]
      exact TabS.nil (hH _ (List.mem_cons_of_mem _ (List.mem_singleton.mpr rfl)))
end K3
open PySem PySem.W PySem.Calls PyProof.Rows
theorem PySem.Challenge.cw_skiphall_k33_what_fences_refuse_holds : PySem.Challenge.rw_skiphall_k33_what_fences_refuse.Holds := by
  w_on; o_law
  refine HandSHeadRun.head_any (r := OpenLaw.row PySem.Challenge.rw_skiphall_k33_what_fences_refuse) (q := K3.qv) (H := K3.hk2) (ob := K3.ob2) (M := 8000) (loose := K3.loose) (d := HandSHeadRun.topDef (OpenLaw.row PySem.Challenge.rw_skiphall_k33_what_fences_refuse).prog 59) (kwd := []) K3.ob_eq2
    (by kernel_rfl) (fun s => by kernel_rfl) K3.run (by kernel_rfl) (by kernel_rfl) (by kernel_rfl) (by rfl) (by first | assumption | decide +kernel) (by decide +kernel) ⟨rfl, rfl, rfl, rfl, rfl, by decide +kernel⟩ ?hw ?hc
  case hw => w_witness2
  case hc =>
    refine K3.walk_ofTsE (l := PySem.Challenge.rw_skiphall_k33_what_fences_refuse) (n := 63) (k := 13) (x := "_law_script") (CX := L2.CX0) rfl (by decide) (by kernel_rfl) ⟨rfl, by decide, by decide⟩ ?F (fun _ _ _ _ z => z)
    intro w mg fa h Y G hmg0
    obtain ⟨K, KX, c⟩ := Y
    have hmg : mg ("law" : PySem.Str) = some (.ref fa) := by
      have e : (HandSHeadRun.topDef (OpenLaw.row PySem.Challenge.rw_skiphall_k33_what_fences_refuse).prog 59).name = ("law" : PySem.Str) := by kernel_rfl
      rw [← e]
      exact hmg0
    exact ⟨K, KX, K3.facts KX G hmg c⟩
end M1_part
