import PyProof.Rows.All
import Wide.All
import OpenK.AllK
import Wide.FinOn
import KE.KStateDown
import HandS.Base
import HandS.Call
import HandS.Ends
import HandS.More
import HandS.Words
import HandS.WordsExc
import HandS.Defaults
import HandS.Head0
import HandS.Head1
import HandS.Head2
import HandS.HeadEnd
import HandS.HeadHook1
import HandS.HeadHook2
import HandS.ExcInit
import HandS.ExcField
import HandS.ExcIs
import PySem.Challenge.RW_skiphall_k34_hidden_cells_by_the_rule
import HandS.HeadHook4
import HandS.ForMost
import HandS.ForExc
import HandS.Walk
import HandS.IsInst
import HandS.TupAny
import HandS.MakeKwOnly
import HandS.DictComp
import HandS.SetKeys
import HandS.Flow
import PyProof.StrBlock2
import HandS.Wide
import PyProof.NeKinds
import KE.SortKeyHeap
import HandS.Lambda
import HandS.SortKw
import HandS.Keys
import PyProof.Rows.InDataRows
import HandS.TupSets
import HandS.Evl
import HandS.Style
import KE.KTupSum
import PyProof.DictMoreH
import KE.KDictDisplayH
import PyProof.DictTable
import PyProof.ListIndex
import KE.DataFind
import KE.SortData
import HandS.Deep
import HandS.ExcOwn
import HandS.TryOnly
import KE.KExcIs
import HandS.SortRule
import HandS.EndTab
section H0_part
set_option Elab.async false
set_option linter.all false
set_option maxRecDepth 100000
set_option maxHeartbeats 0
namespace K3
open PySem PySem.Spec PyProof.Rows L2
def top (i : Nat) : Stmt := PySem.Challenge.pw_skiphall_k34_hidden_cells_by_the_rule.main.body.getD i (.Pass ⟨0, 0, 0, 0⟩)
abbrev s_HallError_told : Stmt := inClass (top 1) 0
abbrev s_BadCount_init : Stmt := inClass (top 2) 0
abbrev s_BadCount_told : Stmt := inClass (top 2) 1
abbrev s_NoFit_init : Stmt := inClass (top 3) 0
abbrev s_NoFit_told : Stmt := inClass (top 3) 1
abbrev s_NoCell_init : Stmt := inClass (top 4) 0
abbrev s_NoCell_told : Stmt := inClass (top 4) 1
abbrev s_Unsafe_init : Stmt := inClass (top 5) 0
abbrev s_Unsafe_told : Stmt := inClass (top 5) 1
abbrev s_cells_of : Stmt := top 7
abbrev s_all_but_last : Stmt := top 8
abbrev s_last_cell : Stmt := top 9
abbrev s_number_at : Stmt := top 10
abbrev s_read_hidden : Stmt := top 11
abbrev s_refuse_no_cell : Stmt := top 12
abbrev s_refuse_shown : Stmt := top 13
abbrev s_arc_of : Stmt := top 14
abbrev s_Flow_init : Stmt := inClass (top 16) 0
abbrev s_Flow_number_now : Stmt := inClass (top 16) 1
abbrev s_Flow_change : Stmt := inClass (top 16) 2
abbrev s_least_flow : Stmt := top 17
abbrev s_most_flow : Stmt := top 18
abbrev s_steps_of : Stmt := top 19
abbrev s_pushed : Stmt := top 20
abbrev s_ways_from : Stmt := top 21
abbrev s_way_to : Stmt := top 22
abbrev s_is_safe : Stmt := top 26
abbrev s_hidden_cells : Stmt := top 27
abbrev s_refuse_few_and_width : Stmt := top 28
abbrev s_secret_cells : Stmt := top 29
abbrev s_greatest_first : Stmt := top 30
abbrev s_first_unsafe : Stmt := top 31
abbrev s_reach_width : Stmt := top 32
abbrev s_reach : Stmt := top 34
abbrev s__law_cell_at : Stmt := top 36
abbrev s__law_state : Stmt := top 37
abbrev s__law_digit : Stmt := top 38
abbrev s__law_summed : Stmt := top 39
abbrev s__law_cells : Stmt := top 40
abbrev s__law_hidden : Stmt := top 41
abbrev s__law_drawn_grid : Stmt := top 42
abbrev s__law_great_grid : Stmt := top 43
abbrev s__law_secret : Stmt := top 44
abbrev s__law_first_near : Stmt := top 45
abbrev s__law_due : Stmt := top 46
abbrev s__law_found : Stmt := top 47
abbrev s__law_changed_right : Stmt := top 48
abbrev s__law_great_right : Stmt := top 49
abbrev s_law : Stmt := top 50
namespace D
def d_HallError_told : He.DefD := ⟨("HallError", some "told"), "told", "HallError.told", defArgs s_HallError_told, defBody s_HallError_told, defScope s_HallError_told, [], []⟩
def d_BadCount_init : He.DefD := ⟨("BadCount", some "__init__"), "__init__", "BadCount.__init__", defArgs s_BadCount_init, defBody s_BadCount_init, defScope s_BadCount_init, [], []⟩
def d_BadCount_told : He.DefD := ⟨("BadCount", some "told"), "told", "BadCount.told", defArgs s_BadCount_told, defBody s_BadCount_told, defScope s_BadCount_told, [], []⟩
def d_NoFit_init : He.DefD := ⟨("NoFit", some "__init__"), "__init__", "NoFit.__init__", defArgs s_NoFit_init, defBody s_NoFit_init, defScope s_NoFit_init, [], []⟩
def d_NoFit_told : He.DefD := ⟨("NoFit", some "told"), "told", "NoFit.told", defArgs s_NoFit_told, defBody s_NoFit_told, defScope s_NoFit_told, [], []⟩
def d_NoCell_init : He.DefD := ⟨("NoCell", some "__init__"), "__init__", "NoCell.__init__", defArgs s_NoCell_init, defBody s_NoCell_init, defScope s_NoCell_init, [], []⟩
def d_NoCell_told : He.DefD := ⟨("NoCell", some "told"), "told", "NoCell.told", defArgs s_NoCell_told, defBody s_NoCell_told, defScope s_NoCell_told, [], []⟩
def d_Unsafe_init : He.DefD := ⟨("Unsafe", some "__init__"), "__init__", "Unsafe.__init__", defArgs s_Unsafe_init, defBody s_Unsafe_init, defScope s_Unsafe_init, [], []⟩
def d_Unsafe_told : He.DefD := ⟨("Unsafe", some "told"), "told", "Unsafe.told", defArgs s_Unsafe_told, defBody s_Unsafe_told, defScope s_Unsafe_told, [], []⟩
def d_cells_of : He.DefD := ⟨("cells_of", none), "cells_of", "cells_of", defArgs s_cells_of, defBody s_cells_of, defScope s_cells_of, [], []⟩
def d_all_but_last : He.DefD := ⟨("all_but_last", none), "all_but_last", "all_but_last", defArgs s_all_but_last, defBody s_all_but_last, defScope s_all_but_last, [], []⟩
def d_last_cell : He.DefD := ⟨("last_cell", none), "last_cell", "last_cell", defArgs s_last_cell, defBody s_last_cell, defScope s_last_cell, [], []⟩
def d_number_at : He.DefD := ⟨("number_at", none), "number_at", "number_at", defArgs s_number_at, defBody s_number_at, defScope s_number_at, [], []⟩
def d_read_hidden : He.DefD := ⟨("read_hidden", none), "read_hidden", "read_hidden", defArgs s_read_hidden, defBody s_read_hidden, defScope s_read_hidden, [], []⟩
def d_refuse_no_cell : He.DefD := ⟨("refuse_no_cell", none), "refuse_no_cell", "refuse_no_cell", defArgs s_refuse_no_cell, defBody s_refuse_no_cell, defScope s_refuse_no_cell, [], []⟩
def d_refuse_shown : He.DefD := ⟨("refuse_shown", none), "refuse_shown", "refuse_shown", defArgs s_refuse_shown, defBody s_refuse_shown, defScope s_refuse_shown, [], []⟩
def d_arc_of : He.DefD := ⟨("arc_of", none), "arc_of", "arc_of", defArgs s_arc_of, defBody s_arc_of, defScope s_arc_of, [], []⟩
def d_Flow_init : He.DefD := ⟨("Flow", some "__init__"), "__init__", "Flow.__init__", defArgs s_Flow_init, defBody s_Flow_init, defScope s_Flow_init, [], []⟩
def d_Flow_number_now : He.DefD := ⟨("Flow", some "number_now"), "number_now", "Flow.number_now", defArgs s_Flow_number_now, defBody s_Flow_number_now, defScope s_Flow_number_now, [], []⟩
def d_Flow_change : He.DefD := ⟨("Flow", some "change"), "change", "Flow.change", defArgs s_Flow_change, defBody s_Flow_change, defScope s_Flow_change, [], []⟩
def d_least_flow : He.DefD := ⟨("least_flow", none), "least_flow", "least_flow", defArgs s_least_flow, defBody s_least_flow, defScope s_least_flow, [], []⟩
def d_most_flow : He.DefD := ⟨("most_flow", none), "most_flow", "most_flow", defArgs s_most_flow, defBody s_most_flow, defScope s_most_flow, [], []⟩
def d_steps_of : He.DefD := ⟨("steps_of", none), "steps_of", "steps_of", defArgs s_steps_of, defBody s_steps_of, defScope s_steps_of, [], []⟩
def d_pushed : He.DefD := ⟨("pushed", none), "pushed", "pushed", defArgs s_pushed, defBody s_pushed, defScope s_pushed, [], []⟩
def d_ways_from : He.DefD := ⟨("ways_from", none), "ways_from", "ways_from", defArgs s_ways_from, defBody s_ways_from, defScope s_ways_from, [], []⟩
def d_way_to : He.DefD := ⟨("way_to", none), "way_to", "way_to", defArgs s_way_to, defBody s_way_to, defScope s_way_to, [], []⟩
def d_is_safe : He.DefD := ⟨("is_safe", none), "is_safe", "is_safe", defArgs s_is_safe, defBody s_is_safe, defScope s_is_safe, [], []⟩
def d_hidden_cells : He.DefD := ⟨("hidden_cells", none), "hidden_cells", "hidden_cells", defArgs s_hidden_cells, defBody s_hidden_cells, defScope s_hidden_cells, [], []⟩
def d_refuse_few_and_width : He.DefD := ⟨("refuse_few_and_width", none), "refuse_few_and_width", "refuse_few_and_width", defArgs s_refuse_few_and_width, defBody s_refuse_few_and_width, defScope s_refuse_few_and_width, [], []⟩
def d_secret_cells : He.DefD := ⟨("secret_cells", none), "secret_cells", "secret_cells", defArgs s_secret_cells, defBody s_secret_cells, defScope s_secret_cells, [], []⟩
def d_greatest_first : He.DefD := ⟨("greatest_first", none), "greatest_first", "greatest_first", defArgs s_greatest_first, defBody s_greatest_first, defScope s_greatest_first, [], []⟩
def d_first_unsafe : He.DefD := ⟨("first_unsafe", none), "first_unsafe", "first_unsafe", defArgs s_first_unsafe, defBody s_first_unsafe, defScope s_first_unsafe, [], []⟩
def d_reach_width : He.DefD := ⟨("reach_width", none), "reach_width", "reach_width", defArgs s_reach_width, defBody s_reach_width, defScope s_reach_width, [], []⟩
def d_reach : He.DefD := ⟨("reach", none), "reach", "reach", defArgs s_reach, defBody s_reach, defScope s_reach, [], []⟩
def d__law_cell_at : He.DefD := ⟨("_law_cell_at", none), "_law_cell_at", "_law_cell_at", defArgs s__law_cell_at, defBody s__law_cell_at, defScope s__law_cell_at, [], []⟩
def d__law_state : He.DefD := ⟨("_law_state", none), "_law_state", "_law_state", defArgs s__law_state, defBody s__law_state, defScope s__law_state, [], []⟩
def d__law_digit : He.DefD := ⟨("_law_digit", none), "_law_digit", "_law_digit", defArgs s__law_digit, defBody s__law_digit, defScope s__law_digit, [], []⟩
def d__law_summed : He.DefD := ⟨("_law_summed", none), "_law_summed", "_law_summed", defArgs s__law_summed, defBody s__law_summed, defScope s__law_summed, [], []⟩
def d__law_cells : He.DefD := ⟨("_law_cells", none), "_law_cells", "_law_cells", defArgs s__law_cells, defBody s__law_cells, defScope s__law_cells, [], []⟩
def d__law_hidden : He.DefD := ⟨("_law_hidden", none), "_law_hidden", "_law_hidden", defArgs s__law_hidden, defBody s__law_hidden, defScope s__law_hidden, [], []⟩
def d__law_drawn_grid : He.DefD := ⟨("_law_drawn_grid", none), "_law_drawn_grid", "_law_drawn_grid", defArgs s__law_drawn_grid, defBody s__law_drawn_grid, defScope s__law_drawn_grid, [], []⟩
def d__law_great_grid : He.DefD := ⟨("_law_great_grid", none), "_law_great_grid", "_law_great_grid", defArgs s__law_great_grid, defBody s__law_great_grid, defScope s__law_great_grid, [], []⟩
def d__law_secret : He.DefD := ⟨("_law_secret", none), "_law_secret", "_law_secret", defArgs s__law_secret, defBody s__law_secret, defScope s__law_secret, [], []⟩
def d__law_first_near : He.DefD := ⟨("_law_first_near", none), "_law_first_near", "_law_first_near", defArgs s__law_first_near, defBody s__law_first_near, defScope s__law_first_near, [], []⟩
def d__law_due : He.DefD := ⟨("_law_due", none), "_law_due", "_law_due", defArgs s__law_due, defBody s__law_due, defScope s__law_due, [], []⟩
def d__law_found : He.DefD := ⟨("_law_found", none), "_law_found", "_law_found", defArgs s__law_found, defBody s__law_found, defScope s__law_found, [], []⟩
def d__law_changed_right : He.DefD := ⟨("_law_changed_right", none), "_law_changed_right", "_law_changed_right", defArgs s__law_changed_right, defBody s__law_changed_right, defScope s__law_changed_right, [], []⟩
def d__law_great_right : He.DefD := ⟨("_law_great_right", none), "_law_great_right", "_law_great_right", defArgs s__law_great_right, defBody s__law_great_right, defScope s__law_great_right, [], []⟩
def d_law : He.DefD := ⟨("law", none), "law", "law", defArgs s_law, defBody s_law, defScope s_law, [], []⟩
def fn : List He.DefD := [d_HallError_told, d_BadCount_init, d_BadCount_told, d_NoFit_init, d_NoFit_told, d_NoCell_init, d_NoCell_told, d_Unsafe_init, d_Unsafe_told, d_cells_of, d_all_but_last, d_last_cell, d_number_at, d_read_hidden, d_refuse_no_cell, d_refuse_shown, d_arc_of, d_Flow_init, d_Flow_number_now, d_Flow_change, d_least_flow, d_most_flow, d_steps_of, d_pushed, d_ways_from, d_way_to, d_is_safe, d_hidden_cells, d_refuse_few_and_width, d_secret_cells, d_greatest_first, d_first_unsafe, d_reach_width, d_reach, d__law_cell_at, d__law_state, d__law_digit, d__law_summed, d__law_cells, d__law_hidden, d__law_drawn_grid, d__law_great_grid, d__law_secret, d__law_first_near, d__law_due, d__law_found, d__law_changed_right, d__law_great_right, d_law]
def fa : List He.Fa := [.glo "HallError",
  .keep "HallError",
  .glo "BadCount",
  .keep "BadCount",
  .glo "NoFit",
  .keep "NoFit",
  .glo "NoCell",
  .keep "NoCell",
  .glo "Unsafe",
  .keep "Unsafe",
  .glo "cells_of",
  .glo "all_but_last",
  .glo "last_cell",
  .glo "number_at",
  .glo "read_hidden",
  .glo "refuse_no_cell",
  .glo "refuse_shown",
  .glo "arc_of",
  .glo "Flow",
  .keep "Flow",
  .glo "least_flow",
  .glo "most_flow",
  .glo "steps_of",
  .glo "pushed",
  .glo "ways_from",
  .glo "way_to",
  .int "LEAST_FEW" 2,
  .int "LEAST_WIDTH" 1,
  .glo "is_safe",
  .glo "hidden_cells",
  .glo "refuse_few_and_width",
  .glo "secret_cells",
  .glo "greatest_first",
  .glo "first_unsafe",
  .glo "reach_width",
  .glo "reach",
  .glo "_law_cell_at",
  .glo "_law_state",
  .glo "_law_digit",
  .glo "_law_summed",
  .glo "_law_cells",
  .glo "_law_hidden",
  .glo "_law_drawn_grid",
  .glo "_law_great_grid",
  .glo "_law_secret",
  .glo "_law_first_near",
  .glo "_law_due",
  .glo "_law_found",
  .glo "_law_changed_right",
  .glo "_law_great_right",
  .glo "law",
  .free "abs",
  .free "int",
  .free "len",
  .free "list",
  .free "max",
  .free "min",
  .free "range",
  .free "set",
  .free "sorted",
  .free "sum",
  .free "tuple",
  .noat "BadCount" "what",
  .noat "BadCount" "count",
  .meth "BadCount" "__init__",
  .noat "NoFit" "name",
  .meth "NoFit" "__init__",
  .noat "NoCell" "row",
  .noat "NoCell" "column",
  .meth "NoCell" "__init__",
  .noat "Unsafe" "cell",
  .meth "Unsafe" "__init__",
  .cls "Flow",
  .mkr "Flow",
  .noat "Flow" "cell",
  .noat "Flow" "numbers",
  .noat "Flow" "steps",
  .meth "Flow" "__init__",
  .meth "Flow" "number_now",
  .meth "Flow" "change"]
end D
/-! ### what an own exception class with its __init__ says -/
def oexB (K : PySem.W.Frag) (C : Addr) : Bool := (match K.lookup C with
  | some ⟨.type "type", _, .cls cd, sl⟩ => (match cd.mro, sl.toList with
    | .ref C' :: bm, [_, _, _, _, some (.builtin n), _] => C' == C && (n == "ValueError.__new__" && (!cd.hasDel && (cd.hasDict && PySem.HandSPX.refsVE bm)))
    | _, _ => false)
  | _ => false) && (eqB (PySem.W.findIn K (.ref C) "__setattr__") (some (some (.builtin "object.__setattr__"))) && (eqB (PySem.W.subIn K (.ref C) (.type "BaseException")) (some true) && (eqB (PySem.W.typeIn K (.ref C)) (some (.type "type")) && PySem.W.keepIn K (.ref C))))
where eqB {α : Type} [DecidableEq α] (a b : α) : Bool := decide (a = b)
/-! done -/
end K3
end H0_part
section HX_part
set_option Elab.async false
set_option linter.all false
set_option maxRecDepth 100000
set_option maxHeartbeats 0
namespace K3
open PySem PySem.Spec PyProof.Rows L2
/-! ### further facts of the written part, as Bools: what is raised -/
def eqB {α : Type} [DecidableEq α] (a b : α) : Bool := decide (a = b)
theorem eqB_ok {α : Type} [DecidableEq α] {a b : α} (h : eqB a b = true) : a = b := of_decide_eq_true h
def kclsB (K : PySem.W.Frag) (C : Addr) : Bool := eqB (PySem.W.findIn K (.ref C) "__class__") (some (some (.builtin "object.__class__"))) && eqB (PySem.W.mroIn K C (.type "object")) (some true)
def oexcB (K : PySem.W.Frag) (C : Addr) : Bool := match K.lookup C with
  | some ⟨.type "type", _, .cls cd, sl⟩ => (match cd.mro, sl.toList with
    | .ref C' :: bm, [_, _, _, _, some (.builtin n), _] => C' == C && (n == "ValueError.__new__" && (!cd.hasDel && (cd.hasDict && PySem.HandSPX.refsVE bm)))
    | _, _ => false)
  | _ => false
def excB (K : PySem.W.Frag) (C : Addr) : Bool := oexcB K C && (eqB (PySem.W.findIn K (.ref C) "__setattr__") (some (some (.builtin "object.__setattr__"))) && (eqB (PySem.W.typeIn K (.ref C)) (some (.type "type")) && (PySem.W.keepIn K (.ref C) && xfB K C)))
def ex (K : PySem.W.Frag) : Bool := excB K (He.ga K "Unsafe") && (kclsB K (He.ga K "Unsafe") && eqB (PySem.W.exmOne K (.ref (He.ga K "Unsafe")) (.ref (He.ga K "Unsafe"))) (some true))
def tf : List He.Defn := [(("greatest_first" : Str), none)]
abbrev hk : PySem.W.Hook := He.hookX 4 D.fa D.fn [] tf ex
def ob (s : PySem.W.SharedT) : He.AlX := He.obsX 4 D.fa D.fn [] tf ex (HandSHeadRun.getT s)
theorem ob_eq (s : PySem.W.SharedT) : ob s = hk.obs s.abs := He.obsX_eq (HandSHeadRun.getT_eq s)
end K3
end HX_part
section H1_part
set_option Elab.async false
set_option linter.all false
set_option maxRecDepth 100000
set_option maxHeartbeats 0
namespace K3
open PySem PySem.Spec PyProof.Rows L2 PySem.W PySem.Calls HandSHeadRun
abbrev R : PySem.W.OpenRow := PySem.W.OpenLaw.row PySem.Challenge.rw_skiphall_k34_hidden_cells_by_the_rule
def loose : List Str := [("HallError" : Str), ("BadCount" : Str), ("NoFit" : Str), ("NoCell" : Str), ("Unsafe" : Str), ("cells_of" : Str), ("all_but_last" : Str), ("last_cell" : Str), ("number_at" : Str), ("read_hidden" : Str), ("refuse_no_cell" : Str), ("refuse_shown" : Str), ("arc_of" : Str), ("Flow" : Str), ("least_flow" : Str), ("most_flow" : Str), ("steps_of" : Str), ("pushed" : Str), ("ways_from" : Str), ("way_to" : Str), ("LEAST_FEW" : Str), ("LEAST_WIDTH" : Str), ("is_safe" : Str), ("hidden_cells" : Str), ("refuse_few_and_width" : Str), ("secret_cells" : Str), ("greatest_first" : Str), ("first_unsafe" : Str), ("reach_width" : Str), ("reach" : Str), ("_law_cell_at" : Str), ("_law_state" : Str), ("_law_digit" : Str), ("_law_summed" : Str), ("_law_cells" : Str), ("_law_hidden" : Str), ("_law_drawn_grid" : Str), ("_law_great_grid" : Str), ("_law_secret" : Str), ("_law_first_near" : Str), ("_law_due" : Str), ("_law_found" : Str), ("_law_changed_right" : Str), ("_law_great_right" : Str)]
abbrev qv : Program := PySem.W.view R.prog [50]
theorem run1 (w : World) (os : OsState) : (endF (stepQ (denQ tabQ) R.prog w) 8000 R.prog w os).map (fun s => looksF R.prog (boot_heap w.params) s.abs) = some true := by
  kernel_rfl
theorem run2 (w : World) (os : OsState) : (endF (stepQ (denQ tabQ) R.prog w) 8000 R.prog w os).map (fun s => seenQ qv loose (importedModules R.prog.main.body) (fun s => xlAt qv [] s && recOk R.toRowW.records s) s.abs) = some (openGood qv loose) := by
  kernel_rfl
theorem run3 (w : World) (os : OsState) : (endF (stepQ (denQ tabQ) R.prog w) 8000 R.prog w os).map (fun s => ob s) = some (hk.val w) := by
  kernel_rfl
theorem join3 {A B C D : Type} {f : A → B} {g : A → C} {h : A → D} {b : B} {c : C} {d : D} : ∀ {o : Option A}, o.map f = some b → o.map g = some c → o.map h = some d → o.map (fun s => (f s, g s, h s)) = some (b, c, d)
  | none, q, _, _ => by cases q
  | some s, q1, q2, q3 => by
    have k1 := Option.some.inj q1
    have k2 := Option.some.inj q2
    have k3 := Option.some.inj q3
    show some (f s, g s, h s) = _
    rw [k1, k2, k3]
theorem run (w : World) : HandSHeadRun.RunEq R qv hk ob 8000 loose w := fun os => join3 (run1 w os) (run2 w os) (run3 w os)
end K3
end H1_part
section A0_part
set_option Elab.async false
set_option linter.all false
set_option maxRecDepth 100000
set_option maxHeartbeats 0
namespace K3
open PySem PySem.Spec PyProof.Rows L2
/-- what the top has written -/
structure Tx (K : PySem.W.Frag) (mg : Str → Option Value) : Prop where
  c : He.SaysD D.fa D.fn K
  e : ex K = true
  h : ∃ h : Heap, K.In h ∧ h.Ns mainGlobals mg
section
variable {K : PySem.W.Frag} {mg : Str → Option Value}
theorem Tx.glo (T : Tx K mg) {x : Str} (c : (He.Fa.glo x).ok K = true) : mg x = some (.ref (He.ga K x)) := by
  obtain ⟨h, X, G⟩ := T.h
  exact He.glo_ok X G c
theorem Tx.free (T : Tx K mg) {x : Str} (c : (He.Fa.free x).ok K = true) : mg x = none := by
  obtain ⟨h, X, G⟩ := T.h
  exact He.free_ok X G c
theorem Tx.int (T : Tx K mg) {x : Str} {i : Int} (c : (He.Fa.int x i).ok K = true) : ∃ t, mg x = some (.int i t) := by
  obtain ⟨h, X, G⟩ := T.h
  exact He.int_ok X G c
theorem Tx.str (T : Tx K mg) {x z : Str} (c : (He.Fa.str x z).ok K = true) : ∃ t, mg x = some (.str z t) := by
  obtain ⟨h, X, G⟩ := T.h
  exact He.str_ok X G c
theorem Tx.g_HallError (T : Tx K mg) : mg "HallError" = some (.ref (He.ga K "HallError")) := T.glo (T.c.fact 0 rfl)
theorem Tx.k_HallError (T : Tx K mg) : PySem.W.keepIn K (.ref (He.ga K "HallError")) = true := He.keep_ok (x := "HallError") (T.c.fact 1 rfl)
theorem Tx.g_BadCount (T : Tx K mg) : mg "BadCount" = some (.ref (He.ga K "BadCount")) := T.glo (T.c.fact 2 rfl)
theorem Tx.k_BadCount (T : Tx K mg) : PySem.W.keepIn K (.ref (He.ga K "BadCount")) = true := He.keep_ok (x := "BadCount") (T.c.fact 3 rfl)
theorem Tx.g_NoFit (T : Tx K mg) : mg "NoFit" = some (.ref (He.ga K "NoFit")) := T.glo (T.c.fact 4 rfl)
theorem Tx.k_NoFit (T : Tx K mg) : PySem.W.keepIn K (.ref (He.ga K "NoFit")) = true := He.keep_ok (x := "NoFit") (T.c.fact 5 rfl)
theorem Tx.g_NoCell (T : Tx K mg) : mg "NoCell" = some (.ref (He.ga K "NoCell")) := T.glo (T.c.fact 6 rfl)
theorem Tx.k_NoCell (T : Tx K mg) : PySem.W.keepIn K (.ref (He.ga K "NoCell")) = true := He.keep_ok (x := "NoCell") (T.c.fact 7 rfl)
theorem Tx.g_Unsafe (T : Tx K mg) : mg "Unsafe" = some (.ref (He.ga K "Unsafe")) := T.glo (T.c.fact 8 rfl)
theorem Tx.k_Unsafe (T : Tx K mg) : PySem.W.keepIn K (.ref (He.ga K "Unsafe")) = true := He.keep_ok (x := "Unsafe") (T.c.fact 9 rfl)
theorem Tx.g_cells_of (T : Tx K mg) : mg "cells_of" = some (.ref (He.ga K "cells_of")) := T.glo (T.c.fact 10 rfl)
theorem Tx.g_all_but_last (T : Tx K mg) : mg "all_but_last" = some (.ref (He.ga K "all_but_last")) := T.glo (T.c.fact 11 rfl)
theorem Tx.g_last_cell (T : Tx K mg) : mg "last_cell" = some (.ref (He.ga K "last_cell")) := T.glo (T.c.fact 12 rfl)
theorem Tx.g_number_at (T : Tx K mg) : mg "number_at" = some (.ref (He.ga K "number_at")) := T.glo (T.c.fact 13 rfl)
theorem Tx.g_read_hidden (T : Tx K mg) : mg "read_hidden" = some (.ref (He.ga K "read_hidden")) := T.glo (T.c.fact 14 rfl)
theorem Tx.g_refuse_no_cell (T : Tx K mg) : mg "refuse_no_cell" = some (.ref (He.ga K "refuse_no_cell")) := T.glo (T.c.fact 15 rfl)
theorem Tx.g_refuse_shown (T : Tx K mg) : mg "refuse_shown" = some (.ref (He.ga K "refuse_shown")) := T.glo (T.c.fact 16 rfl)
theorem Tx.g_arc_of (T : Tx K mg) : mg "arc_of" = some (.ref (He.ga K "arc_of")) := T.glo (T.c.fact 17 rfl)
theorem Tx.g_Flow (T : Tx K mg) : mg "Flow" = some (.ref (He.ga K "Flow")) := T.glo (T.c.fact 18 rfl)
theorem Tx.k_Flow (T : Tx K mg) : PySem.W.keepIn K (.ref (He.ga K "Flow")) = true := He.keep_ok (x := "Flow") (T.c.fact 19 rfl)
theorem Tx.g_least_flow (T : Tx K mg) : mg "least_flow" = some (.ref (He.ga K "least_flow")) := T.glo (T.c.fact 20 rfl)
theorem Tx.g_most_flow (T : Tx K mg) : mg "most_flow" = some (.ref (He.ga K "most_flow")) := T.glo (T.c.fact 21 rfl)
theorem Tx.g_steps_of (T : Tx K mg) : mg "steps_of" = some (.ref (He.ga K "steps_of")) := T.glo (T.c.fact 22 rfl)
theorem Tx.g_pushed (T : Tx K mg) : mg "pushed" = some (.ref (He.ga K "pushed")) := T.glo (T.c.fact 23 rfl)
theorem Tx.g_ways_from (T : Tx K mg) : mg "ways_from" = some (.ref (He.ga K "ways_from")) := T.glo (T.c.fact 24 rfl)
theorem Tx.g_way_to (T : Tx K mg) : mg "way_to" = some (.ref (He.ga K "way_to")) := T.glo (T.c.fact 25 rfl)
theorem Tx.i_LEAST_FEW (T : Tx K mg) : ∃ t, mg "LEAST_FEW" = some (.int 2 t) := T.int (T.c.fact 26 rfl)
theorem Tx.i_LEAST_WIDTH (T : Tx K mg) : ∃ t, mg "LEAST_WIDTH" = some (.int 1 t) := T.int (T.c.fact 27 rfl)
theorem Tx.g_is_safe (T : Tx K mg) : mg "is_safe" = some (.ref (He.ga K "is_safe")) := T.glo (T.c.fact 28 rfl)
theorem Tx.g_hidden_cells (T : Tx K mg) : mg "hidden_cells" = some (.ref (He.ga K "hidden_cells")) := T.glo (T.c.fact 29 rfl)
theorem Tx.g_refuse_few_and_width (T : Tx K mg) : mg "refuse_few_and_width" = some (.ref (He.ga K "refuse_few_and_width")) := T.glo (T.c.fact 30 rfl)
theorem Tx.g_secret_cells (T : Tx K mg) : mg "secret_cells" = some (.ref (He.ga K "secret_cells")) := T.glo (T.c.fact 31 rfl)
theorem Tx.g_greatest_first (T : Tx K mg) : mg "greatest_first" = some (.ref (He.ga K "greatest_first")) := T.glo (T.c.fact 32 rfl)
theorem Tx.g_first_unsafe (T : Tx K mg) : mg "first_unsafe" = some (.ref (He.ga K "first_unsafe")) := T.glo (T.c.fact 33 rfl)
theorem Tx.g_reach_width (T : Tx K mg) : mg "reach_width" = some (.ref (He.ga K "reach_width")) := T.glo (T.c.fact 34 rfl)
theorem Tx.g_reach (T : Tx K mg) : mg "reach" = some (.ref (He.ga K "reach")) := T.glo (T.c.fact 35 rfl)
theorem Tx.g__law_cell_at (T : Tx K mg) : mg "_law_cell_at" = some (.ref (He.ga K "_law_cell_at")) := T.glo (T.c.fact 36 rfl)
theorem Tx.g__law_state (T : Tx K mg) : mg "_law_state" = some (.ref (He.ga K "_law_state")) := T.glo (T.c.fact 37 rfl)
theorem Tx.g__law_digit (T : Tx K mg) : mg "_law_digit" = some (.ref (He.ga K "_law_digit")) := T.glo (T.c.fact 38 rfl)
theorem Tx.g__law_summed (T : Tx K mg) : mg "_law_summed" = some (.ref (He.ga K "_law_summed")) := T.glo (T.c.fact 39 rfl)
theorem Tx.g__law_cells (T : Tx K mg) : mg "_law_cells" = some (.ref (He.ga K "_law_cells")) := T.glo (T.c.fact 40 rfl)
theorem Tx.g__law_hidden (T : Tx K mg) : mg "_law_hidden" = some (.ref (He.ga K "_law_hidden")) := T.glo (T.c.fact 41 rfl)
theorem Tx.g__law_drawn_grid (T : Tx K mg) : mg "_law_drawn_grid" = some (.ref (He.ga K "_law_drawn_grid")) := T.glo (T.c.fact 42 rfl)
theorem Tx.g__law_great_grid (T : Tx K mg) : mg "_law_great_grid" = some (.ref (He.ga K "_law_great_grid")) := T.glo (T.c.fact 43 rfl)
theorem Tx.g__law_secret (T : Tx K mg) : mg "_law_secret" = some (.ref (He.ga K "_law_secret")) := T.glo (T.c.fact 44 rfl)
theorem Tx.g__law_first_near (T : Tx K mg) : mg "_law_first_near" = some (.ref (He.ga K "_law_first_near")) := T.glo (T.c.fact 45 rfl)
theorem Tx.g__law_due (T : Tx K mg) : mg "_law_due" = some (.ref (He.ga K "_law_due")) := T.glo (T.c.fact 46 rfl)
theorem Tx.g__law_found (T : Tx K mg) : mg "_law_found" = some (.ref (He.ga K "_law_found")) := T.glo (T.c.fact 47 rfl)
theorem Tx.g__law_changed_right (T : Tx K mg) : mg "_law_changed_right" = some (.ref (He.ga K "_law_changed_right")) := T.glo (T.c.fact 48 rfl)
theorem Tx.g__law_great_right (T : Tx K mg) : mg "_law_great_right" = some (.ref (He.ga K "_law_great_right")) := T.glo (T.c.fact 49 rfl)
theorem Tx.g_law (T : Tx K mg) : mg "law" = some (.ref (He.ga K "law")) := T.glo (T.c.fact 50 rfl)
theorem Tx.z_abs (T : Tx K mg) : mg "abs" = none := T.free (T.c.fact 51 rfl)
theorem Tx.z_int (T : Tx K mg) : mg "int" = none := T.free (T.c.fact 52 rfl)
theorem Tx.z_len (T : Tx K mg) : mg "len" = none := T.free (T.c.fact 53 rfl)
theorem Tx.z_list (T : Tx K mg) : mg "list" = none := T.free (T.c.fact 54 rfl)
theorem Tx.z_max (T : Tx K mg) : mg "max" = none := T.free (T.c.fact 55 rfl)
theorem Tx.z_min (T : Tx K mg) : mg "min" = none := T.free (T.c.fact 56 rfl)
theorem Tx.z_range (T : Tx K mg) : mg "range" = none := T.free (T.c.fact 57 rfl)
theorem Tx.z_set (T : Tx K mg) : mg "set" = none := T.free (T.c.fact 58 rfl)
theorem Tx.z_sorted (T : Tx K mg) : mg "sorted" = none := T.free (T.c.fact 59 rfl)
theorem Tx.z_sum (T : Tx K mg) : mg "sum" = none := T.free (T.c.fact 60 rfl)
theorem Tx.z_tuple (T : Tx K mg) : mg "tuple" = none := T.free (T.c.fact 61 rfl)
theorem Tx.n_BadCount_what (T : Tx K mg) : NoAttr K (He.ga K "BadCount") "what" := He.noat_ok (x := "BadCount") (f := "what") (T.c.fact 62 rfl)
theorem Tx.n_BadCount_count (T : Tx K mg) : NoAttr K (He.ga K "BadCount") "count" := He.noat_ok (x := "BadCount") (f := "count") (T.c.fact 63 rfl)
theorem Tx.m_BadCount_init (T : Tx K mg) : Meth K (He.ga K "BadCount") "__init__" (He.ma K (He.ga K "BadCount") "__init__") := He.meth_ok (x := "BadCount") (m := "__init__") (T.c.fact 64 rfl)
theorem Tx.n_NoFit_name (T : Tx K mg) : NoAttr K (He.ga K "NoFit") "name" := He.noat_ok (x := "NoFit") (f := "name") (T.c.fact 65 rfl)
theorem Tx.m_NoFit_init (T : Tx K mg) : Meth K (He.ga K "NoFit") "__init__" (He.ma K (He.ga K "NoFit") "__init__") := He.meth_ok (x := "NoFit") (m := "__init__") (T.c.fact 66 rfl)
theorem Tx.n_NoCell_row (T : Tx K mg) : NoAttr K (He.ga K "NoCell") "row" := He.noat_ok (x := "NoCell") (f := "row") (T.c.fact 67 rfl)
theorem Tx.n_NoCell_column (T : Tx K mg) : NoAttr K (He.ga K "NoCell") "column" := He.noat_ok (x := "NoCell") (f := "column") (T.c.fact 68 rfl)
theorem Tx.m_NoCell_init (T : Tx K mg) : Meth K (He.ga K "NoCell") "__init__" (He.ma K (He.ga K "NoCell") "__init__") := He.meth_ok (x := "NoCell") (m := "__init__") (T.c.fact 69 rfl)
theorem Tx.n_Unsafe_cell (T : Tx K mg) : NoAttr K (He.ga K "Unsafe") "cell" := He.noat_ok (x := "Unsafe") (f := "cell") (T.c.fact 70 rfl)
theorem Tx.m_Unsafe_init (T : Tx K mg) : Meth K (He.ga K "Unsafe") "__init__" (He.ma K (He.ga K "Unsafe") "__init__") := He.meth_ok (x := "Unsafe") (m := "__init__") (T.c.fact 71 rfl)
theorem Tx.cl_Flow (T : Tx K mg) : Cls K (He.ga K "Flow") := He.cls_ok (x := "Flow") (T.c.fact 72 rfl)
theorem Tx.mk_Flow (T : Tx K mg) : Mk K (He.ga K "Flow") (He.ma K (He.ga K "Flow") "__init__") := He.mkr_ok (x := "Flow") (T.c.fact 73 rfl)
theorem Tx.n_Flow_cell (T : Tx K mg) : NoAttr K (He.ga K "Flow") "cell" := He.noat_ok (x := "Flow") (f := "cell") (T.c.fact 74 rfl)
theorem Tx.n_Flow_numbers (T : Tx K mg) : NoAttr K (He.ga K "Flow") "numbers" := He.noat_ok (x := "Flow") (f := "numbers") (T.c.fact 75 rfl)
theorem Tx.n_Flow_steps (T : Tx K mg) : NoAttr K (He.ga K "Flow") "steps" := He.noat_ok (x := "Flow") (f := "steps") (T.c.fact 76 rfl)
theorem Tx.m_Flow_init (T : Tx K mg) : Meth K (He.ga K "Flow") "__init__" (He.ma K (He.ga K "Flow") "__init__") := He.meth_ok (x := "Flow") (m := "__init__") (T.c.fact 77 rfl)
theorem Tx.m_Flow_number_now (T : Tx K mg) : Meth K (He.ga K "Flow") "number_now" (He.ma K (He.ga K "Flow") "number_now") := He.meth_ok (x := "Flow") (m := "number_now") (T.c.fact 78 rfl)
theorem Tx.m_Flow_change (T : Tx K mg) : Meth K (He.ga K "Flow") "change" (He.ma K (He.ga K "Flow") "change") := He.meth_ok (x := "Flow") (m := "change") (T.c.fact 79 rfl)
theorem Tx.f_HallError_told (T : Tx K mg) : ∃ fd, FunD K "told" "HallError.told" (defArgs s_HallError_told) (defBody s_HallError_told) (defScope s_HallError_told) [] [] (He.ma K (He.ga K "HallError") "told") fd := T.c.def_ 0 (d := D.d_HallError_told) rfl
theorem Tx.f_BadCount_init (T : Tx K mg) : ∃ fd, FunD K "__init__" "BadCount.__init__" (defArgs s_BadCount_init) (defBody s_BadCount_init) (defScope s_BadCount_init) [] [] (He.ma K (He.ga K "BadCount") "__init__") fd := T.c.def_ 1 (d := D.d_BadCount_init) rfl
theorem Tx.f_BadCount_told (T : Tx K mg) : ∃ fd, FunD K "told" "BadCount.told" (defArgs s_BadCount_told) (defBody s_BadCount_told) (defScope s_BadCount_told) [] [] (He.ma K (He.ga K "BadCount") "told") fd := T.c.def_ 2 (d := D.d_BadCount_told) rfl
theorem Tx.f_NoFit_init (T : Tx K mg) : ∃ fd, FunD K "__init__" "NoFit.__init__" (defArgs s_NoFit_init) (defBody s_NoFit_init) (defScope s_NoFit_init) [] [] (He.ma K (He.ga K "NoFit") "__init__") fd := T.c.def_ 3 (d := D.d_NoFit_init) rfl
theorem Tx.f_NoFit_told (T : Tx K mg) : ∃ fd, FunD K "told" "NoFit.told" (defArgs s_NoFit_told) (defBody s_NoFit_told) (defScope s_NoFit_told) [] [] (He.ma K (He.ga K "NoFit") "told") fd := T.c.def_ 4 (d := D.d_NoFit_told) rfl
theorem Tx.f_NoCell_init (T : Tx K mg) : ∃ fd, FunD K "__init__" "NoCell.__init__" (defArgs s_NoCell_init) (defBody s_NoCell_init) (defScope s_NoCell_init) [] [] (He.ma K (He.ga K "NoCell") "__init__") fd := T.c.def_ 5 (d := D.d_NoCell_init) rfl
theorem Tx.f_NoCell_told (T : Tx K mg) : ∃ fd, FunD K "told" "NoCell.told" (defArgs s_NoCell_told) (defBody s_NoCell_told) (defScope s_NoCell_told) [] [] (He.ma K (He.ga K "NoCell") "told") fd := T.c.def_ 6 (d := D.d_NoCell_told) rfl
theorem Tx.f_Unsafe_init (T : Tx K mg) : ∃ fd, FunD K "__init__" "Unsafe.__init__" (defArgs s_Unsafe_init) (defBody s_Unsafe_init) (defScope s_Unsafe_init) [] [] (He.ma K (He.ga K "Unsafe") "__init__") fd := T.c.def_ 7 (d := D.d_Unsafe_init) rfl
theorem Tx.f_Unsafe_told (T : Tx K mg) : ∃ fd, FunD K "told" "Unsafe.told" (defArgs s_Unsafe_told) (defBody s_Unsafe_told) (defScope s_Unsafe_told) [] [] (He.ma K (He.ga K "Unsafe") "told") fd := T.c.def_ 8 (d := D.d_Unsafe_told) rfl
theorem Tx.f_cells_of (T : Tx K mg) : ∃ fd, FunD K "cells_of" "cells_of" (defArgs s_cells_of) (defBody s_cells_of) (defScope s_cells_of) [] [] (He.ga K "cells_of") fd := T.c.def_ 9 (d := D.d_cells_of) rfl
theorem Tx.f_all_but_last (T : Tx K mg) : ∃ fd, FunD K "all_but_last" "all_but_last" (defArgs s_all_but_last) (defBody s_all_but_last) (defScope s_all_but_last) [] [] (He.ga K "all_but_last") fd := T.c.def_ 10 (d := D.d_all_but_last) rfl
theorem Tx.f_last_cell (T : Tx K mg) : ∃ fd, FunD K "last_cell" "last_cell" (defArgs s_last_cell) (defBody s_last_cell) (defScope s_last_cell) [] [] (He.ga K "last_cell") fd := T.c.def_ 11 (d := D.d_last_cell) rfl
theorem Tx.f_number_at (T : Tx K mg) : ∃ fd, FunD K "number_at" "number_at" (defArgs s_number_at) (defBody s_number_at) (defScope s_number_at) [] [] (He.ga K "number_at") fd := T.c.def_ 12 (d := D.d_number_at) rfl
theorem Tx.f_read_hidden (T : Tx K mg) : ∃ fd, FunD K "read_hidden" "read_hidden" (defArgs s_read_hidden) (defBody s_read_hidden) (defScope s_read_hidden) [] [] (He.ga K "read_hidden") fd := T.c.def_ 13 (d := D.d_read_hidden) rfl
theorem Tx.f_refuse_no_cell (T : Tx K mg) : ∃ fd, FunD K "refuse_no_cell" "refuse_no_cell" (defArgs s_refuse_no_cell) (defBody s_refuse_no_cell) (defScope s_refuse_no_cell) [] [] (He.ga K "refuse_no_cell") fd := T.c.def_ 14 (d := D.d_refuse_no_cell) rfl
theorem Tx.f_refuse_shown (T : Tx K mg) : ∃ fd, FunD K "refuse_shown" "refuse_shown" (defArgs s_refuse_shown) (defBody s_refuse_shown) (defScope s_refuse_shown) [] [] (He.ga K "refuse_shown") fd := T.c.def_ 15 (d := D.d_refuse_shown) rfl
theorem Tx.f_arc_of (T : Tx K mg) : ∃ fd, FunD K "arc_of" "arc_of" (defArgs s_arc_of) (defBody s_arc_of) (defScope s_arc_of) [] [] (He.ga K "arc_of") fd := T.c.def_ 16 (d := D.d_arc_of) rfl
theorem Tx.f_Flow_init (T : Tx K mg) : ∃ fd, FunD K "__init__" "Flow.__init__" (defArgs s_Flow_init) (defBody s_Flow_init) (defScope s_Flow_init) [] [] (He.ma K (He.ga K "Flow") "__init__") fd := T.c.def_ 17 (d := D.d_Flow_init) rfl
theorem Tx.f_Flow_number_now (T : Tx K mg) : ∃ fd, FunD K "number_now" "Flow.number_now" (defArgs s_Flow_number_now) (defBody s_Flow_number_now) (defScope s_Flow_number_now) [] [] (He.ma K (He.ga K "Flow") "number_now") fd := T.c.def_ 18 (d := D.d_Flow_number_now) rfl
theorem Tx.f_Flow_change (T : Tx K mg) : ∃ fd, FunD K "change" "Flow.change" (defArgs s_Flow_change) (defBody s_Flow_change) (defScope s_Flow_change) [] [] (He.ma K (He.ga K "Flow") "change") fd := T.c.def_ 19 (d := D.d_Flow_change) rfl
theorem Tx.f_least_flow (T : Tx K mg) : ∃ fd, FunD K "least_flow" "least_flow" (defArgs s_least_flow) (defBody s_least_flow) (defScope s_least_flow) [] [] (He.ga K "least_flow") fd := T.c.def_ 20 (d := D.d_least_flow) rfl
theorem Tx.f_most_flow (T : Tx K mg) : ∃ fd, FunD K "most_flow" "most_flow" (defArgs s_most_flow) (defBody s_most_flow) (defScope s_most_flow) [] [] (He.ga K "most_flow") fd := T.c.def_ 21 (d := D.d_most_flow) rfl
theorem Tx.f_steps_of (T : Tx K mg) : ∃ fd, FunD K "steps_of" "steps_of" (defArgs s_steps_of) (defBody s_steps_of) (defScope s_steps_of) [] [] (He.ga K "steps_of") fd := T.c.def_ 22 (d := D.d_steps_of) rfl
theorem Tx.f_pushed (T : Tx K mg) : ∃ fd, FunD K "pushed" "pushed" (defArgs s_pushed) (defBody s_pushed) (defScope s_pushed) [] [] (He.ga K "pushed") fd := T.c.def_ 23 (d := D.d_pushed) rfl
theorem Tx.f_ways_from (T : Tx K mg) : ∃ fd, FunD K "ways_from" "ways_from" (defArgs s_ways_from) (defBody s_ways_from) (defScope s_ways_from) [] [] (He.ga K "ways_from") fd := T.c.def_ 24 (d := D.d_ways_from) rfl
theorem Tx.f_way_to (T : Tx K mg) : ∃ fd, FunD K "way_to" "way_to" (defArgs s_way_to) (defBody s_way_to) (defScope s_way_to) [] [] (He.ga K "way_to") fd := T.c.def_ 25 (d := D.d_way_to) rfl
theorem Tx.f_is_safe (T : Tx K mg) : ∃ fd, FunD K "is_safe" "is_safe" (defArgs s_is_safe) (defBody s_is_safe) (defScope s_is_safe) [] [] (He.ga K "is_safe") fd := T.c.def_ 26 (d := D.d_is_safe) rfl
theorem Tx.f_hidden_cells (T : Tx K mg) : ∃ fd, FunD K "hidden_cells" "hidden_cells" (defArgs s_hidden_cells) (defBody s_hidden_cells) (defScope s_hidden_cells) [] [] (He.ga K "hidden_cells") fd := T.c.def_ 27 (d := D.d_hidden_cells) rfl
theorem Tx.f_refuse_few_and_width (T : Tx K mg) : ∃ fd, FunD K "refuse_few_and_width" "refuse_few_and_width" (defArgs s_refuse_few_and_width) (defBody s_refuse_few_and_width) (defScope s_refuse_few_and_width) [] [] (He.ga K "refuse_few_and_width") fd := T.c.def_ 28 (d := D.d_refuse_few_and_width) rfl
theorem Tx.f_secret_cells (T : Tx K mg) : ∃ fd, FunD K "secret_cells" "secret_cells" (defArgs s_secret_cells) (defBody s_secret_cells) (defScope s_secret_cells) [] [] (He.ga K "secret_cells") fd := T.c.def_ 29 (d := D.d_secret_cells) rfl
theorem Tx.f_greatest_first (T : Tx K mg) : ∃ fd, FunD K "greatest_first" "greatest_first" (defArgs s_greatest_first) (defBody s_greatest_first) (defScope s_greatest_first) [] [] (He.ga K "greatest_first") fd := T.c.def_ 30 (d := D.d_greatest_first) rfl
theorem Tx.f_first_unsafe (T : Tx K mg) : ∃ fd, FunD K "first_unsafe" "first_unsafe" (defArgs s_first_unsafe) (defBody s_first_unsafe) (defScope s_first_unsafe) [] [] (He.ga K "first_unsafe") fd := T.c.def_ 31 (d := D.d_first_unsafe) rfl
theorem Tx.f_reach_width (T : Tx K mg) : ∃ fd, FunD K "reach_width" "reach_width" (defArgs s_reach_width) (defBody s_reach_width) (defScope s_reach_width) [] [] (He.ga K "reach_width") fd := T.c.def_ 32 (d := D.d_reach_width) rfl
theorem Tx.f_reach (T : Tx K mg) : ∃ fd, FunD K "reach" "reach" (defArgs s_reach) (defBody s_reach) (defScope s_reach) [] [] (He.ga K "reach") fd := T.c.def_ 33 (d := D.d_reach) rfl
theorem Tx.f__law_cell_at (T : Tx K mg) : ∃ fd, FunD K "_law_cell_at" "_law_cell_at" (defArgs s__law_cell_at) (defBody s__law_cell_at) (defScope s__law_cell_at) [] [] (He.ga K "_law_cell_at") fd := T.c.def_ 34 (d := D.d__law_cell_at) rfl
theorem Tx.f__law_state (T : Tx K mg) : ∃ fd, FunD K "_law_state" "_law_state" (defArgs s__law_state) (defBody s__law_state) (defScope s__law_state) [] [] (He.ga K "_law_state") fd := T.c.def_ 35 (d := D.d__law_state) rfl
theorem Tx.f__law_digit (T : Tx K mg) : ∃ fd, FunD K "_law_digit" "_law_digit" (defArgs s__law_digit) (defBody s__law_digit) (defScope s__law_digit) [] [] (He.ga K "_law_digit") fd := T.c.def_ 36 (d := D.d__law_digit) rfl
theorem Tx.f__law_summed (T : Tx K mg) : ∃ fd, FunD K "_law_summed" "_law_summed" (defArgs s__law_summed) (defBody s__law_summed) (defScope s__law_summed) [] [] (He.ga K "_law_summed") fd := T.c.def_ 37 (d := D.d__law_summed) rfl
theorem Tx.f__law_cells (T : Tx K mg) : ∃ fd, FunD K "_law_cells" "_law_cells" (defArgs s__law_cells) (defBody s__law_cells) (defScope s__law_cells) [] [] (He.ga K "_law_cells") fd := T.c.def_ 38 (d := D.d__law_cells) rfl
theorem Tx.f__law_hidden (T : Tx K mg) : ∃ fd, FunD K "_law_hidden" "_law_hidden" (defArgs s__law_hidden) (defBody s__law_hidden) (defScope s__law_hidden) [] [] (He.ga K "_law_hidden") fd := T.c.def_ 39 (d := D.d__law_hidden) rfl
theorem Tx.f__law_drawn_grid (T : Tx K mg) : ∃ fd, FunD K "_law_drawn_grid" "_law_drawn_grid" (defArgs s__law_drawn_grid) (defBody s__law_drawn_grid) (defScope s__law_drawn_grid) [] [] (He.ga K "_law_drawn_grid") fd := T.c.def_ 40 (d := D.d__law_drawn_grid) rfl
theorem Tx.f__law_great_grid (T : Tx K mg) : ∃ fd, FunD K "_law_great_grid" "_law_great_grid" (defArgs s__law_great_grid) (defBody s__law_great_grid) (defScope s__law_great_grid) [] [] (He.ga K "_law_great_grid") fd := T.c.def_ 41 (d := D.d__law_great_grid) rfl
theorem Tx.f__law_secret (T : Tx K mg) : ∃ fd, FunD K "_law_secret" "_law_secret" (defArgs s__law_secret) (defBody s__law_secret) (defScope s__law_secret) [] [] (He.ga K "_law_secret") fd := T.c.def_ 42 (d := D.d__law_secret) rfl
theorem Tx.f__law_first_near (T : Tx K mg) : ∃ fd, FunD K "_law_first_near" "_law_first_near" (defArgs s__law_first_near) (defBody s__law_first_near) (defScope s__law_first_near) [] [] (He.ga K "_law_first_near") fd := T.c.def_ 43 (d := D.d__law_first_near) rfl
theorem Tx.f__law_due (T : Tx K mg) : ∃ fd, FunD K "_law_due" "_law_due" (defArgs s__law_due) (defBody s__law_due) (defScope s__law_due) [] [] (He.ga K "_law_due") fd := T.c.def_ 44 (d := D.d__law_due) rfl
theorem Tx.f__law_found (T : Tx K mg) : ∃ fd, FunD K "_law_found" "_law_found" (defArgs s__law_found) (defBody s__law_found) (defScope s__law_found) [] [] (He.ga K "_law_found") fd := T.c.def_ 45 (d := D.d__law_found) rfl
theorem Tx.f__law_changed_right (T : Tx K mg) : ∃ fd, FunD K "_law_changed_right" "_law_changed_right" (defArgs s__law_changed_right) (defBody s__law_changed_right) (defScope s__law_changed_right) [] [] (He.ga K "_law_changed_right") fd := T.c.def_ 46 (d := D.d__law_changed_right) rfl
theorem Tx.f__law_great_right (T : Tx K mg) : ∃ fd, FunD K "_law_great_right" "_law_great_right" (defArgs s__law_great_right) (defBody s__law_great_right) (defScope s__law_great_right) [] [] (He.ga K "_law_great_right") fd := T.c.def_ 47 (d := D.d__law_great_right) rfl
theorem Tx.f_law (T : Tx K mg) : ∃ fd, FunD K "law" "law" (defArgs s_law) (defBody s_law) (defScope s_law) [] [] (He.ga K "law") fd := T.c.def_ 48 (d := D.d_law) rfl
end
end K3
end A0_part
section V0_part
set_option Elab.async false
set_option linter.all false
set_option maxRecDepth 100000
set_option maxHeartbeats 0
namespace L2
open PySem PySem.Spec PyProof.Rows
/-! ### a def and its promise, for all callers -/
structure Ok (P : Program) (w : World) (K : PySem.W.Frag) (mg : Str → Option Value) (base : Heap) (k : Nat) (f : Addr) (ps : List Str) (sp : Sp) : Prop where
  run : ∃ fd, FnOk P w K mg base (L2.CX P w) k f fd ps sp ∧ Binds K fd ps [] ∧ PySem.W.keepIn K (.ref f) = true
section
variable {X : Cx} {k : Nat} {f : Addr} {ps : List Str} {sp : Sp} {x : Str} {e : Expr} {es : List Expr} {p pos : Pos} {t : TA}
/-- f(e, ..), nothing is raised -/
theorem pe_f (O : Ok X.prog X.w X.K X.mg X.base k f ps sp) (hr : Room k X.A) (hm : X.mg x = some (.ref f)) (ha : PA X (e :: es) t) (hg : Gl X x := by rfl) (hdb : (x == ("__debug__" : Str)) = false := by decide)
    (he : starEach (e :: es) X.env = (false, eval e X.env) :: starEach es X.env := by rfl) (hpl : (backTo pos (starEach es X.env)).any (·.1) = false := by rfl) :
    PE X (.Call (.Name x p) (e :: es) [] pos) (tCall sp [] E0 t) := by
  obtain ⟨fd, F, b, kp⟩ := O.run
  exact pe_call F hr hg hm kp b .nil passL ha hdb he hpl
/-- f(e, ..), what is raised is wished for by W at the slots -/
theorem pe_fE {W : WX} (tk : Takes X W) (O : Ok X.prog X.w X.K X.mg X.base k f ps sp) (hr : Room k X.A) (hm : X.mg x = some (.ref f)) (ha : PA X (e :: es) t) (hg : Gl X x := by rfl) (hdb : (x == ("__debug__" : Str)) = false := by decide)
    (he : starEach (e :: es) X.env = (false, eval e X.env) :: starEach es X.env := by rfl) (hpl : (backTo pos (starEach es X.env)).any (·.1) = false := by rfl) :
    PE X (.Call (.Name x p) (e :: es) [] pos) (tCallS sp (WE W) t) := by
  obtain ⟨fd, F, b, kp⟩ := O.run
  exact pe_callS F hr hg hm kp b (fun σ => passAt tk σ) ha hdb he hpl
theorem pe_gint {i : Int} (hm : ∃ t, X.mg x = some (.int i t)) (hg : Gl X x := by rfl) (hd : (x == ("__debug__" : Str)) = false := by decide) : PE X (.Name x pos) (tC (.int i)) := by
  obtain ⟨t, h⟩ := hm
  exact pe_glob hg h ⟨_, rfl⟩ hd
theorem pe_gstr {i : Str} (hm : ∃ t, X.mg x = some (.str i t)) (hg : Gl X x := by rfl) (hd : (x == ("__debug__" : Str)) = false := by decide) : PE X (.Name x pos) (tC (.str i)) := by
  obtain ⟨t, h⟩ := hm
  exact pe_glob hg h ⟨_, rfl⟩ hd
theorem pe_gref {a : Addr} (hm : X.mg x = some (.ref a)) (hg : Gl X x := by rfl) (hd : (x == ("__debug__" : Str)) = false := by decide) : PE X (.Name x pos) (tC (.ref a)) := pe_glob hg hm rfl hd
end
/-! ### readings, step by step -/
section
variable {σ : St} {H : Hp} {D : Ends} {t u : TS} {te ta tb tc : TE} {tt tt2 : TT} {tr : TA} {Q : VK} {QB : Bool → Hp → Prop} {QA : List V → Hp → Prop} {i : Nat} {v x y : V}
theorem w_seq (h : t { D with nx := u D } σ H) : tSeq t u D σ H := h
theorem w_next (h : D.nx σ H) : tNext D σ H := h
theorem w_set (h : te σ H fun x H1 => D.nx (σ.set i (some x)) H1) : tAsg te (gName i) D σ H := h
theorem w_drop (h : te σ H fun _ H1 => D.nx σ H1) : tDrop te D σ H := h
theorem w_ret (h : te σ H D.rt) : tRet te D σ H := h
theorem w_retN (h : D.rt .non H) : tRetN D σ H := h
theorem w_if (h : tt σ H fun b H1 => if b = true then t D σ H1 else u D σ H1) : tIfS tt t u D σ H := h
theorem w_var (h : σ[i]? = some (some v)) (q : Q v H) : tVar i σ H Q := ⟨v, h, q⟩
theorem w_c (q : Q v H) : tC v σ H Q := q
theorem w_nil (q : QA [] H) : tNil σ H QA := q
theorem w_cons (h : te σ H fun x H1 => tr σ H1 fun xs H2 => QA (x :: xs) H2) : tCons te tr σ H QA := h
theorem w_op {r : R2} (h : ta σ H fun x H1 => tb σ H1 fun y H2 => r x y H2 Q) : tOp r ta tb σ H Q := h
theorem w_un {r : V → Hp → VK → Prop} (h : ta σ H fun x H1 => r x H1 Q) : tUn r ta σ H Q := h
theorem w_test (h : te σ H fun x H' => ∃ k, x = .bl k ∧ QB k H') : tTest te σ H QB := h
theorem w_tB (h : te σ H fun x H' => ∃ k, x = .bl k ∧ QB k H') : tB te σ H QB := h
theorem w_not (h : tt σ H fun c H1 => QB (!c) H1) : tNot tt σ H QB := h
theorem w_and (h : tt σ H fun c H1 => if c = true then tt2 σ H1 QB else QB false H1) : tAnd tt tt2 σ H QB := h
theorem w_or (h : tt σ H fun c H1 => if c = true then QB true H1 else tt2 σ H1 QB) : tOr tt tt2 σ H QB := h
theorem w_bl {b : Bool} {P : Bool → Prop} (h : P b) : ∃ k, V.bl b = .bl k ∧ P k := ⟨b, rfl, h⟩
theorem w_nT {A B : Prop} (h : B) : if (!true) = true then A else B := iteF h
theorem w_nF {A B : Prop} (h : A) : if (!false) = true then A else B := iteT h
theorem w_nN {A B : Prop} {b : Bool} (h : if b = true then B else A) : if (!b) = true then A else B := by cases b <;> exact h
theorem w_andV (h : ta σ H fun x H1 => ∃ c, x = .bl c ∧ if c = true then tb σ H1 Q else Q (.bl false) H1) : tAndV ta tb σ H Q := h
theorem w_orV (h : ta σ H fun x H1 => ∃ c, x = .bl c ∧ if c = true then Q (.bl true) H1 else tb σ H1 Q) : tOrV ta tb σ H Q := h
theorem w_notV (h : ta σ H fun x H1 => ∃ c, x = .bl c ∧ Q (.bl (!c)) H1) : tNotV ta σ H Q := h
theorem w_ifE (h : tt σ H fun c H1 => if c = true then ta σ H1 Q else tb σ H1 Q) : tIf tt ta tb σ H Q := h
theorem w_chain {r r' : R2} (h : ta σ H fun x H1 => tb σ H1 fun y H2 => r x y H2 fun z H3 => ∃ k, z = .bl k ∧ (if k = true then tc σ H3 fun w' H4 => r' y w' H4 Q else Q (.bl false) H3)) : tChain r r' ta tb tc σ H Q := h
theorem w_i0 {g : Int → Int → V} {i j : Int} (h : Q (g i j) H) : rI0 g (.int i) (.int j) H Q := ⟨i, j, rfl, rfl, h⟩
theorem w_i {C : Int → Int → Prop} {g : Int → Int → V} {i j : Int} (c : C i j) (h : Q (g i j) H) : rI C g (.int i) (.int j) H Q := ⟨i, j, rfl, rfl, c, h⟩
theorem w_call {sp : Sp} {dvs : List V} {E : XK} (h : tr σ H fun vs H1 => sp (vs ++ dvs) H1 Q E) : tCall sp dvs E tr σ H Q := h
theorem w_callS {sp : Sp} {E : St → XK} (h : tr σ H fun vs H1 => sp vs H1 Q (E σ)) : tCallS sp E tr σ H Q := h
theorem w_cB {r : List V → Hp → VK → Prop} (h : tr σ H fun vs H1 => r vs H1 Q) : tCB r tr σ H Q := h
theorem w_tup (h : tr σ H fun xs H1 => xs.length ≤ sizeLine ∧ ∀ p, H1 p = none → Q (.ref p) (upd H1 p (.tup xs))) : tTup tr σ H Q := h
theorem w_lst (h : tr σ H fun xs H1 => xs.length ≤ sizeLine ∧ ∀ p, H1 p = none → Q (.ref p) (upd H1 p (.lst xs))) : tLst tr σ H Q := h
theorem w_fldV {K : PySem.W.Frag} {f : Str} (h : ta σ H fun x H1 => ∃ a C dx fs v, x = .ref a ∧ H1 a = some (.ins C dx fs) ∧ Cls K C ∧ NoAttr K C f ∧ fs.lookup f = some v ∧ Q v H1) : tFld K ta f σ H Q := h
theorem w_eqS {a b : Str} (h : Q (.bl (decide (V.str a = V.str b))) H) : rEq (.str a) (.str b) H Q := ⟨rfl, h⟩
theorem w_neF {A B : Prop} {a b : Bool} (h : if b = true then A else B) : if (if false = true then a else b) = true then A else B := by
  rw [if_neg Bool.false_ne_true]
  exact h
theorem w_neT {A B : Prop} {a b : Bool} (h : if a = true then A else B) : if (if true = true then a else b) = true then A else B := by
  rw [if_pos (rfl : true = true)]
  exact h
theorem w_yes (h : QB true H) : tYes σ H QB := h
theorem w_notN (h : ta σ H fun x H1 => Q (.bl (!decide (x = .non))) H1) : tNotN ta σ H Q := h
theorem w_isN (h : ta σ H fun x H1 => Q (.bl (decide (x = .non))) H1) : tIsN ta σ H Q := h
theorem w_gname {QS : L2.St → Hp → Prop} (h : QS (σ.set i (some v)) H) : gName i v σ H QS := h
theorem w_gsub {to ti : TE} {t : TSet} {QS : L2.St → Hp → Prop} (h : to σ H fun o H1 => ti σ H1 fun i H2 => t o i v H2 fun H3 => QS σ H3) : gSub to ti t v σ H QS := h
theorem w_asg {g : TG} (h : te σ H fun x H1 => g x σ H1 D.nx) : tAsg te g D σ H := h
theorem w_ixL {K : PySem.W.Frag} {p : Addr} {xs : List V} {i : Int} (hl : H p = some (.lst xs)) (ha : atI xs i = some v) (h : Q v H) : rIxL K (.ref p) (.int i) H Q := ⟨p, xs, i, v, rfl, rfl, SqL.of hl, ha, h⟩
theorem w_ixT {K : PySem.W.Frag} {p : Addr} {xs : List V} {i : Int} (hl : SqT K H p xs) (ha : atI xs i = some v) (h : Q v H) : rIxT K (.ref p) (.int i) H Q := ⟨p, xs, i, v, rfl, rfl, hl, ha, h⟩
theorem w_setL {p : Addr} {xs : List V} {i : Int} {j : Nat} {QH : Hp → Prop} (hl : H p = some (.lst xs)) (hj : ixN xs.length i = some j) (h : QH (upd H p (.lst (xs.set j v)))) : rSetL (.ref p) (.int i) v H QH := ⟨p, xs, i, j, rfl, rfl, hl, hj, h⟩
theorem w_iteT {A B : Prop} (h : A) : if true = true then A else B := iteT h
theorem w_iteF {A B : Prop} (h : B) : if false = true then A else B := iteF h
end
end L2
namespace L2
open PySem PySem.Spec PyProof.Rows
theorem Same.new {H : Hp} {p : Addr} (h : H p = none) (o : HO) : Same H (upd H p o) := fun b u q => by rw [upd_ne (ne_of_none q h)]; exact q
theorem Same.at {H H' : Hp} (s : Same H H') {a : Addr} {o : HO} (h : H a = some o) : H' a = some o := s _ _ h
/-- an object that H does not know may change -/
theorem Same.mut {H H' : Hp} {p : Addr} {o : HO} (e : Same H H') (h : H p = none) : Same H (upd H' p o) := fun a u ha => by
  rw [upd_ne (ne_of_none ha h)]
  exact e a u ha
theorem Same.sqt {K : PySem.W.Frag} {H H' : Hp} {a : Addr} {xs : List V} (e : Same H H') (h : SqT K H a xs) : SqT K H' a xs := by
  rcases h with (h | ⟨o, h⟩) | h
  · exact .inl (.inl (e _ _ h))
  · exact .inl (.inr ⟨o, e _ _ h⟩)
  · exact .inr h
/-- instances and tuples stand -/
def keepF : List (Str × V) → Bool
  | [] => false
  | [(f, _)] => decide (f = ("inner" : Str))
  | [_, (g, _)] => !decide (g = ("questions" : Str))
  | _ => true
def keepO : HO → Bool
  | .ins _ _ fs => keepF fs
  | .tup _ => true
  | .frz _ _ => true
  | _ => false
def SI (H H' : Hp) : Prop := ∀ b o, keepO o = true → H b = some o → H' b = some o
theorem Same.si {H H' : Hp} (e : Same H H') : SI H H' := fun b o _ h => e b o h
theorem SI.trans {H H1 H2 : Hp} (a : SI H H1) (b : SI H1 H2) : SI H H2 := fun c o k h => b c o k (a c o k h)
theorem SI.refl (H : Hp) : SI H H := fun _ _ _ h => h
theorem SI.upd {H : Hp} {p : Addr} {u : HO} (h : H p = some u) (hu : keepO u = false) (o : HO) : SI H (upd H p o) := fun b o' k q => by
  rw [upd_ne (fun z => by rw [z, h] at q; rw [← Option.some.inj q, hu] at k; cases k)]
  exact q
theorem SI.sqt {K : PySem.W.Frag} {H H' : Hp} {a : Addr} {xs : List V} (e : SI H H') (h : SqT K H a xs) : SqT K H' a xs := by
  rcases h with (h | ⟨o, h⟩) | h
  · exact .inl (.inl (e _ _ rfl h))
  · exact .inl (.inr ⟨o, e _ _ rfl h⟩)
  · exact .inr h
/-- [te for c in z]: each element is f c -/
theorem lc_strF {z : Str} {f : Nat → V} {σ : St} {i : Nat} {vs : List Nat} {ta te : TE} {H : Hp} {Q : VK} (ha : ∀ (Q : VK), Q (.str z) H → ta σ H Q) (hz : z.cps.size ≤ 1000) (hw : ∀ x, wipe ((wipe σ vs).set i (some x)) vs = wipe σ vs)
    (he : ∀ (c : Nat) (H' : Hp) (Q : VK), Same H H' → Q (f c) H' → te ((wipe σ vs).set i (some (.str ⟨#[c]⟩))) H' Q)
    (q : ∀ (p : Addr) (H' : Hp), H p = none → Same H H' → H' p = some (.lst (z.cps.toList.map f)) → Q (.ref p) H') : tLc (iStr ta) (gName i) tYes te vs σ H Q := by
  refine ha _ ⟨z, rfl, fun p hp => ?_⟩
  refine lc_it (n := z.cps.size) walk_str (fun n H' => Same H H' ∧ H' p = some (.lst ((z.cps.toList.take n).map f))) ⟨Same.new hp _, upd_same⟩ (fun _ _ _ _ => trivial) ?_ ?_
  · rintro n x H1 H2 hn ⟨s1, e1⟩ ⟨rfl, c, hc, rfl⟩
    refine ⟨hw _, ?_⟩
    refine w_yes ?_
    refine w_iteT ?_
    refine (he c _ _ s1 ⟨_, e1, ?_, s1.mut hp, ?_⟩)
    · rw [List.length_map, List.length_take, Array.length_toList]
      exact Nat.lt_of_lt_of_le (Nat.lt_of_le_of_lt (Nat.min_le_left _ _) (Nat.lt_of_lt_of_le hn hz)) (by decide)
    · rw [upd_same, List.take_add_one]
      have : z.cps.toList[n]? = some c := by rw [Array.getElem?_toList]; exact hc
      rw [this]
      simp
  · rintro H' ⟨s1, e1⟩
    refine q p H' hp s1 ?_
    rw [e1, List.take_of_length_le (by rw [Array.length_toList] <;> exact Nat.le_refl _)]
end L2
end V0_part
section G0_part
set_option Elab.async false
set_option linter.all false
set_option maxRecDepth 100000
set_option maxHeartbeats 1000000
set_option pp.deepTerms.threshold 5
open PySem PySem.Spec PyProof.Rows L2
/-- go on as far as nothing is open -/
local macro_rules | `(tactic| walk_at "go") => `(tactic| repeat (first
  | with_reducible refine w_seq ?_ | with_reducible refine w_next ?_ | with_reducible refine w_set ?_ | with_reducible refine w_drop ?_ | with_reducible refine w_ret ?_ | with_reducible refine w_retN ?_
  | with_reducible refine w_if ?_ | ((with_reducible refine' w_var ?hv ?_); (case hv => exact rfl)) | with_reducible refine w_c ?_ | with_reducible refine w_nil ?_ | with_reducible refine w_cons ?_ | with_reducible refine w_op ?_ | with_reducible refine w_un ?_
  | with_reducible refine w_test ?_ | with_reducible refine w_tB ?_ | with_reducible refine w_not ?_ | with_reducible refine w_and ?_ | with_reducible refine w_or ?_ | with_reducible refine w_bl ?_
  | with_reducible refine w_andV ?_ | with_reducible refine w_orV ?_ | with_reducible refine w_notV ?_ | with_reducible refine w_ifE ?_ | with_reducible refine w_chain ?_ | with_reducible refine w_i0 ?_
  | with_reducible refine w_call ?_ | with_reducible refine w_callS ?_ | with_reducible refine w_cB ?_ | with_reducible refine w_tup ?_ | with_reducible refine w_lst ?_ | with_reducible refine w_fldV ?_
  | with_reducible refine w_neF ?_ | with_reducible refine w_neT ?_ | with_reducible refine w_notN ?_ | with_reducible refine w_isN ?_ | with_reducible refine w_gname ?_ | with_reducible refine w_gsub ?_ | with_reducible refine w_asg ?_ | with_reducible refine w_yes ?_ | with_reducible refine w_nT ?_ | with_reducible refine w_nF ?_ | with_reducible refine w_iteT ?_ | with_reducible refine w_iteF ?_))
namespace L2
open PySem PySem.Spec PyProof.Rows
section
variable {σ : St} {H : Hp} {te : TE} {tl th : TO} {Q : VK} {QO : Option Int → Hp → Prop} {r : V → Option Int → Option Int → Hp → VK → Prop}
theorem w_sl (h : te σ H fun x H1 => tl σ H1 fun l H2 => th σ H2 fun u H3 => r x l u H3 Q) : tSl r te tl th σ H Q := h
theorem w_noP (h : QO none H) : tNoPart σ H QO := h
theorem w_part (h : te σ H fun x H1 => ∃ i, x = .int i ∧ QO (some i) H1) : tPart te σ H QO := h
theorem w_int1 {i : Int} {P : Int → Prop} (h : P i) : ∃ j, V.int i = .int j ∧ P j := ⟨i, rfl, h⟩
end
end L2

namespace K3
/-! ### heaps less what may change -/
def less (H : Hp) (M : List Addr) : Hp := fun b => if b ∈ M then none else H b
/-- all stands, what is in M perhaps changed -/
def BM (M : List Addr) (H H' : Hp) : Prop := ∀ b o, H b = some o → ∃ o', H' b = some o' ∧ (b ∉ M → o' = o)
theorem BM.refl (M : List Addr) (H : Hp) : BM M H H := fun _ o h => ⟨o, h, fun _ => rfl⟩
theorem BM.trans {M : List Addr} {H H1 H2 : Hp} (a : BM M H H1) (b : BM M H1 H2) : BM M H H2 := fun c o h => by
  obtain ⟨o1, h1, k1⟩ := a c o h
  obtain ⟨o2, h2, k2⟩ := b c o1 h1
  exact ⟨o2, h2, fun k => (k2 k).trans (k1 k)⟩
theorem BM.at {M : List Addr} {H H1 : Hp} (a : BM M H H1) {b : Addr} {o : HO} (h : H b = some o) (k : b ∉ M) : H1 b = some o := by
  obtain ⟨o1, h1, k1⟩ := a b o h
  rw [h1, k1 k]
theorem BM.of {M : List Addr} {H H1 : Hp} (a : Same H H1) : BM M H H1 := fun c o h => ⟨o, a c o h, fun _ => rfl⟩
theorem BM.mono {M N : List Addr} {H H1 : Hp} (a : BM M H H1) (s : ∀ b ∈ M, b ∈ N) : BM N H H1 := fun c o h => by
  obtain ⟨o1, h1, k1⟩ := a c o h
  exact ⟨o1, h1, fun k => k1 fun z => k (s c z)⟩
theorem BM.upd {M : List Addr} {H : Hp} {p : Addr} (hp : p ∈ M) (o : HO) : BM M H (upd H p o) := fun b u h => by
  by_cases c : b = p
  · exact ⟨o, by rw [c]; exact upd_same, fun k => absurd (by rw [c]; exact hp) k⟩
  · exact ⟨u, by rw [upd_ne c]; exact h, fun _ => rfl⟩
theorem BM.less {M : List Addr} {H H1 : Hp} (a : BM M H H1) : Same (less H M) (less H1 M) := fun b o h => by
  unfold K3.less at h ⊢
  by_cases c : b ∈ M
  · rw [if_pos c] at h; cases h
  · rw [if_neg c] at h ⊢
    exact a.at h c
theorem BM.free {M : List Addr} {H H1 : Hp} (h : BM M H H1) {p : Addr} (hp : H1 p = none) : H p = none := by
  cases e : H p with
  | none => rfl
  | some o =>
    obtain ⟨o1, h1, _⟩ := h p o e
    rw [hp] at h1
    cases h1
theorem less_at {H : Hp} {M : List Addr} {b : Addr} {o : HO} (h : less H M b = some o) : H b = some o ∧ b ∉ M := by
  unfold less at h
  by_cases c : b ∈ M
  · rw [if_pos c] at h; cases h
  · rw [if_neg c] at h; exact ⟨h, c⟩
theorem less_of {H : Hp} {M : List Addr} {b : Addr} {o : HO} (h : H b = some o) (c : b ∉ M) : less H M b = some o := by
  unfold less
  rw [if_neg c]
  exact h
theorem less_same {H : Hp} {M : List Addr} : Same (less H M) H := fun b o h => (less_at h).1
/-- all of M is there -/
def In (M : List Addr) (H : Hp) : Prop := ∀ m ∈ M, ∃ o, H m = some o
theorem In.new {M : List Addr} {H : Hp} {p : Addr} (h : In M H) (hp : H p = none) : p ∉ M := fun z => by obtain ⟨o, e⟩ := h p z; rw [hp] at e; cases e
theorem In.bm {M N : List Addr} {H H' : Hp} (h : In M H) (e : BM N H H') : In M H' := fun m hm => by
  obtain ⟨o, q⟩ := h m hm
  obtain ⟨o', q', _⟩ := e m o q
  exact ⟨o', q'⟩
/-- the source of draws -/
def Src (H : Hp) (s : Addr) : Prop := ∃ a b c : Int, H s = some (.lst [.int a, .int b, .int c])
theorem Src.bm {M : List Addr} {H H' : Hp} {s : Addr} (h : Src H s) (e : BM M H H') (k : s ∉ M) : Src H' s := let ⟨a, b, c, q⟩ := h; ⟨a, b, c, e.at q k⟩
theorem Src.same {H H' : Hp} {s : Addr} (h : Src H s) (e : Same H H') : Src H' s := let ⟨a, b, c, q⟩ := h; ⟨a, b, c, e _ _ q⟩
theorem Paired.app {α β : Type} {F : α → β → Prop} : ∀ {l1 l3 : List α} {l2 l4 : List β}, Paired F l1 l2 → Paired F l3 l4 → Paired F (l1 ++ l3) (l2 ++ l4)
  | _, _, _, _, .nil, h => h
  | _, _, _, _, .cons a t, h => .cons a (Paired.app t h)
theorem Paired.get {α β : Type} {F : α → β → Prop} : ∀ {l1 : List α} {l2 : List β}, Paired F l1 l2 → ∀ {i : Nat} {x : α}, l1[i]? = some x → ∃ y, l2[i]? = some y ∧ F x y
  | _, _, .nil, i, x, h => by simp at h
  | _, _, .cons (a := a) (b := b) h t, 0, x, e => by
    have e' : a = x := by simpa using e
    subst e'
    exact ⟨b, rfl, h⟩
  | _, _, .cons h t, i + 1, x, e => Paired.get t (i := i) (by simpa using e)
def rEqE (K : PySem.W.Frag) : R2 := fun x y H Q => ∃ (a b : Addr) (xs ys : List V), x = .ref a ∧ y = .ref b ∧ SqL K H a xs ∧ SqL K H b ys ∧ (xs = [] ∨ ys = [] ∨ xs.length ≠ ys.length) ∧ Q (.bl (decide (xs = [] ∧ ys = []))) H
def rNeE (K : PySem.W.Frag) : R2 := fun x y H Q => ∃ (a b : Addr) (xs ys : List V), x = .ref a ∧ y = .ref b ∧ SqL K H a xs ∧ SqL K H b ys ∧ (xs = [] ∨ ys = [] ∨ xs.length ≠ ys.length) ∧ Q (.bl (!decide (xs = [] ∧ ys = []))) H
theorem sizes {xs ys : List V} {is js : List Value} (r1 : Vals xs is) (r2 : Vals ys js) (h : xs = [] ∨ ys = [] ∨ xs.length ≠ ys.length) (c : ¬ (xs = [] ∧ ys = [])) : (is.toArray.size != js.toArray.size) = true := by
  have e1 := r1.length
  have e2 := r2.length
  simp only [List.size_toArray, bne_iff_ne, ne_eq]
  rw [← e1, ← e2]
  intro z
  rcases h with h | h | h
  · rw [h] at z
    exact c ⟨h, List.length_eq_zero_iff.mp z.symm⟩
  · rw [h] at z
    exact c ⟨List.length_eq_zero_iff.mp z, h⟩
  · exact h z
theorem op_eqE {X : Cx} (hu : X.A.units < cLine) : OpR X (compareOp .Eq) (rEqE X.K) := by
  intro pins s σ H x y v u Q I rx ry h
  obtain ⟨a, b, xs, ys, rfl, rfl, ha, hb, hs, q⟩ := h
  cases rx
  cases ry
  obtain ⟨is, r1, p1, _⟩ := I.list ha
  obtain ⟨js, r2, p2, _⟩ := I.list hb
  by_cases c : xs = [] ∧ ys = []
  · rw [decide_eq_true c] at q
    obtain ⟨rfl, rfl⟩ := c
    cases r1
    cases r2
    exact SeqAt.eq_listAt (e := fun _ => true) p1.isList p2.isList rfl hu (fun j h1 => absurd h1 (Nat.not_lt_zero _)) ⟨.bl true, H, I, rfl, q⟩
  · rw [decide_eq_false c] at q
    exact SeqAt.eq_list_lengthsAt p1.isList p2.isList (sizes r1 r2 hs c) hu ⟨.bl false, H, I, rfl, q⟩
theorem op_neE {X : Cx} (hu : X.A.units < cLine) : OpR X (compareOp .NotEq) (rNeE X.K) := by
  intro pins s σ H x y v u Q I rx ry h
  obtain ⟨a, b, xs, ys, rfl, rfl, ha, hb, hs, q⟩ := h
  cases rx
  cases ry
  obtain ⟨is, r1, p1, _⟩ := I.list ha
  obtain ⟨js, r2, p2, _⟩ := I.list hb
  by_cases c : xs = [] ∧ ys = []
  · rw [decide_eq_true c] at q
    obtain ⟨rfl, rfl⟩ := c
    cases r1
    cases r2
    exact SeqAt.RcNeAt.lists (e := fun _ => true) p1.isList p2.isList rfl hu (fun j h1 => absurd h1 (Nat.not_lt_zero _)) X.prog X.w X.xe _ ⟨.bl false, H, I, rfl, q⟩
  · rw [decide_eq_false c] at q
    exact SeqAt.RcNeAt.lists_lengths p1.isList p2.isList (sizes r1 r2 hs c) hu X.prog X.w X.xe _ ⟨.bl true, H, I, rfl, q⟩

theorem cut_to (xs : List V) (i : Nat) : cutV xs none (some (i : Int)) = xs.take i := by
  unfold cutV
  rw [HT.sIx_none, HT.sIx_nat, List.drop_zero, Nat.sub_zero]
  by_cases h : i ≤ xs.length
  · rw [Nat.min_eq_left h]
  · rw [Nat.min_eq_right (by omega), List.take_length, List.take_of_length_le (by omega)]
theorem cut_from (xs : List V) (i : Nat) : cutV xs (some (i : Int)) none = xs.drop i := by
  unfold cutV
  rw [HT.sIx_none, HT.sIx_nat]
  by_cases h : i ≤ xs.length
  · rw [Nat.min_eq_left h, List.take_of_length_le (by rw [List.length_drop]; omega)]
  · rw [Nat.min_eq_right (by omega), List.drop_length, List.take_nil, List.drop_of_length_le (by omega)]
theorem w_ifR {tt : TT} {t u : TS} {D : L2.Ends} {σ : L2.St} {H : Hp} (R : Bool → Hp → Prop) (h : ∀ QB : Bool → Hp → Prop, (∀ b H', R b H' → QB b H') → tt σ H QB) (h1 : ∀ H', R true H' → t D σ H') (h2 : ∀ H', R false H' → u D σ H') : tIfS tt t u D σ H :=
  h _ fun b H' r => by
    cases b with
    | true => exact h1 H' r
    | false => exact h2 H' r
theorem less_upd {H : Hp} {M : List Addr} {p : Addr} (h : p ∈ M) (o : HO) : less (upd H p o) M = less H M := by
  funext b
  unfold K3.less
  by_cases c : b ∈ M
  · rw [if_pos c, if_pos c]
  · rw [if_neg c, if_neg c, upd_ne (fun z => c (by rw [z]; exact h))]
theorem less_sub {H : Hp} {M N : List Addr} (h : ∀ b ∈ M, b ∈ N) : Same (less H N) (less H M) := fun b o q => less_of (less_at q).1 fun z => (less_at q).2 (h b z)
end K3
end G0_part
section S1_part
set_option Elab.async false
set_option linter.all false
set_option maxRecDepth 100000
set_option maxHeartbeats 1000000
namespace SLam
open PySem PySem.Spec PySem.Calls PyProof.Rows PySem.W
/-- all stays, but the slots of frames -/
def Stay (fs : List Addr) (h h' : Heap) : Prop := h.objs.size ≤ h'.objs.size ∧ ∀ b o, h.get? b = some o → ∃ sl, h'.get? b = some { o with slots := sl } ∧ (b ∉ fs → sl = o.slots)
theorem Stay.refl (fs : List Addr) (h : Heap) : Stay fs h h := ⟨Nat.le_refl _, fun _ o e => ⟨o.slots, e, fun _ => rfl⟩⟩
theorem Stay.trans {fs : List Addr} {h h1 h2 : Heap} (p : Stay fs h h1) (q : Stay fs h1 h2) : Stay fs h h2 := ⟨Nat.le_trans p.1 q.1, fun c o e => by
  obtain ⟨sl, e1, n1⟩ := p.2 c o e
  obtain ⟨sl2, e2, n2⟩ := q.2 c _ e1
  exact ⟨sl2, e2, fun z => (n2 z).trans (n1 z)⟩⟩
theorem Stay.of {fs : List Addr} {h h' : Heap} (l : h.objs.size ≤ h'.objs.size) (k : ∀ b o, h.get? b = some o → h'.get? b = some o) : Stay fs h h' := ⟨l, fun b o e => ⟨o.slots, k b o e, fun _ => rfl⟩⟩
theorem Stay.exact {fs : List Addr} {h h' : Heap} (p : Stay fs h h') {b : Addr} {o : Obj} (e : h.get? b = some o) (n : b ∉ fs) : h'.get? b = some o := by
  obtain ⟨sl, e1, n1⟩ := p.2 b o e
  rw [n1 n] at e1
  exact e1
mutual
theorem stay_reads {fs : List Addr} {h h' : Heap} (p : Stay fs h h') : ∀ {v : Value} {d : PyData} {l : List Addr}, Reads h v d l → Reads h' v d l
  | _, _, _, .none => .none
  | _, _, _, .bool x => .bool x
  | _, _, _, .int x y => .int x y
  | _, _, _, .str x y => .str x y
  | _, _, _, .list x1 x2 x3 x4 => by
    obtain ⟨sl, e, _⟩ := p.2 _ _ x1
    exact .list e x2 x3 (stay_readsAll p x4)
  | _, _, _, .tuple x1 x2 x3 x4 => by
    obtain ⟨sl, e, _⟩ := p.2 _ _ x1
    exact .tuple e x2 x3 (stay_readsAll p x4)
  | _, _, _, .dict x1 x2 x3 x4 x5 => by
    obtain ⟨sl, e, _⟩ := p.2 _ _ x1
    exact .dict e x2 x3 (stay_readsAll p x4) (stay_readsAll p x5)
theorem stay_readsAll {fs : List Addr} {h h' : Heap} (p : Stay fs h h') : ∀ {v : List Value} {d : List PyData} {l : List Addr}, ReadsAll h v d l → ReadsAll h' v d l
  | _, _, _, .nil => .nil
  | _, _, _, .cons x1 x2 => .cons (stay_reads p x1) (stay_readsAll p x2)
end
/-- a heap's first objects -/
def cutH (h : Heap) (n : Nat) : Heap := { objs := h.objs.extract 0 n, life := h.life }
theorem cut_get {h : Heap} {n : Nat} {b : Addr} {o : Obj} (e : (cutH h n).get? b = some o) : h.get? b = some o ∧ b < n := by
  have lt := Heap.lt_size e
  have lt2 : b < n := by
    have : (cutH h n).objs.size ≤ n := by
      show (h.objs.extract 0 n).size ≤ n
      rw [Array.size_extract]
      omega
    exact Nat.lt_of_lt_of_le lt this
  refine ⟨?_, lt2⟩
  have q : (cutH h n).objs[b]? = h.objs[b]? := by
    show (h.objs.extract 0 n)[b]? = _
    rw [Array.getElem?_extract, Nat.zero_add]
    have : b < min n h.objs.size - 0 := by
      have : b < (h.objs.extract 0 n).size := lt
      rw [Array.size_extract] at this
      exact this
    rw [if_pos this]
  unfold Heap.get? at e ⊢
  rw [← q]
  exact e
theorem get_cut {h : Heap} {n : Nat} {b : Addr} {o : Obj} (e : h.get? b = some o) (lt : b < n) : (cutH h n).get? b = some o := by
  have sz := Heap.lt_size e
  have q : (cutH h n).objs[b]? = h.objs[b]? := by
    show (h.objs.extract 0 n)[b]? = _
    rw [Array.getElem?_extract, Nat.zero_add]
    rw [if_pos (show b < min n h.objs.size - 0 by rw [Nat.sub_zero]; exact Nat.lt_min.mpr ⟨lt, sz⟩)]
  unfold Heap.get? at e ⊢
  rw [q]
  exact e
section
variable {prog : Program} {w : World} {A : Around} {E : Value → Shared → Prop} {s : Shared} {a kS : Addr} {vs : List Value} {e1 : Nat} {P : PySem.Fin → Shared → Prop} {kz : List PyData} {fs : List Addr} {h₀ : Heap} {f : Value}
/-- a key's call, from any state that the former ones leave -/
def Turn (prog : Program) (w : World) (A : Around) (f : Value) (fs : List Addr) (h₀ : Heap) (s : Shared) (v : Value) (k : PyData) : Prop :=
  ∀ s1 : Shared, s1.os = s.os → AllBare s1.gens → Stay fs h₀ s1.heap → wpAny (model prog w) A (call f [v]) (fun u s2 => s2.os = s1.os ∧ AllBare s2.gens ∧ Stay fs s1.heap s2.heap ∧ Reads s2.heap u k []) (fun _ _ => False) s1
theorem rest_stay (st : Stay fs h₀ s.heap) (bare : AllBare s.gens) (la : h₀.objs.size ≤ a) (lk : h₀.objs.size ≤ kS) (fa : a ∉ fs) (fk : kS ∉ fs) (nk : s.heap.get? kS = some (seqObj "list" #[] 0)) (na : s.heap.get? a = some (seqObj "list" #[] e1)) (ne : kS ≠ a)
    (hlen : kz.length = vs.length) (hZ : vs.length ≤ sizeLine) (hal : AllAlike kz) (hsk : Sortable kz) (hu : ∀ d, d ∈ kz → A.units + d.depth < cLine)
    (turn : ∀ (i : Nat) (v : Value) (k : PyData), vs[i]? = some v → kz[i]? = some k → Turn prog w A f fs h₀ s v k)
    (done : ∀ s2 out c, s2.os = s.os → AllBare s2.gens → Stay fs h₀ s2.heap → s2.heap.get? a = some (seqObj "list" (List.toArray out) c) → KeyedOut false kz vs out → P (.done (.ret .none)) s2) :
    wpAny (model prog w) A (ksk_rest a f false vs.toArray e1 (.ref kS)) P E s := by
  unfold ksk_rest
  refine wpAny_bind (wpAny_rule ?_)
  first
    | rw [List.forIn_toArray]
    | (rw [← Array.forIn_toList]; simp only [List.toList_toArray])
    | rw [← Array.forIn_toList]
  refine wpAny_bind (ksk_fold (fun i s1 => ∃ kA e, s1.os = s.os ∧ AllBare s1.gens ∧ Stay fs h₀ s1.heap ∧ s1.heap.get? kS = some (seqObj "list" kA e) ∧ s1.heap.get? a = some (seqObj "list" #[] e1) ∧
    EachIs (fun v k => Reads s1.heap v k [] ∧ alike k k = true) kA.toList (kz.take i)) vs 0 s ⟨#[], 0, rfl, bare, st, nk, na, by rw [List.take_zero]; exact EachIs.nil⟩ ?one ?fin)
  case one =>
    rintro j x s1 hx ⟨kA, e, h1, h2, h3, h4, h5, h6⟩
    simp only [Nat.zero_add] at h6 ⊢
    have lj : j < vs.length := (List.getElem?_eq_some_iff.mp hx).1
    obtain ⟨k, hk⟩ : ∃ k, kz[j]? = some k := ⟨_, List.getElem?_eq_getElem (hlen ▸ lj)⟩
    have self : alike k k = true := hal k (List.mem_of_getElem? hk) k (List.mem_of_getElem? hk)
    have few : kA.size ≤ vs.length := by
      have q := h6.length
      rw [List.length_take, Array.length_toList] at q
      omega
    refine wpAny_bind (wpAny_attempt (wpAny_mono (turn j x k hx hk s1 h1 h2 h3) (fun u s2 q => ?_) fun _ _ z => z.elim))
    obtain ⟨q1, q2, q3, q4⟩ := q
    try dsimp only
    have k2 := q3.exact h4 fk
    have a2 := q3.exact h5 fa
    have but := Heap.SameBut.update s2.heap kS (Obj.mapSeq (·.push u))
    obtain ⟨c, hc⟩ : ∃ c, (s2.heap.update kS (Obj.mapSeq (·.push u))).get? kS = some (seqObj "list" (kA.push u) c) := ⟨_, get?_update_seq k2 (·.push u)⟩
    have low : ∀ b o, h₀.get? b = some o → b < h₀.objs.size := fun b o q => Heap.lt_size q
    have grown : Stay fs h₀ (s2.heap.update kS (Obj.mapSeq (·.push u))) := ⟨by rw [Heap.size_update]; exact (h3.trans q3).1, fun b o q => by
      obtain ⟨sl, g1, g2⟩ := (h3.trans q3).2 b o q
      have nb : b ≠ kS := fun z => by
        have := low b o q
        rw [z] at this
        exact absurd lk (Nat.not_le.mpr this)
      exact ⟨sl, (but.2 b nb).trans g1, g2⟩⟩
    have sz2 : (kA.push u).size ≤ sizeLine + 1 := by
      rw [Array.size_push]
      omega
    refine wpAny_bind (listUpdate_at k2 rfl ?_ (Nat.le_trans few hZ) sz2)
    refine wpAny_pure ⟨rfl, kA.push u, c, q1.trans h1, q2, grown, hc, (but.2 a ne.symm).trans a2, ?_⟩
    have still : ∀ (v : Value) (d : PyData), Reads s2.heap v d [] ∧ alike d d = true → Reads (s2.heap.update kS (Obj.mapSeq (·.push u))) v d [] ∧ alike d d = true := fun v d q =>
      ⟨Reads.keepBut (a := kS) (fun b o nb q => (but.2 b nb).trans q) (fun o q => by rw [k2] at q; cases q; rfl) d v [] q.2 q.1 (by simp), q.2⟩
    rw [Array.toList_push, List.take_add_one, hk]
    exact each_snoc (R := fun (v : Value) (d : PyData) => Reads (s2.heap.update kS (Obj.mapSeq (·.push u))) v d [] ∧ alike d d = true) (still u k ⟨q4, self⟩) (h6.mono fun v d z => still v d ⟨stay_reads q3 z.1, z.2⟩)
  case fin =>
    rintro s1 ⟨kA, e, h1, h2, h3, h4, h5, h6⟩
    have all : kz.take (0 + vs.length) = kz := List.take_of_length_le (by omega)
    rw [all] at h6
    have h7 : EachIs (fun v k => ∃ l, Reads s1.heap v k l) kA.toList kz := h6.mono fun v k z => ⟨[], z.1⟩
    have szk : kA.size = vs.length := by
      have q := h7.length
      rw [Array.length_toList] at q
      omega
    try dsimp only
    refine wpAny_bind (listItems_at h4 rfl ?_)
    have cutk : (cutH s1.heap h₀.objs.size).get? kS = none := by
      cases q : (cutH s1.heap h₀.objs.size).get? kS with
      | none => rfl
      | some o =>
        exact absurd lk (Nat.not_le.mpr (cut_get q).2)
    refine keyH_end (κ := dataKind s1.heap kz) (h₁ := cutH s1.heap h₀.objs.size) (fun b o _ q => (cut_get q).1) cutk h4 h5 ne (SortsAt.data h7 hal hsk hu) szk hZ fun h' tk c k3 n3 => ?_
    refine done { s1 with heap := h', toks := tk } _ c h1 h2 ⟨Nat.le_trans la (Nat.le_of_lt (Heap.lt_size n3)), fun b o q => ?_⟩ n3 ⟨s1.heap, kA.toList, hal, rfl, h7⟩
    have lb := Heap.lt_size q
    obtain ⟨sl, g1, g2⟩ := h3.2 b o q
    exact ⟨sl, k3 b _ (fun z => by rw [z] at lb; exact absurd la (Nat.not_le.mpr lb)) (get_cut g1 lb), g2⟩
/-- sorted(xs, key = f): f may be a function of the program's own; the rest of the heap but for slots of frames is as it was -/
theorem sorted_stay {β : Type} {bs : List β} {R : Value → β → Prop} {l : Addr} {kw : List (Str × Value)} {Q : Value → Shared → Prop} (k : β → PyData) (hl : s.heap.IsList l vs.toArray) (each : EachIs R vs bs) (hal : AllAlike (bs.map k)) (hsk : Sortable (bs.map k)) (few : bs.length ≤ sizeLine)
    (hu : ∀ x, x ∈ bs → A.units + 2 + (k x).depth < cLine) (bare : AllBare s.gens) (hfs : ∀ b ∈ fs, b < s.heap.objs.size) (ok1 : argsOk "sorted" ⟨[.ref l], kw⟩) (ok2 : ∀ x, argsOk "list.sort" ⟨[.ref x], kw⟩) (tree : ∀ x, Builtin.«list.sort» ⟨[.ref x], kw⟩ = ksk_tree x f false)
    (turn : ∀ (v : Value) (x : β), R v x → x ∈ bs → Turn prog w A.in1.in1 f fs s.heap s v (k x))
    (done : ∀ s2 out c, s2.os = s.os → AllBare s2.gens → Stay fs s.heap s2.heap → s2.heap.get? (s.heap.objs.size + 1) = some (seqObj "list" (List.toArray out) c) → EachIs R out (bs.mergeSort (dataLe false k)) → Q (.ref (s.heap.objs.size + 1)) s2) :
    wpAny (model prog w) A (call (.builtin "sorted") [.ref l] kw) Q E s := by
  have lenv : vs.length ≤ sizeLine := by rw [each.length]; exact few
  refine sorted_of_sort hl lenv ok1 ok2 fun E' => ?_
  rw [tree]
  have hcopy := copyHeap_at s.heap vs
  have hbig : s.heap.objs.size + 1 < (copyHeap s.heap vs).objs.size := Heap.lt_size hcopy
  have hold : ∀ b o, s.heap.get? b = some o → (copyHeap s.heap vs).get? b = some o := fun b o q => copyHeap_old q
  generalize copyHeap s.heap vs = hc at hcopy hbig hold ⊢
  obtain ⟨e1, hc1⟩ : ∃ e1, (hc.update (s.heap.objs.size + 1) (Obj.mapSeq fun _ => (#[] : Array Value))).get? (s.heap.objs.size + 1) = some (seqObj "list" #[] e1) := ⟨_, get?_update_seq hcopy fun _ => #[]⟩
  have szt : ((hc.update (s.heap.objs.size + 1) (Obj.mapSeq fun _ => (#[] : Array Value))).push (seqObj "tuple" vs.toArray 0)).objs.size = hc.objs.size + 1 := by rw [size_push', Heap.size_update]
  unfold ksk_tree
  refine wpAny_bind (listItems_at hcopy rfl ?_)
  refine wpAny_bind (listUpdate_at hcopy rfl ?_ (by rw [List.size_toArray]; exact lenv) (Nat.zero_le _))
  refine wpAny_bind (seqEpoch_at hc1 rfl ?_)
  refine wpAny_bind (wpAny_newTuple ?_ (by show vs.length ≤ _; exact lenv))
  refine wpAny_bind (wpAny_newList ?_ (Nat.zero_le _))
  refine wpAny_holding ?_
  have but := Heap.SameBut.update hc (s.heap.objs.size + 1) (Obj.mapSeq fun _ => (#[] : Array Value))
  have notf : ∀ b : Addr, s.heap.objs.size ≤ b → b ∉ fs := fun b q z => absurd (hfs b z) (Nat.not_lt.mpr q)
  refine rest_stay (h₀ := s.heap) (fs := fs) (kz := bs.map k) (A := A.in1.in1)
    (s := { s with heap := ((hc.update (s.heap.objs.size + 1) (Obj.mapSeq fun _ => (#[] : Array Value))).push (seqObj "tuple" vs.toArray 0)).push (seqObj "list" #[] 0) })
    (kS := ((hc.update (s.heap.objs.size + 1) (Obj.mapSeq fun _ => (#[] : Array Value))).push (seqObj "tuple" vs.toArray 0)).objs.size)
    (Stay.of ?sz fun b o q => ?_) bare (Nat.le_succ _) (by rw [szt]; exact Nat.le_trans (Nat.le_succ _) (Nat.le_succ_of_le (Nat.le_of_lt hbig))) (notf _ (Nat.le_succ _)) (notf _ (by rw [szt]; exact Nat.le_trans (Nat.le_succ _) (Nat.le_succ_of_le (Nat.le_of_lt hbig))))
    (Heap.get?_push_size _ rfl) (Heap.get?_push_of_some _ (Heap.get?_push_of_some _ hc1)) (by rw [szt]; exact Nat.ne_of_gt (Nat.lt_succ_of_lt hbig)) (by rw [List.length_map]; exact each.length.symm) lenv hal hsk (bound_map (A := A.in1.in1) hu) ?_ ?_
  case sz =>
    show _ ≤ (((hc.update (s.heap.objs.size + 1) (Obj.mapSeq fun _ => (#[] : Array Value))).push (seqObj "tuple" vs.toArray 0)).push (seqObj "list" #[] 0)).objs.size
    rw [size_push', szt]
    omega
  · have nb : b ≠ s.heap.objs.size + 1 := fun z => by
      have := Heap.lt_size q
      rw [z] at this
      exact absurd this (Nat.not_lt.mpr (Nat.le_succ _))
    exact Heap.get?_push_of_some _ (Heap.get?_push_of_some _ ((but.2 b nb).trans (hold b o q)))
  · intro i v d hv hd
    rw [List.getElem?_map] at hd
    cases q : bs[i]? with
    | none => rw [q] at hd; cases hd
    | some x =>
      rw [q] at hd
      cases hd
      have hz : (v, x) ∈ vs.zip bs := List.mem_of_getElem? (i := i) (by rw [List.getElem?_zip_eq_some]; exact ⟨hv, q⟩)
      exact turn v x (each.zip _ hz) (List.mem_of_getElem? q)
  · intro s2 out c d1 d2 d3 d4 d5
    exact ⟨rfl, done s2 out c d1 d2 d3 d4 (keyedOut_each k d5 each)⟩
end
end SLam
end S1_part
section S2_part
set_option Elab.async false
set_option linter.all false
set_option maxRecDepth 100000
set_option maxHeartbeats 1000000
namespace SLam
open PySem PySem.Spec PyProof.Rows L2 LamX
/-- a lambda of one parameter x: its scope, in the maker's sc -/
structure Lam1 (sc scope : Scope) (x : Str) : Prop where
  kind : scope.kind = .function
  co : scope.isCoroutine = false
  gen : scope.isGenerator = false
  own : ∀ y ∈ scope.names, (y.2 = .local → y.1 = x) ∧ y.2 ≠ .cell
  par : scope.names.lookup x = some .local
  free : ∀ y ∈ scope.names, y.2 = .free → sc.names.lookup y.1 = some .cell ∨ sc.names.lookup y.1 = some .free
def lam1B (sc scope : Scope) (x : Str) : Bool :=
  decide (scope.kind = .function) && (!scope.isCoroutine && (!scope.isGenerator && (decide (scope.names.lookup x = some .local) && scope.names.all fun y => (!decide (y.2 = .local) || decide (y.1 = x)) && (!decide (y.2 = .cell) && (!decide (y.2 = .free) || (decide (sc.names.lookup y.1 = some .cell) || decide (sc.names.lookup y.1 = some .free)))))))
theorem lam1_by {sc scope : Scope} {x : Str} (h : lam1B sc scope x = true) : Lam1 sc scope x := by
  unfold lam1B at h
  simp only [Bool.and_eq_true, Bool.or_eq_true, Bool.not_eq_true', decide_eq_true_eq, decide_eq_false_iff_not, List.all_eq_true] at h
  obtain ⟨h1, h2, h3, h4, h5⟩ := h
  refine ⟨h1, h2, h3, fun y hy => ⟨fun z => ?_, (h5 y hy).2.1⟩, h4, fun y hy z => ?_⟩
  · exact (h5 y hy).1.resolve_left fun q => q z
  · exact (h5 y hy).2.2.resolve_left fun q => q z
theorem Lam1.has {X : Cx} {scope : Scope} {x : Str} (L : Lam1 X.env.scope scope x) (ok : X.Ok) : ∀ y ∈ scope.names, y.2 = .free → ∃ c, X.env.cells.lookup y.1 = some c := fun y hy e =>
  (L.free y hy e).elim (fun k => ok.has _ (.inl k)) fun k => ok.has _ (.inr k)
/-- the context of its body -/
def lamCx1 (X : Cx) (A : Around) (s : Shared) (H : Hp) (scope : Scope) (x : Str) (f c' : Addr) : Cx where
  prog := X.prog
  w := X.w
  K := X.K
  mg := X.mg
  base := X.base
  A := A.deeper (lamEnv X scope s.heap.objs.size f c')
  N := X.N ++ [x]
  s_0 := s
  H_0 := H
  env := lamEnv X scope s.heap.objs.size f c'
  outer := X.stack
  stack := lamEnv X scope s.heap.objs.size f c' :: X.stack
  ex := []
  fn := fun _ => false
  calm := true
  pn := []
  xe := fun _ _ => False
/-- of what is known the lists and tuples, each with its very own content -/
def Frz (H HZ : Hp) : Prop := (∀ b, H b = none → HZ b = none) ∧ (∀ b xs, Rd H b (.lst xs) → ∃ o, HZ b = some (.frz o (.lst xs))) ∧ (∀ b xs, Rd H b (.tup xs) → ∃ o, HZ b = some (.frz o (.tup xs))) ∧ ∀ b u, HZ b = some u → ∃ o u', u = .frz o u'
theorem Frz.sql {K : PySem.W.Frag} {H HZ : Hp} (z : Frz H HZ) {a : Addr} {xs : List V} (h : SqL K H a xs) : SqL K HZ a xs := h.elim (fun h => .inl (let ⟨o, e⟩ := z.2.1 a xs h; .inr ⟨o, e⟩)) .inr
theorem Frz.sqt {K : PySem.W.Frag} {H HZ : Hp} (z : Frz H HZ) {a : Addr} {xs : List V} (h : SqT K H a xs) : SqT K HZ a xs := h.elim (fun h => .inl (let ⟨o, e⟩ := z.2.2.1 a xs h; .inr ⟨o, e⟩)) .inr
def frzH (H : Hp) (h : Heap) : Hp := fun b => match H b, h.get? b with
  | some (.lst xs), some o => some (.frz o (.lst xs))
  | some (.tup xs), some o => some (.frz o (.tup xs))
  | some (.frz o (.lst xs)), _ => some (.frz o (.lst xs))
  | some (.frz o (.tup xs)), _ => some (.frz o (.tup xs))
  | _, _ => none
section
variable {X : Cx} {pins : List (Addr × Obj)} {σ : L2.St} {H HZ : Hp} {s s1 : Shared}
theorem frz_of (I : Inv X pins σ H s) : Frz H (frzH H s.heap) ∧ HOk X.prog X.w (frzH H s.heap) s.heap := by
  have lst : ∀ b xs, H b = some (.lst xs) → ∃ o, s.heap.get? b = some o ∧ ObjOk X.prog X.w (frzH H s.heap) s.heap b (.frz o (.lst xs)) := fun b xs e => by
    obtain ⟨z, its, n, r, q⟩ := I.hok b _ e
    exact ⟨_, q, q, z, its, n, r, q⟩
  have tup : ∀ b xs, H b = some (.tup xs) → ∃ o, s.heap.get? b = some o ∧ ObjOk X.prog X.w (frzH H s.heap) s.heap b (.frz o (.tup xs)) := fun b xs e => by
    obtain ⟨z, its, r, ob, q, c⟩ := I.hok b _ e
    exact ⟨_, q, q, z, its, r, ob, q, c⟩
  have frl : ∀ b o xs, H b = some (.frz o (.lst xs)) → ObjOk X.prog X.w (frzH H s.heap) s.heap b (.frz o (.lst xs)) := fun b o xs e => I.hok b _ e
  have frt : ∀ b o xs, H b = some (.frz o (.tup xs)) → ObjOk X.prog X.w (frzH H s.heap) s.heap b (.frz o (.tup xs)) := fun b o xs e => I.hok b _ e
  refine ⟨⟨fun b e => ?_, fun b xs e => ?_, fun b xs e => ?_, fun b u e => ?_⟩, fun b u e => ?_⟩
  · unfold frzH
    rw [e]
  · rcases e with e | ⟨o, e⟩
    · obtain ⟨o, q, _⟩ := lst b xs e
      exact ⟨o, by unfold frzH; rw [e, q]⟩
    · exact ⟨o, by unfold frzH; rw [e]⟩
  · rcases e with e | ⟨o, e⟩
    · obtain ⟨o, q, _⟩ := tup b xs e
      exact ⟨o, by unfold frzH; rw [e, q]⟩
    · exact ⟨o, by unfold frzH; rw [e]⟩
  · unfold frzH at e
    split at e
    · cases e; exact ⟨_, _, rfl⟩
    · cases e; exact ⟨_, _, rfl⟩
    · cases e; exact ⟨_, _, rfl⟩
    · cases e; exact ⟨_, _, rfl⟩
    · cases e
  · unfold frzH at e
    split at e
    · rename_i xs o e1 e2
      cases e
      obtain ⟨o', q, k⟩ := lst b xs e1
      rw [e2] at q
      cases q
      exact k
    · rename_i xs o e1 e2
      cases e
      obtain ⟨o', q, k⟩ := tup b xs e1
      rw [e2] at q
      cases q
      exact k
    · cases e
      exact frl b _ _ (by assumption)
    · cases e
      exact frt b _ _ (by assumption)
    · cases e
/-- the same def's own view behind the former calls -/
theorem inv_stay (I : Inv X pins σ H s) (ho : s1.os = s.os) (bare : AllBare s1.gens) (st : Stay (frs X.stack) s.heap s1.heap) : Inv X pins σ H s1 := by
  have nof : ∀ b u, H b = some u → b ∉ frs X.stack := fun b u e z => by
    rw [I.stkFree b z] at e
    cases e
  refine I.call' (H' := H) (ch := []) ho ⟨fun b o e _ n _ => st.exact e n, fun b o e _ _ _ => (st.2 b o e).imp fun sl q => q.1, fun b o _ n _ => n, fun b o e _ => let ⟨sl, q, _⟩ := st.2 b o e; ⟨_, q⟩, fun b xs e => e, fun b o u e => e, fun b ps e => ⟨#[], by simpa using e⟩⟩ (fun b u e => ?_) bare (fun b z => absurd z (by simp))
  refine (I.hok b u e).stay (fun d v hd q => st.exact q ?_) (fun d q => q) fun d xs q => q
  rcases hd with rfl | hd
  · exact nof _ u e
  · exact nof _ _ hd
theorem lam1_start {A : Around} {scope : Scope} {x : Str} {f c' : Addr} {h₁ : Heap} {tk : Nat} {v : V} {u : Value} (I : Inv X pins σ H s) (L : Lam1 X.env.scope scope x) (nx : x ∉ X.N) (e0 : Env0 X.prog X.w X.K X.mg X.base A X.stack s HZ) (z : ∀ b, H b = none → HZ b = none) (hd : A.handled = none) (rv : RelV v u)
    (hns : h₁.Ns s.heap.objs.size fun y => [(x, u)].reverse.lookup y) (kp : ∀ b o, s.heap.get? b = some o → h₁.get? b = some o) :
    Inv (lamCx1 X A s HZ scope x f c') [] (σ ++ [some v]) HZ { s with heap := h₁, toks := tk } := by
  have hfree := L.has I.ok
  have cm : ∀ {y c}, (cloFrom X.env.cells scope.names []).lookup y = some c → X.env.cells.lookup y = some c := fun {y c} e => by
    rcases cloFrom_mem (PySem.mem_of_lookup e) with hm | ⟨h1, h2⟩
    · cases hm
    · obtain ⟨c1, hc⟩ := hfree _ h1 rfl
      have hc : X.env.cells.lookup y = some c1 := hc
      have : c = c1 := by rw [h2, hc] <;> rfl
      rw [this]
      exact hc
  have look : ∀ {y}, scope.names.lookup y = some .free → ∃ c, (cloFrom X.env.cells scope.names []).lookup y = some c := fun {y} hl => by
    have hy : (y, NameKind.free) ∈ scope.names := PySem.mem_of_lookup hl
    exact mem_lookup (cloFrom_has (cells := X.env.cells) (acc := []) hy)
  have cellK : ∀ {c : Addr} {v : Option Value}, s.heap.IsCell c v → h₁.IsCell c v := fun {c v} q => q.imp fun o q => ⟨kp _ _ q.1, q.2⟩
  have noA : ∀ b : Addr, b ∉ (lamCx1 X A s HZ scope x f c').ex := fun b z => absurd (show b ∈ ([] : List Addr) from z) (by simp)
  have nocell : ∀ {y}, scope.names.lookup y ≠ some .cell := fun {y} k => (L.own _ (PySem.mem_of_lookup k)).2 rfl
  refine ⟨⟨e0.mod, L.kind, rfl, rfl, Nat.le_refl _, fun y z c e1 e2 => I.ok.inj y z c (cm e1) (cm e2), fun y hy => ?has, fun y c z _ => ?cab, fun _ => hd, Around.frames_deeper e0.frames, .inr ⟨rfl, rfl⟩, fun b z => absurd z (noA b), e0.bs, e0.bsz, fun b _ _ => noA b,
      fun b z => absurd z (noA b), e0.funs, e0.frf⟩,
    rfl, e0.bare, Un.kept kp, ⟨_, hns, fun i y v' e1 e2 e3 => ?loc⟩, fun y c e => ?cell, e0.hok.fresh (Nat.le_refl _), fun y c e => ?freeC, fun q hq => absurd (show q ∈ ([] : List (Addr × Obj)) ++ [] from hq) (by simp), e0.hok.kept kp, ?len⟩
  case has =>
    have hy : scope.names.lookup y = some .cell ∨ scope.names.lookup y = some .free := hy
    exact hy.elim (fun k => absurd k nocell) look
  case cab =>
    have z : false = true := z
    cases z
  case cell =>
    obtain ⟨w', q⟩ := I.cell y c (cm e)
    exact ⟨w', cellK q⟩
  case freeC => exact z c (I.freeC y c (cm e))
  case len =>
    show (σ ++ [some v]).length = (X.N ++ [x]).length
    rw [List.length_append, List.length_append, I.len]
    rfl
  case loc =>
    have e1 : (X.N ++ [x])[i]? = some y := e1
    have e3 : Vis scope y := e3
    by_cases hi : i < X.N.length
    · rw [List.getElem?_append_left hi] at e1
      rw [List.getElem?_append_left (by rw [I.len]; exact hi)] at e2
      rcases e3 with k | k | k
      · have : y = x := (L.own _ (PySem.mem_of_lookup k)).1 rfl
        rw [this] at e1
        exact absurd (List.mem_of_getElem? e1) nx
      · exact absurd k nocell
      · obtain ⟨m, hn, hl⟩ := I.loc
        have hvis : Vis X.env.scope y := (L.free _ (PySem.mem_of_lookup k) rfl).elim (fun k => .inr (.inl k)) (fun k => .inr (.inr k))
        obtain ⟨w', r, q⟩ := hl i y v' e1 e2 hvis
        obtain ⟨c2, h2⟩ := look k
        refine ⟨w', r, .inr ⟨.inr k, c2, h2, ?_⟩⟩
        have c1 := cm h2
        rcases q with ⟨k', _⟩ | ⟨_, c3, e', z⟩
        · have k' : X.env.scope.names.lookup y = some .local := k'
          rcases L.free _ (PySem.mem_of_lookup k) rfl with k2 | k2 <;> rw [show X.env.scope.names.lookup y = _ from k2] at k' <;> cases k'
        · rw [c1] at e'
          cases e'
          exact cellK z
    · have lN : σ.length = X.N.length := I.len
      rw [List.getElem?_append_right (by omega)] at e1
      rw [List.getElem?_append_right (by omega)] at e2
      have i0 : i - X.N.length = 0 := by
        have := (List.getElem?_eq_some_iff.mp e1).1
        simp at this
        omega
      rw [i0] at e1
      rw [lN, i0] at e2
      cases e1
      cases e2
      refine ⟨u, rv, .inl ⟨L.par, ?_⟩⟩
      show [(x, u)].reverse.lookup x = some u
      simp
/-- the lambda's call on a key, behind any of the former ones -/
theorem lam_turn {scope : Scope} {x : Str} {f c' : Addr} {params : Arguments} {body : Expr} {pm ctv : Value} {k : Nat} {v : V} {u : Value} {d : PyData} {tb : TE} (I : Inv X pins σ H s) (L : Lam1 X.env.scope scope x) (nx : x ∉ X.N)
    (hf : s.heap.get? f = some (PySem.W.kla_obj "<lambda>" (X.env.qual ++ "<lambda>") params body scope (cloFrom X.env.cells scope.names []) pm c' ctv)) (hfr : f ∉ frs X.stack) (hco : H c' = some (CodeO c' (X.env.qual ++ "<lambda>"))) (rv : RelV v u)
    (hbind : bindArgs (PySem.W.kla_fn "<lambda>" (X.env.qual ++ "<lambda>") params body scope (cloFrom X.env.cells scope.names []) pm (.ref c') ctv) ⟨[u], []⟩ = pure [(x, u)]) (hr : Room (k + 3) X.A)
    (hbody : ∀ (A : Around) (s : Shared) (HZ : Hp), Room k (A.deeper (lamEnv X scope s.heap.objs.size f c')) → PE (lamCx1 X A s HZ scope x f c') body tb)
    (ht : ∀ HZ, Frz H HZ → tb (σ ++ [some v]) HZ fun y H' => Dp X.K H' y d) (nl : ∀ h u l, Reads h u d l → l = []) : Turn X.prog X.w X.A.in1.in1 (.ref f) (frs X.stack) s.heap s u d := by
  intro s1 ho bare st
  have I1 := inv_stay I ho bare st
  obtain ⟨fz, hz⟩ := frz_of I1
  have hr1 : Room (k + 1) X.A.in1.in1 := Room.in1 (Room.in1 hr)
  have e := I1.env0.in1.in1
  have e0 : Env0 X.prog X.w X.K X.mg X.base X.A.in1.in1 X.stack s1 (frzH H s1.heap) := ⟨e.frames, e.mod, fun b o q => ⟨(e.bs b o q).1, fz.1 b (e.bs b o q).2⟩, e.bsz, e.funs, fun b q => fz.1 b (e.frf b q), hz, e.bare⟩
  have of1 := st.exact hf hfr
  obtain ⟨⟨oc, vs, t, hoc, hdc, hvc⟩, _, _⟩ := I1.hok c' _ hco
  have rc : codeAny (model X.prog X.w) X.A.in1.in1 (.call (.ref f) ⟨[u], []⟩) (fun r s' => ∃ u', r = .ok (.ret u') ∧ s'.os = s1.os ∧ AllBare s'.gens ∧ Stay (frs X.stack) s1.heap s'.heap ∧ Reads s'.heap u' d []) s1 := by
    refine PySem.W.kla_callFunE hr1.depth of1 rfl L.co L.gen rfl ⟨c', oc, vs, t, rfl, hoc, hdc, hvc⟩ ?_
    rw [hbind]
    refine wpAny_pure (wpAny_newFunctionEnv (fun y hy => (L.own y hy).2) (fun y hy => by rw [List.mem_singleton.mp hy]; exact L.par) (fun h₁ hns hsb => ⟨I1.nolimit.fresh _ hsb, ?_⟩) L.kind)
    show codeAny _ _ (.expr body (lamEnv X scope s1.heap.objs.size f c')) _ _
    have kp : ∀ b o, s1.heap.get? b = some o → h₁.get? b = some o := fun b o e => hsb.extBut b o (Nat.ne_of_lt (Heap.lt_size e)) (Heap.get?_push_of_some _ e)
    have J := lam1_start (A := X.A.in1.in1) (f := f) (c' := c') (tk := s1.toks + [(x, u)].length) I1 L nx e0 fz.1 hr1.hd rv hns kp
    refine PySem.W.kla_codeExpr (wpAny_mono ((hbody _ s1 _ (hr1.deeper _)).run [] _ _ (frzH H s1.heap) _ J (ht _ fz)) (fun u' s' hq => ?_) fun _ _ hq => hq.elim)
    obtain ⟨y, H', J', ry, q⟩ := hq
    obtain ⟨l, rd⟩ := Dp.reads J' d y u' q ry
    rw [nl _ _ _ rd] at rd
    refine ⟨u', rfl, J'.os, J'.bare, ⟨J'.sz, fun b o e => ?_⟩, rd⟩
    cases hb : frzH H s1.heap b with
    | none =>
      by_cases m : b ∈ frs X.stack
      · obtain ⟨sl, q⟩ := J'.base.slot b o e hb m (fun z => by cases z)
        exact ⟨sl, q, fun n => absurd m n⟩
      · exact ⟨o.slots, J'.base.keep b o e hb m (fun z => by cases z), fun _ => rfl⟩
    | some u0 =>
      obtain ⟨o', u1, rfl⟩ := fz.2.2.2 b u0 hb
      have k1 := (hz b _ hb).1
      rw [e] at k1
      cases k1
      exact ⟨o.slots, (J'.hok b _ (J'.base.frzs b o u1 hb)).1, fun _ => rfl⟩
  refine wpAny_call (codeAny_mono rc fun r s' hq => ?_)
  obtain ⟨u', rfl, h1, h2, h3, h4⟩ := hq
  exact ⟨h1, h2, h3, h4⟩
/-- a new list, tracked from now on -/
theorem inv_made {p : Addr} {ys : List V} {out : List Value} {c : Nat} (I : Inv X pins σ H s) (ho : s1.os = s.os) (bare : AllBare s1.gens) (st : Stay (frs X.stack) s.heap s1.heap) (hp : s.heap.objs.size ≤ p) (hg : s1.heap.get? p = some { cls := .type "list", data := .seq out.toArray c }) (rv : Vals ys out) (few : ys.length ≤ sizeLine) :
    Inv X pins σ (upd H p (.lst ys)) s1 := by
  have p0 : H p = none := I.hok.fresh hp
  have nof : ∀ b u, H b = some u → b ∉ frs X.stack := fun b u e z => by
    rw [I.stkFree b z] at e
    cases e
  have old : ∀ b u, H b = some u → upd H p (.lst ys) b = some u := fun b u e => by rw [upd_ne (ne_of_none e p0)]; exact e
  refine I.call' (H' := upd H p (.lst ys)) (ch := []) ho ⟨fun b o e n _ => st.exact e |> fun k => fun _ => k ‹_›, fun b o e _ _ _ => (st.2 b o e).imp fun sl q => q.1, fun b o e n _ => ?free, fun b o e _ => let ⟨sl, q, _⟩ := st.2 b o e; ⟨_, q⟩, fun b xs e => old b _ e, fun b o u e => old b _ e, fun b ps e => ⟨#[], by rw [old b _ e]; simp⟩⟩ (fun b u e => ?ok) bare (fun b z => absurd z (by simp))
  case free =>
    have lt := Heap.lt_size e
    rw [upd_ne (fun z => by rw [z] at lt; exact absurd lt (Nat.not_lt.mpr hp))]
    exact n
  case ok =>
    by_cases hb : b = p
    · subst hb
      rw [upd_same] at e
      cases e
      exact ⟨few, out, c, rv, hg⟩
    · rw [upd_ne hb] at e
      refine (I.hok b u e).stay (fun d v hd q => st.exact q ?_) (fun d q => old d _ q) fun d xs q => old d _ q
      rcases hd with rfl | hd
      · exact nof _ u e
      · exact nof _ _ hd
theorem sql_ext {K : PySem.W.Frag} {H1 : Hp} (e : ExtN H H1) {a : Addr} {xs : List V} (h : SqL K H a xs) : SqL K H1 a xs := by
  rcases h with (h | ⟨o, h⟩) | h
  · exact .inl (.inl (e _ _ h fun ps z => by cases z))
  · exact .inl (.inr ⟨o, e _ _ h fun ps z => by cases z⟩)
  · exact .inr h
theorem two_reads {h : Heap} {us : List Value} {d1 d2 : PyData} {l : List Addr} (q : ReadsAll h us [d1, d2] l) : ∃ u1 u2 l1 l2, l = l1 ++ l2 ∧ Reads h u1 d1 l1 ∧ Reads h u2 d2 l2 := by
  cases q with
  | cons r1 q =>
    cases q with
    | cons r2 q =>
      cases q
      exact ⟨_, _, _, _, by rw [List.append_nil], r1, r2⟩
theorem tup_reads {h : Heap} {u : Value} {ds : List PyData} {l : List Addr} (r : Reads h u (.tuple ds) l) : ∃ us, ReadsAll h us ds l := by
  cases r with
  | tuple _ _ _ q => exact ⟨_, q⟩
theorem int_reads {h : Heap} {u : Value} {n : Int} {l : List Addr} (r : Reads h u (.int n) l) : l = [] := by
  cases r
  rfl
theorem key_nolist {h : Heap} {u : Value} {l : List Addr} {n i j : Int} (r : Reads h u (.tuple [.int n, .tuple [.int i, .int j]]) l) : l = [] := by
  obtain ⟨us, q⟩ := tup_reads r
  obtain ⟨u1, u2, l1, l2, rfl, r1, r2⟩ := two_reads q
  obtain ⟨us, q⟩ := tup_reads r2
  obtain ⟨u3, u4, l3, l4, rfl, r3, r4⟩ := two_reads q
  rw [int_reads r1, int_reads r3, int_reads r4]
  rfl
theorem each_vals : ∀ {xs : List V} {us : List Value}, Vals xs us → PySem.W.EachIs (fun u v => RelV v u) us xs
  | _, _, .nil => .nil
  | _, _, .cons h t => .cons h (each_vals t)
theorem vals_each : ∀ {us : List Value} {xs : List V}, PySem.W.EachIs (fun u v => RelV v u) us xs → Vals xs us
  | _, _, .nil => .nil
  | _, _, .cons h t => .cons h (vals_each t)
def SortLq (K : PySem.W.Frag) (T : List (Addr × Str)) (tb : TE) (σ : L2.St) (Q : VK) (vs : List V) (H1 : Hp) : Prop := ∃ (a : Addr) (xs : List V) (kd : V → PyData), vs = [V.ref a] ∧ SqL K H1 a xs ∧ Tabs T H1 ∧ xs.length ≤ 1000 ∧ (∀ v ∈ xs, ∃ n i j : Int, kd v = .tuple [.int n, .tuple [.int i, .int j]]) ∧
  (∀ v ∈ xs, ∀ H2 HZ, ExtN H1 H2 → Frz H2 HZ → tb (σ ++ [some v]) HZ fun y H' => Dp K H' y (kd v)) ∧ ∀ p H2, ExtN H1 H2 → Tabs T H2 → H2 p = none → Q (.ref p) (upd H2 p (.lst (xs.mergeSort (PySem.W.dataLe false kd))))
def tSortL (K : PySem.W.Frag) (T : List (Addr × Str)) (t : TA) (tb : TE) : TE := fun σ H Q => t σ H (SortLq K T tb σ Q)
theorem w_sortL {K : PySem.W.Frag} {T : List (Addr × Str)} {t : TA} {tb : TE} {Q : VK} (h : t σ H (SortLq K T tb σ Q)) : tSortL K T t tb σ H Q := h
/-- sorted(xs, key=lambda x: (n, (i, j))) -/
theorem pe_sortedLam {T : List (Addr × Str)} {c P : Addr} {params : Arguments} {body : Expr} {scope : Scope} {x : Str} {p pos lpos kpos : Pos} {e : Expr} {t : TA} {tb : TE} {k : Nat} (hg : Gl X "sorted") (hm : X.mg "sorted" = none) (ha : PA X [e] t) (TB : TabB X.base X.mg c P) (hcode : X.env.code = .ref c)
    (hmT : (P, X.env.qual ++ "<lambda>") ∈ T) (hu : ∀ p ∈ T, p.1 = P → p.2 = X.env.qual ++ "<lambda>") (L : Lam1 X.env.scope scope x) (nx : x ∉ X.N) (hdef : defaultsOf params X.env = ([], [])) (hr : Room (k + 3) X.A)
    (hbind : ∀ (q : Str) (cl : List (Str × Addr)) (pm cv ctv u : Value), bindArgs (PySem.W.kla_fn "<lambda>" q params body scope cl pm cv ctv) ⟨[u], []⟩ = pure [(x, u)])
    (hbody : ∀ (A : Around) (s : Shared) (HZ : Hp) (f c' : Addr), Room k (A.deeper (lamEnv X scope s.heap.objs.size f c')) → PE (lamCx1 X A s HZ scope x f c') body tb)
    (he : backTo pos (starEach [e] X.env) = (false, eval e X.env) :: backTo pos (starEach [] X.env) := by rfl) (hpl : (backTo pos (starEach [e] X.env)).any (·.1) = false := by rfl)
    (hall : (backToKw pos (keywordEach [⟨some "key", .Lambda params body scope lpos, kpos⟩] X.env)).all (·.1.isSome) = true := by rfl) (hnone : (backToKw pos (keywordEach [⟨some "key", .Lambda params body scope lpos, kpos⟩] X.env)).any (·.1.isNone) = false := by rfl)
    (hks : (backToKw pos (keywordEach [⟨some "key", .Lambda params body scope lpos, kpos⟩] X.env)).filterMap (·.1) = [("key" : Str)] := by rfl) :
    PE X (.Call (.Name "sorted" p) [e] [⟨some "key", .Lambda params body scope lpos, kpos⟩] pos) (tSortL X.K T t tb) := by
  refine ⟨fun pins s σ H Q I h => ?_⟩
  refine wpAny_Call_Name_kw (ld_blt I hg hm rfl ?_ (by decide) (by decide))
  refine PyProof.Rows.callWith_kw (thn (ha.run pos pins s σ H _ I h) fun us s1 ⟨vs, H1, I1, r1, q1⟩ => ?_) he hpl hall hnone
  obtain ⟨a, xs, kd, rfl, hsq, hT, few, shape, turns, q⟩ := q1
  obtain rfl := Vals.ref1 r1
  rw [hks]
  show wpAny _ _ (evalAll ((do let v ← eval (.Lambda params body scope lpos) X.env; standAt pos; pure v) :: [])) _ _ s1
  refine wpAny_evalAll_cons (wpAny_bind (lam_make2 I1 TB hcode hmT hu hT hdef (L.has I1.ok) fun f c' pm ctv H2 s2 I2 ext tabs hf hfn hfr hco => wpAny_bind (wpAny_standAt (wpAny_pure ?_))))
  refine wpAny_evalAll_nil ?_
  obtain ⟨its, rv, hl, hz⟩ := I2.list (sql_ext ext hsq)
  have un := hr.un
  refine sorted_stay (fs := frs X.stack) (s := s2) (vs := its) (bs := xs) (R := fun u v => RelV v u) kd hl.isList (each_vals rv) ?alike ?sortable (Nat.le_trans few (by decide)) ?room I2.bare ?fs (PyProof.Rows.ksk_s1 _ _) (fun _ => PyProof.Rows.ksk_l1 _ _) (fun y => PyProof.Rows.ksk_t1 f y) ?turn ?done
  case alike =>
    intro d hd d' hd'
    obtain ⟨v, hv, rfl⟩ := List.mem_map.mp hd
    obtain ⟨v', hv', rfl⟩ := List.mem_map.mp hd'
    obtain ⟨n, i, j, e1⟩ := shape v hv
    obtain ⟨n', i', j', e2⟩ := shape v' hv'
    rw [e1, e2]
    rfl
  case sortable =>
    refine .inl fun d hd => ?_
    obtain ⟨v, hv, rfl⟩ := List.mem_map.mp hd
    obtain ⟨n, i, j, e1⟩ := shape v hv
    exact ⟨_, _, e1⟩
  case room =>
    intro v hv
    obtain ⟨n, i, j, e1⟩ := shape v hv
    rw [e1]
    simp only [PyData.depth, PyData.depthAll]
    omega
  case fs =>
    intro b hb
    by_cases z : s2.heap.objs.size ≤ b
    · rcases List.mem_cons.mp (I2.stkSub b hb) with e | e
      · have := I2.lt
        rw [← e] at this
        exact absurd this (Nat.not_lt.mpr z)
      · exact absurd e (I2.nofs z)
    · exact Nat.lt_of_not_le z
  case turn =>
    intro u v rvu hv
    obtain ⟨n, i, j, e1⟩ := shape v hv
    refine lam_turn I2 L nx hf hfr hco rvu (hbind _ _ _ _ _ u) hr (fun A s HZ hA => hbody A s HZ f c' hA) (fun HZ fz => turns v hv H2 HZ ext fz) fun h u l rd => ?_
    rw [e1] at rd
    exact key_nolist rd
  case done =>
    intro s3 out cc d1 d2 d3 d4 d5
    have vv := vals_each d5
    have perm := List.mergeSort_perm xs (PySem.W.dataLe false kd)
    refine ⟨.ref _, upd H2 (s2.heap.objs.size + 1) (.lst (xs.mergeSort (PySem.W.dataLe false kd))), inv_made I2 d1 d2 d3 (Nat.le_succ _) d4 vv (by rw [perm.length_eq]; exact Nat.le_trans few (by decide)), rfl, ?_⟩
    exact q _ H2 ext tabs (I2.hok.fresh (Nat.le_succ _))
end
end SLam
end S2_part
section C1_part
set_option Elab.async false
set_option linter.all false
set_option maxRecDepth 100000
set_option maxHeartbeats 1000000
set_option pp.deepTerms.threshold 5
open PySem PySem.Spec PyProof.Rows L2
/-- go on as far as nothing is open -/
local macro_rules | `(tactic| walk_at "go") => `(tactic| repeat (first
  | with_reducible refine w_seq ?_ | with_reducible refine w_next ?_ | with_reducible refine w_set ?_ | with_reducible refine w_drop ?_ | with_reducible refine w_ret ?_ | with_reducible refine w_retN ?_
  | with_reducible refine w_if ?_ | ((with_reducible refine' w_var ?hv ?_); (case hv => exact rfl)) | with_reducible refine w_c ?_ | with_reducible refine w_nil ?_ | with_reducible refine w_cons ?_ | with_reducible refine w_op ?_ | with_reducible refine w_un ?_
  | with_reducible refine w_test ?_ | with_reducible refine w_tB ?_ | with_reducible refine w_not ?_ | with_reducible refine w_and ?_ | with_reducible refine w_or ?_ | with_reducible refine w_bl ?_
  | with_reducible refine w_andV ?_ | with_reducible refine w_orV ?_ | with_reducible refine w_notV ?_ | with_reducible refine w_ifE ?_ | with_reducible refine w_chain ?_ | with_reducible refine w_i0 ?_
  | with_reducible refine w_call ?_ | with_reducible refine w_callS ?_ | with_reducible refine w_cB ?_ | with_reducible refine w_tup ?_ | with_reducible refine w_lst ?_ | with_reducible refine w_fldV ?_
  | with_reducible refine w_neF ?_ | with_reducible refine w_neT ?_ | with_reducible refine w_notN ?_ | with_reducible refine w_isN ?_ | with_reducible refine w_gname ?_ | with_reducible refine w_gsub ?_ | with_reducible refine w_asg ?_ | with_reducible refine w_sl ?_ | with_reducible refine w_noP ?_ | with_reducible refine w_int1 ?_ | with_reducible refine w_part ?_ | with_reducible refine w_yes ?_ | with_reducible refine w_nT ?_ | with_reducible refine w_nF ?_ | with_reducible refine w_iteT ?_ | with_reducible refine w_iteF ?_))
namespace K3
/-! ### tables -/
abbrev RowAt (H : Hp) (r : Addr) (row : List Int) : Prop := H r = some (.lst (row.map V.int))
structure Tab (H : Hp) (p : Addr) (rs : List Addr) (t : List (List Int)) : Prop where
  at_ : H p = some (.lst (rs.map V.ref))
  rows : Paired (RowAt H) rs t
theorem Tab.same {H H' : Hp} (e : Same H H') {p : Addr} {rs : List Addr} {t : List (List Int)} (h : Tab H p rs t) : Tab H' p rs t := ⟨e _ _ h.at_, L2.Paired.mapP h.rows fun _ _ z => e _ _ z⟩
/-- all of it is new -/
structure New (H : Hp) (p : Addr) (rs : List Addr) : Prop where
  p0 : H p = none
  rs0 : ∀ r ∈ rs, H r = none
  nd : rs.Nodup
  ne : p ∉ rs
def addSum (r : List Int) : List Int := r ++ [r.sum]
def colOf (u : List (List Int)) (c : Nat) : List Int := u.map fun r => r.getD c 0
def withSums (k : Nat) (t : List (List Int)) : List (List Int) := t.map addSum ++ [(List.range (k + 1)).map fun c => (colOf (t.map addSum) c).sum]
theorem lc_open {wi : TI} {g : TG} {tt : TT} {te : TE} {vs : List Nat} {σ : L2.St} {H : Hp} {Q : VK} (h : wi σ H fun J H1 => ∀ D, H1 D = none → ∃ W : Nat → Nat → Hp → Prop, (∃ m, W 0 m (upd H1 D (.lst []))) ∧ ∀ i m H, W i m H →
    (J.stop i H ∧ Q (.ref D) H) ∨ (J.go i H ∧ ∃ Nx : Hp → Prop, (∀ H', Nx H' → ∃ m', m' < m ∧ W (i + 1) m' H') ∧ ∀ x H', J.yld i H x H' → g x (wipe σ vs) H' fun σ2 H2 => wipe σ2 vs = wipe σ vs ∧ tt σ2 H2 fun b H3 =>
      if b = true then te σ2 H3 fun y H4 => ∃ acc, H4 D = some (.lst acc) ∧ acc.length < sizeLine ∧ Nx (upd H4 D (.lst (acc ++ [y]))) else Nx H3)) : tLc wi g tt te vs σ H Q := h
theorem rng_open {ta : TA} {σ : L2.St} {H : Hp} {R : It → Hp → Prop} (h : ta σ H fun vs H1 => ∃ j : Int, vs = [.int j] ∧ -(2 ^ 62) ≤ j ∧ j < 2 ^ 62 ∧ R (Itr 0 j.toNat) H1) : iRng1 ta σ H R := h
theorem list_open {K : PySem.W.Frag} {tl : TE} {σ : L2.St} {H : Hp} {R : It → Hp → Prop} (h : tl σ H fun x H1 => ∃ a, x = .ref a ∧ (∃ xs, SqL K H1 a xs) ∧ R (Itl K a) H1) : iList K tl σ H R := h
theorem nodup_snoc {α : Type} {l : List α} {z : α} (h : l.Nodup) (hz : z ∉ l) : (l ++ [z]).Nodup := by
  rw [List.nodup_append]
  exact ⟨h, by simp, fun a ha b hb => by rw [List.mem_singleton.mp hb]; exact fun q => hz (q ▸ ha)⟩
theorem map_ref {rs : List Addr} {i : Nat} {x : V} (h : (rs.map V.ref)[i]? = some x) : ∃ r, rs[i]? = some r ∧ x = .ref r := by
  rw [List.getElem?_map] at h
  cases e : rs[i]? with
  | none => rw [e] at h; cases h
  | some r => rw [e] at h; exact ⟨r, rfl, (Option.some.inj h).symm⟩
theorem paired_up {α β : Type} {F G : α → β → Prop} : ∀ {xs : List α} {ys : List β}, Paired F xs ys → (∀ x y, x ∈ xs → F x y → G x y) → Paired G xs ys
  | _, _, .nil, _ => .nil
  | _, _, .cons h t, k => .cons (k _ _ (List.mem_cons_self ..) h) (paired_up t fun x y hx => k x y (List.mem_cons_of_mem _ hx))
theorem paired_has {α β : Type} {F : α → β → Prop} : ∀ {xs : List α} {ys : List β}, Paired F xs ys → ∀ {x : α}, x ∈ xs → ∃ y, F x y
  | _, _, .cons (b := b) h t, x, hx => by
    rcases List.mem_cons.mp hx with rfl | hx
    · exact ⟨b, h⟩
    · exact paired_has t hx
theorem at_getD {r : List Int} {c : Nat} (h : c < r.length) : atI (r.map V.int) (c : Int) = some (.int (r.getD c 0)) := by
  refine atI_nat ?_
  rw [List.getElem?_map, List.getElem?_eq_getElem h, List.getD_eq_getElem?_getD, List.getElem?_eq_getElem h]
  rfl
end K3

namespace K3
def CellAt (H : Hp) (v : V) (c : Nat × Nat) : Prop := ∃ a, v = .ref a ∧ H a = some (.tup [.int (c.1 : Int), .int (c.2 : Int)])
theorem CellAt.same {H H' : Hp} (e : Same H H') {v : V} {c : Nat × Nat} (h : CellAt H v c) : CellAt H' v c := let ⟨a, h1, h2⟩ := h; ⟨a, h1, e _ _ h2⟩
def rowCells (n r : Nat) : List (Nat × Nat) := (List.range n).map fun c => (r, c)
def cellsOf (m n : Nat) : List (Nat × Nat) := (List.range m).flatMap (rowCells n)
theorem cells_len (m n : Nat) : (cellsOf m n).length = m * n := by
  unfold cellsOf
  induction m with
  | zero => simp
  | succ m ih => rw [List.range_succ, List.flatMap_append, List.length_append, ih]; simp [rowCells, Nat.succ_mul]
theorem cut_last {xs : List V} : cutV xs none (some (-1)) = xs.dropLast := by
  unfold cutV HT.sIx
  rw [List.dropLast_eq_take]
  show (xs.drop 0).take ((if (-1 : Int) < 0 then ((-1 : Int) + (xs.length : Int)).toNat else min (-1 : Int).toNat xs.length) - 0) = _
  rw [if_pos (by decide), List.drop_zero, Nat.sub_zero]
  congr 1
  omega
theorem paired_drop {α β : Type} {F : α → β → Prop} : ∀ {xs : List α} {ys : List β}, Paired F xs ys → Paired F xs.dropLast ys.dropLast
  | _, _, .nil => .nil
  | _, _, .cons h .nil => .nil
  | _, _, .cons h (.cons h2 t) => .cons h (paired_drop (.cons h2 t))
def spCells (K : PySem.W.Frag) : Sp := fun vs H Q _ => ∃ (p : Addr) (rs : List Addr) (t : List (List Int)) (n : Nat) (r0 : List Int), vs = [.ref p] ∧ Tab H p rs t ∧ t[0]? = some r0 ∧ r0.length = n ∧ t.length ≤ 100 ∧ n ≤ 100 ∧ ∀ p' H' vs, Same H H' → H p' = none → H' p' = some (.lst vs) → Paired (CellAt H') vs (cellsOf t.length n).dropLast → Q (.ref p') H'
end K3

namespace K3
theorem CellAt.bm {s : Addr} {H H' : Hp} (hs : Src H s) (e : BM [s] H H') {v : V} {c : Nat × Nat} (h : CellAt H v c) : CellAt H' v c := by
  obtain ⟨a, h1, h2⟩ := h
  refine ⟨a, h1, e.at h2 ?_⟩
  intro z
  obtain ⟨x, y, w, hs⟩ := hs
  rw [List.mem_singleton.mp z, hs] at h2
  cases h2
theorem ix_nat {n j : Nat} (h : j < n) : seqIndex? (j : Int) n = some j := by
  have e : ixN n (j : Int) = some j := by
    unfold ixN
    rw [if_pos (by omega), if_pos (by omega)]
    simp
  exact (ixN_seq e).1
theorem paired_erase {α β : Type} {F : α → β → Prop} : ∀ {xs : List α} {ys : List β}, Paired F xs ys → ∀ k, Paired F (xs.eraseIdx k) (ys.eraseIdx k)
  | _, _, .nil, _ => .nil
  | _, _, .cons h t, 0 => t
  | _, _, .cons h t, k + 1 => .cons h (paired_erase t k)
/-- the first list's elements that are drawn out of it -/
def spSample (K : PySem.W.Frag) : Sp := fun vs H Q _ => ∃ (s l : Addr) (xs : List V) (cs : List (Nat × Nat)) (n : Nat), vs = [.ref s, .ref l, .int (n : Int)] ∧ Src H s ∧ H l = some (.lst xs) ∧ Paired (CellAt H) xs cs ∧ n ≤ xs.length ∧ xs.length ≤ 100000 ∧
  ∀ p H' ws hs, H p = none → BM [s] H H' → Src H' s → H' p = some (.lst ws) → Paired (CellAt H') ws hs → (∀ h ∈ hs, h ∈ cs) → hs.length = n → Q (.ref p) H'
def spGrid (K : PySem.W.Frag) : Sp := fun vs H Q _ => ∃ (s : Addr), vs = [.ref s] ∧ Src H s ∧ ∀ p H' rs t k, BM [s] H H' → Src H' s → New H p rs → Tab H' p rs (withSums k t) → (∀ r ∈ t, r.length = k ∧ ∀ x ∈ r, 0 ≤ x) → 1 ≤ k → k ≤ 5 → 1 ≤ t.length → t.length ≤ 5 → Q (.ref p) H'
theorem BM.same {M : List Addr} {H H1 H2 : Hp} (a : BM M H H1) (b : Same H1 H2) : BM M H H2 := a.trans (BM.of b)
theorem BM.mut {M : List Addr} {H H' : Hp} {p : Addr} {o : HO} (e : BM M H H') (h : H p = none) : BM M H (L2.upd H' p o) := fun b u hb => by
  obtain ⟨o', h1, h2⟩ := e b u hb
  exact ⟨o', by rw [upd_ne (fun z => by rw [z, h] at hb; cases hb)]; exact h1, h2⟩
theorem src_ne {H : Hp} {s p : Addr} (hs : Src H s) (hp : H p = none) : p ≠ s := fun z => by
  obtain ⟨_, _, _, hs⟩ := hs
  rw [← z, hp] at hs
  cases hs
theorem Src.upd {H : Hp} {s p : Addr} (hs : Src H s) (ne : p ≠ s) (o : HO) : Src (L2.upd H p o) s := let ⟨a, b, c, h⟩ := hs; ⟨a, b, c, by rw [upd_ne ne.symm]; exact h⟩
def scGrow : Scope := { kind := .function, names := [(".0", .local), ("_law_row", .local), ("range", .globalImplicit), ("_law_count", .cell), ("_law_limit", .cell), ("_law_rng_here", .cell)], isGenerator := false, isCoroutine := false }
end K3

namespace K3
theorem w_eqI {i j : Int} {H : Hp} {Q : VK} (h : Q (.bl (decide (V.int i = V.int j))) H) : rEq (.int i) (.int j) H Q := ⟨rfl, h⟩
theorem decV {i j : Int} : decide (V.int i = V.int j) = decide (i = j) := by
  by_cases h : i = j
  · rw [h]; simp
  · rw [decide_eq_false h, decide_eq_false (fun z => h (V.int.inj z))]
theorem paired_take {α β : Type} {F : α → β → Prop} : ∀ {xs : List α} {ys : List β}, Paired F xs ys → ∀ k, Paired F (xs.take k) (ys.take k)
  | _, _, .nil, k => by rw [List.take_nil, List.take_nil]; exact .nil
  | _, _, .cons h t, 0 => .nil
  | _, _, .cons h t, k + 1 => .cons h (paired_take t k)
/-- what may be hidden cells of a grid of such a shape -/
structure Hid (H : Hp) (p : Addr) (ws : List V) (hs : List (Nat × Nat)) (m n : Nat) : Prop where
  at_ : H p = some (.lst ws)
  cells : Paired (CellAt H) ws hs
  mem : ∀ h ∈ hs, h ∈ (cellsOf m n).dropLast
  len : hs.length ≤ 60
def spHidden (K : PySem.W.Frag) : Sp := fun vs H Q _ => ∃ (s g : Addr) (rs : List Addr) (t : List (List Int)) (n : Nat) (r0 : List Int), vs = [.ref s, .ref g] ∧ Src H s ∧ Tab H g rs t ∧ t[0]? = some r0 ∧ r0.length = n ∧ t.length ≤ 6 ∧ n ≤ 6 ∧
  ∀ p H' ws hs, H p = none → BM [s] H H' → Src H' s → Hid H' p ws hs t.length n → Q (.ref p) H'
end K3

namespace K3
/-! ### a cell among cells -/
def cellD (c : Nat × Nat) : PyData := .tuple [.int (c.1 : Int), .int (c.2 : Int)]
theorem cell_dp {K : PySem.W.Frag} {H : Hp} {v : V} {c : Nat × Nat} (h : CellAt H v c) : Dp K H v (cellD c) := by
  obtain ⟨a, rfl, h⟩ := h
  exact Dp.tup (SqT.of h) (.cons (.int _) (.cons (.int _) .nil))
theorem cells_dp {K : PySem.W.Frag} {H : Hp} : ∀ {ws : List V} {hs : List (Nat × Nat)}, Paired (CellAt H) ws hs → DpAll K H ws (hs.map cellD)
  | _, _, .nil => .nil
  | _, _, .cons h t => .cons (cell_dp h) (cells_dp t)
theorem cell_same (a b : Nat × Nat) : PySem.Spec.same (cellD a) (cellD b) = decide (a = b) := by
  unfold cellD
  obtain ⟨a1, a2⟩ := a
  obtain ⟨b1, b2⟩ := b
  rw [Bool.eq_iff_iff]
  simp [PySem.Spec.same, PySem.Spec.sameAll]
  omega
theorem cell_nomix (a b : Nat × Nat) : SeqAt.noMix (cellD a) (cellD b) = true := rfl
theorem cell_count (c : Nat × Nat) : ∀ hs : List (Nat × Nat), 0 ≤ countIn (cellD c) (hs.map cellD) ∧ (countIn (cellD c) (hs.map cellD) ≠ 0 ↔ c ∈ hs)
  | [] => ⟨Int.le_refl 0, by simp [countIn]⟩
  | h :: hs => by
    obtain ⟨i0, i1⟩ := cell_count c hs
    simp only [List.map_cons, countIn, cell_same, List.mem_cons]
    by_cases e : h = c
    · rw [e]
      simp only [decide_true, if_true]
      exact ⟨by omega, ⟨fun _ => by simp, fun _ => by omega⟩⟩
    · rw [decide_eq_false e]
      simp only [Bool.false_eq_true, if_false]
      refine ⟨by omega, ⟨fun z => .inr (i1.mp (by omega)), fun z => ?_⟩⟩
      rcases z with z | z
      · exact absurd z.symm e
      · have := i1.mpr z
        omega
theorem log_small {n : Nat} (h : n < 1000) : (if (n : Int) = 0 then 0 else (n : Int).natAbs.log2 + 1) ≤ 10 := by
  split
  · exact Nat.zero_le _
  · rename_i h0
    have : n ≠ 0 := fun z => h0 (by rw [z]; rfl)
    have : n.log2 < 10 := (Nat.log2_lt this).mpr (by omega)
    simp only [Int.natAbs_natCast]
    omega
theorem cell_lay (c : Nat × Nat) (h : c.1 < 1000 ∧ c.2 < 1000) : (cellD c).canLay0 = true ∧ (cellD c).depth ≤ 5 ∧ (cellD c).weight ≤ 50 := by
  have l1 := log_small h.1
  have l2 := log_small h.2
  unfold cellD
  refine ⟨rfl, by simp [PyData.depth, PyData.depthAll], ?_⟩
  simp [PyData.weight, PyData.weightAll] at l1 l2 ⊢
  omega
theorem cells_lay : ∀ hs : List (Nat × Nat), (∀ c ∈ hs, c.1 < 1000 ∧ c.2 < 1000) → PyData.canLayAll0 (hs.map cellD) = true ∧ PyData.depthAll (hs.map cellD) ≤ 5 ∧ PyData.weightAll (hs.map cellD) ≤ 100 * hs.length
  | [], _ => by simp [PyData.canLayAll0, PyData.depthAll, PyData.weightAll]
  | h :: hs, k => by
    obtain ⟨a, b, c⟩ := cells_lay hs fun c hc => k c (List.mem_cons_of_mem _ hc)
    obtain ⟨d, e, f⟩ := cell_lay h (k h (List.mem_cons_self ..))
    simp only [List.map_cons, PyData.canLayAll0, PyData.depthAll, PyData.weightAll, List.length_cons]
    refine ⟨by rw [a, d]; rfl, by omega, by omega⟩
theorem list_lay {hs : List (Nat × Nat)} (k : ∀ c ∈ hs, c.1 < 1000 ∧ c.2 < 1000) (n : hs.length ≤ 1000) : (PyData.list (hs.map cellD)).layable0 = true ∧ (PyData.tuple (hs.map cellD)).layable0 = true := by
  obtain ⟨a, b, c⟩ := cells_lay hs k
  have e (d : PyData) (h1 : d.canLay0 = true) (h2 : d.depth ≤ 64) (h3 : d.weight ≤ 2 ^ 20) : d.layable0 = true := by
    unfold PyData.layable0
    rw [h1, decide_eq_true h2, decide_eq_true h3]
    rfl
  constructor
  · refine e _ (by simpa [PyData.canLay0] using a) (by simp only [PyData.depth]; omega) ?_
    simp only [PyData.weight]
    omega
  · refine e _ (by simpa [PyData.canLay0] using a) (by simp only [PyData.depth]; omega) ?_
    simp only [PyData.weight]
    omega
def rNotInC (K : PySem.W.Frag) : R2 := fun x y H Q => ∃ (p : Addr) (ws : List V) (hs : List (Nat × Nat)) (c : Nat × Nat), CellAt H x c ∧ y = .ref p ∧ (SqL K H p ws ∨ SqT K H p ws) ∧ Paired (CellAt H) ws hs ∧ hs.length ≤ 1000 ∧ (∀ h ∈ hs, h.1 < 1000 ∧ h.2 < 1000) ∧ (c.1 < 1000 ∧ c.2 < 1000) ∧ Q (.bl (!decide (c ∈ hs))) H
theorem op_notInC {X : Cx} (hu : X.A.units + 65 < cLine) : OpR X (compareOp .NotIn) (rNotInC X.K) := by
  intro pins s σ H x y v u Q I rx ry ⟨p, ws, hs, c, hc, ey, hp, hw, hn, hb, hcb, q⟩
  obtain ⟨as, ra⟩ := Dp.reads I _ _ _ (cell_dp (K := X.K) hc) rx
  have ll := list_lay hb hn
  have lc : (cellD c).layable0 = true := by
    obtain ⟨a, b, d⟩ := cell_lay c hcb
    unfold PyData.layable0
    rw [a, decide_eq_true (show (cellD c).depth ≤ 64 by omega), decide_eq_true (show (cellD c).weight ≤ 2 ^ 20 by omega)]
    rfl
  have e : decide (countIn (cellD c) (hs.map cellD) ≠ 0) = decide (c ∈ hs) := decide_eq_decide.mpr (cell_count c hs).2
  have nm : ∀ y ∈ hs.map cellD, SeqAt.noMix y (cellD c) = true := fun y hy => by
    obtain ⟨h, _, rfl⟩ := List.mem_map.mp hy
    exact cell_nomix _ _
  rcases hp with hp | hp
  · obtain ⟨bs, rb⟩ := Dp.reads I _ _ _ (by rw [ey]; exact Dp.lst hp (cells_dp hw)) ry
    exact notIn_list_dataS rb ra ll.1 lc hu nm ⟨.bl (!decide (c ∈ hs)), H, I, by rw [e]; exact rfl, q⟩
  · obtain ⟨bs, rb⟩ := Dp.reads I _ _ _ (by rw [ey]; exact Dp.tup hp (cells_dp hw)) ry
    exact PyProof.Rows.notIn_tuple_dataS rb ra ll.2 lc hu nm ⟨.bl (!decide (c ∈ hs)), H, I, by rw [e]; exact rfl, q⟩
theorem Room.units65 {k : Nat} {A : Around} (h : Room k A) : A.units + 65 < cLine := Nat.lt_of_le_of_lt (by omega) h.un
end K3

namespace L2
open PySem PySem.Spec PyProof.Rows
section
variable {X : Cx}
/-- either reading will do -/
theorem pi_or {tg e : Expr} {a b : TI} (ha : PI X tg e a) (hb : PI X tg e b) : PI X tg e (fun σ H R => a σ H R ∨ b σ H R) := ⟨fun pins s σ H R I h => h.elim (ha.run pins s σ H R I) (hb.run pins s σ H R I)⟩
theorem cr_or {f : Value} {a b : List V → Hp → VK → Prop} (ha : CallR X f a) (hb : CallR X f b) : CallR X f (fun xs H Q => a xs H Q ∨ b xs H Q) := fun pins s σ H xs us Q I v h => h.elim (ha pins s σ H xs us Q I v) (hb pins s σ H xs us Q I v)
/-- a statement that is never come to -/
theorem ps_dead {st : Stmt} : PS X st (fun _ _ _ => False) := ⟨fun _ _ _ _ _ _ h => h.elim⟩
end
section
variable {J : It} {n : Nat} {G : Hp → Prop} {Y : Nat → Hp → V → Hp → Prop}
/-- the second source's own loop within a comprehension of two fors -/
def In1 (D : Addr) (g1 : TG) (tt1 : TT) (te : TE) (vs1 : List Nat) (Nx : Hp → Prop) (J1 : It) (σ2 : L2.St) (H4 : Hp) : Prop :=
  ∃ W1 : Nat → Nat → Hp → Prop, (∃ m, W1 0 m H4) ∧ ∀ j k H, W1 j k H →
      (J1.stop j H ∧ Nx H) ∨ (J1.go j H ∧ ∃ Nx1 : Hp → Prop, (∀ H', Nx1 H' → ∃ k', k' < k ∧ W1 (j + 1) k' H') ∧ ∀ x H', J1.yld j H x H' → g1 x (wipe σ2 vs1) H' fun σ3 H5 => wipe σ3 vs1 = wipe σ2 vs1 ∧ tt1 σ3 H5 fun b H6 =>
        if b = true then te σ3 H6 fun y H7 => ∃ acc, H7 D = some (.lst acc) ∧ acc.length < sizeLine ∧ Nx1 (upd H7 D (.lst (acc ++ [y]))) else Nx1 H6)
theorem in1_it (w : Walk J n G Y) {D : Addr} {g1 : TG} {tt1 : TT} {te : TE} {vs1 : List Nat} {Nx : Hp → Prop} {σ2 : L2.St} {H4 : Hp} (Pv : Nat → Hp → Prop) (h0 : Pv 0 H4) (hG : ∀ i H, i ≤ n → Pv i H → G H)
    (hs : ∀ j x H H', j < n → Pv j H → Y j H x H' → g1 x (wipe σ2 vs1) H' fun σ3 H5 => wipe σ3 vs1 = wipe σ2 vs1 ∧ tt1 σ3 H5 fun b H6 =>
        if b = true then te σ3 H6 fun y H7 => ∃ acc, H7 D = some (.lst acc) ∧ acc.length < sizeLine ∧ Pv (j + 1) (upd H7 D (.lst (acc ++ [y]))) else Pv (j + 1) H6)
    (hd : ∀ H, Pv n H → Nx H) : In1 D g1 tt1 te vs1 Nx J σ2 H4 := by
  refine ⟨fun i k H => k = n - i ∧ i ≤ n ∧ Pv i H, ⟨n, rfl, Nat.zero_le _, h0⟩, ?_⟩
  rintro i k H ⟨rfl, hi, p⟩
  by_cases c : i < n
  · exact .inr ⟨w.goes i H c (hG i H hi p), Pv (i + 1), fun _ p' => ⟨n - (i + 1), by omega, rfl, c, p'⟩, fun x H' y => hs i x H H' c p (w.yields i H x H' c (hG i H hi p) y)⟩
  · obtain rfl : i = n := by omega
    exact .inl ⟨w.stops H (hG i H hi p), hd H p⟩
theorem lc2_it (w : Walk J n G Y) {g g1 : TG} {tt tt1 : TT} {wi1 : TI} {te : TE} {vs vs1 : List Nat} {σ : L2.St} {H1 : Hp} {D : Addr} {Qd : Hp → Prop} (Pv : Nat → Hp → Prop) (h0 : Pv 0 (upd H1 D (.lst []))) (hG : ∀ i H, i ≤ n → Pv i H → G H)
    (hs : ∀ i x H H', i < n → Pv i H → Y i H x H' → g x (wipe σ vs) H' fun σ2 H2 => wipe σ2 vs = wipe σ vs ∧ tt σ2 H2 fun b H3 =>
      if b = true then wi1 σ2 H3 fun J1 H4 => In1 D g1 tt1 te vs1 (Pv (i + 1)) J1 σ2 H4 else Pv (i + 1) H3)
    (hd : ∀ H, Pv n H → Qd H) :
    ∃ W : Nat → Nat → Hp → Prop, (∃ m, W 0 m (upd H1 D (.lst []))) ∧ ∀ i m H, W i m H →
  (J.stop i H ∧ Qd H) ∨ (J.go i H ∧ ∃ Nx : Hp → Prop, (∀ H', Nx H' → ∃ m', m' < m ∧ W (i + 1) m' H') ∧ ∀ x H', J.yld i H x H' → g x (wipe σ vs) H' fun σ2 H2 => wipe σ2 vs = wipe σ vs ∧ tt σ2 H2 fun b H3 =>
    if b = true then wi1 σ2 H3 fun J1 H4 => In1 D g1 tt1 te vs1 Nx J1 σ2 H4 else Nx H3) := by
  refine ⟨fun i k H => k = n - i ∧ i ≤ n ∧ Pv i H, ⟨n, rfl, Nat.zero_le _, h0⟩, ?_⟩
  rintro i k H ⟨rfl, hi, p⟩
  by_cases c : i < n
  · exact .inr ⟨w.goes i H c (hG i H hi p), Pv (i + 1), fun _ p' => ⟨n - (i + 1), by omega, rfl, c, p'⟩, fun x H' y => hs i x H H' c p (w.yields i H x H' c (hG i H hi p) y)⟩
  · obtain rfl : i = n := by omega
    exact .inl ⟨w.stops H (hG i H hi p), hd H p⟩
theorem lc2_open {wi wi1 : TI} {g g1 : TG} {tt tt1 : TT} {te : TE} {vs vs1 : List Nat} {σ : L2.St} {H : Hp} {Q : VK} (h : wi σ H fun J H1 => ∀ D, H1 D = none → ∃ W : Nat → Nat → Hp → Prop, (∃ m, W 0 m (upd H1 D (.lst []))) ∧ ∀ i m H, W i m H →
  (J.stop i H ∧ Q (.ref D) H) ∨ (J.go i H ∧ ∃ Nx : Hp → Prop, (∀ H', Nx H' → ∃ m', m' < m ∧ W (i + 1) m' H') ∧ ∀ x H', J.yld i H x H' → g x (wipe σ vs) H' fun σ2 H2 => wipe σ2 vs = wipe σ vs ∧ tt σ2 H2 fun b H3 =>
    if b = true then wi1 σ2 H3 fun J1 H4 => In1 D g1 tt1 te vs1 Nx J1 σ2 H4 else Nx H3)) : tLc2 wi g tt wi1 g1 tt1 te vs vs1 σ H Q := h
end
end L2
namespace K3
def Rect (t : List (List Int)) (m n : Nat) : Prop := t.length = m ∧ ∀ r ∈ t, r.length = n
def at2 (t : List (List Int)) (i j : Nat) : Int := (t.getD i []).getD j 0
theorem row_of {H : Hp} {g : Addr} {rs : List Addr} {t : List (List Int)} (ht : Tab H g rs t) {i : Nat} (hi : i < t.length) : ∃ a r, rs[i]? = some a ∧ t[i]? = some r ∧ H a = some (.lst (r.map V.int)) := by
  have l := ht.rows.length
  obtain ⟨r, hr, hx⟩ := K3.Paired.get ht.rows (i := i) (x := rs[i]'(by omega)) (List.getElem?_eq_getElem _)
  exact ⟨_, r, List.getElem?_eq_getElem _, hr, hx⟩
theorem at2_of {t : List (List Int)} {i j : Nat} {r : List Int} (h : t[i]? = some r) : at2 t i j = r.getD j 0 := by
  unfold at2
  have e : t.getD i [] = r := by rw [List.getD_eq_getElem?_getD, h]; rfl
  rw [e]
theorem ref_at {rs : List Addr} {i : Nat} {a : Addr} (h : rs[i]? = some a) : atI (rs.map V.ref) (i : Int) = some (.ref a) := atI_nat (by rw [List.getElem?_map, h]; rfl)
theorem w_gtup {K : PySem.W.Frag} {n : Nat} {t : TGs} {a : Addr} {xs : List V} {σ : L2.St} {H : Hp} {Q : L2.St → Hp → Prop} (h1 : SqT K H a xs) (h2 : xs.length = n) (h : t xs σ H Q) : gTup K n t (.ref a) σ H Q := ⟨a, xs, rfl, h1, h2, h⟩
end K3
end C1_part
section E1_part
set_option Elab.async false
set_option linter.all false
set_option maxRecDepth 100000
set_option maxHeartbeats 1000000
set_option pp.deepTerms.threshold 5
open PySem PySem.Spec PyProof.Rows L2
/-- go on as far as nothing is open -/
local macro_rules | `(tactic| walk_at "go") => `(tactic| repeat (first
  | with_reducible refine w_seq ?_ | with_reducible refine w_next ?_ | with_reducible refine w_set ?_ | with_reducible refine w_drop ?_ | with_reducible refine w_ret ?_ | with_reducible refine w_retN ?_
  | with_reducible refine w_if ?_ | ((with_reducible refine' w_var ?hv ?_); (case hv => exact rfl)) | with_reducible refine w_c ?_ | with_reducible refine w_nil ?_ | with_reducible refine w_cons ?_ | with_reducible refine w_op ?_ | with_reducible refine w_un ?_
  | with_reducible refine w_test ?_ | with_reducible refine w_tB ?_ | with_reducible refine w_not ?_ | with_reducible refine w_and ?_ | with_reducible refine w_or ?_ | with_reducible refine w_bl ?_
  | with_reducible refine w_andV ?_ | with_reducible refine w_orV ?_ | with_reducible refine w_notV ?_ | with_reducible refine w_ifE ?_ | with_reducible refine w_chain ?_ | with_reducible refine w_i0 ?_
  | with_reducible refine w_call ?_ | with_reducible refine w_callS ?_ | with_reducible refine w_cB ?_ | with_reducible refine w_tup ?_ | with_reducible refine w_lst ?_ | with_reducible refine w_fldV ?_
  | with_reducible refine w_neF ?_ | with_reducible refine w_neT ?_ | with_reducible refine w_notN ?_ | with_reducible refine w_isN ?_ | with_reducible refine w_gname ?_ | with_reducible refine w_gsub ?_ | with_reducible refine w_asg ?_ | with_reducible refine w_sl ?_ | with_reducible refine w_noP ?_ | with_reducible refine w_int1 ?_ | with_reducible refine w_part ?_ | with_reducible refine w_yes ?_ | with_reducible refine w_nT ?_ | with_reducible refine w_nF ?_ | with_reducible refine w_iteT ?_ | with_reducible refine w_iteF ?_))
namespace L2
open PySem PySem.Spec PyProof.Rows
/-! ### a list or a tuple -/
def SqB (K : PySem.W.Frag) (H : Hp) : Bool → Addr → List V → Prop
  | false => SqL K H
  | true => SqT K H
def SqE (K : PySem.W.Frag) (H : Hp) (a : Addr) (xs : List V) : Prop := ∃ b, SqB K H b a xs
theorem SqE.either {K : PySem.W.Frag} {H : Hp} {a : Addr} {xs : List V} : SqE K H a xs → SqL K H a xs ∨ SqT K H a xs
  | ⟨false, h⟩ => .inl h
  | ⟨true, h⟩ => .inr h
theorem SqB.same {K : PySem.W.Frag} {H H' : Hp} {a : Addr} {xs : List V} (e : Same H H') : ∀ {b : Bool}, SqB K H b a xs → SqB K H' b a xs
  | false, h => e.seq h
  | true, h => e.sqt h
theorem SqE.same {K : PySem.W.Frag} {H H' : Hp} {a : Addr} {xs : List V} (h : SqE K H a xs) (e : Same H H') : SqE K H' a xs := h.imp fun _ z => z.same e
theorem SqE.lst {K : PySem.W.Frag} {H : Hp} {a : Addr} {xs : List V} (h : H a = some (.lst xs)) : SqE K H a xs := ⟨false, SqL.of h⟩
theorem SqE.tup {K : PySem.W.Frag} {H : Hp} {a : Addr} {xs : List V} (h : H a = some (.tup xs)) : SqE K H a xs := ⟨true, SqT.of h⟩
def ItB (K : PySem.W.Frag) : Bool → Addr → It
  | false => Itl K
  | true => Itt K
theorem walk_B {K : PySem.W.Frag} {a : Addr} {xs : List V} : ∀ {b : Bool}, Walk (ItB K b a) xs.length (fun H => SqB K H b a xs) (YAt xs)
  | false => walk_list
  | true => walk_tup
def iSeq (K : PySem.W.Frag) (tl : TE) : TI := fun σ H R => tl σ H fun x H1 => ∃ a b, x = .ref a ∧ (∃ xs, SqB K H1 b a xs) ∧ R (ItB K b a) H1
theorem seqI_open {K : PySem.W.Frag} {tl : TE} {σ : L2.St} {H : Hp} {R : It → Hp → Prop} (h : tl σ H fun x H1 => ∃ a b, x = .ref a ∧ (∃ xs, SqB K H1 b a xs) ∧ R (ItB K b a) H1) : iSeq K tl σ H R := h
section
variable {X : Cx} {tg l : Expr} {tl : TE}
theorem pi_seq (hl : PE X l tl) : PI X tg l (iSeq X.K tl) := by
  constructor
  intro pins s σ H R I h
  refine thn (hl.run pins s σ H _ I h) ?_
  rintro v s1 ⟨x, H1, I1, r1, a, b, rfl, ⟨xs, hq⟩, q⟩
  cases r1
  have kept : ∀ o : Obj, Inv X pins σ H1 { s1 with heap := s1.heap.push o, toks := s1.toks } := fun o => I1.kept fun b u e => Heap.get?_push_of_some o e
  have out : ∀ b ∈ [s1.heap.objs.size], _ := fun b hb => by
    obtain rfl := List.mem_singleton.mp hb
    exact I1.fpOk (Nat.le_refl _) (I1.hok.fresh (Nat.le_refl _))
  cases b with
  | false =>
    obtain ⟨its, _, p, _⟩ := I1.list hq
    exact wpAny_pyIter_list p.isList ⟨s1.heap.objs.size, [s1.heap.objs.size], _, _, H1, rfl, kept _, turn_list a _, ⟨_, Heap.get?_push_size _ rfl, rfl, rfl⟩, out, q⟩
  | true =>
    obtain ⟨its, _, p, _⟩ := I1.tuple hq
    exact wpAny_pyIter_tuple (show s1.heap.IsTuple a its.toArray from p) ⟨s1.heap.objs.size, [s1.heap.objs.size], _, _, H1, rfl, kept _, turn_tuple a _, ⟨_, Heap.get?_push_size _ rfl, rfl, rfl⟩, out, q⟩
def rIxE (K : PySem.W.Frag) : R2 := fun x y H Q => rIxL K x y H Q ∨ rIxT K x y H Q
theorem ix_e : IxR X (rIxE X.K) := by
  intro value slice pins s σ H x y v u Q I rx ry h hs
  rcases h with h | h
  · exact ix_list value slice pins s σ H x y v u Q I rx ry h hs
  · exact ix_tup value slice pins s σ H x y v u Q I rx ry h hs
theorem w_ixE {K : PySem.W.Frag} {H : Hp} {p : Addr} {xs : List V} {i : Int} {v : V} {Q : VK} (h : SqE K H p xs) (ha : atI xs i = some v) (q : Q v H) : rIxE K (.ref p) (.int i) H Q := by
  rcases h.either with h | h
  · exact .inl ⟨p, xs, i, v, rfl, rfl, h, ha, q⟩
  · exact .inr ⟨p, xs, i, v, rfl, rfl, h, ha, q⟩
/-- sum of a list or a tuple of ints -/
def rSumE (K : PySem.W.Frag) : List V → Hp → VK → Prop := fun vs H Q => ∃ (a : Addr) (ns : List Int), vs = [V.ref a] ∧ SqE K H a (ns.map V.int) ∧ Q (.int ns.sum) H
theorem cr_sumE (hc : X.calm = true) : CallR X (.builtin "sum") (rSumE X.K) := by
  intro pins s σ H vs us Q I r ⟨a, ns, e, ⟨b, hs⟩, q⟩
  subst e
  cases b with
  | false => exact cr_sum hc pins s σ H _ us Q I r ⟨a, ns, rfl, hs, q⟩
  | true =>
    obtain ⟨its, rv, hl, _⟩ := I.tuple hs
    rw [Vals.ref1 r]
    have hi := rv.ints
    obtain ⟨xs, e⟩ := hi.allInts.items
    have hn : numsOf its.toArray.toList = ns := by rw [show its.toArray.toList = its from rfl, hi.numsOf]
    have hl : s.heap.IsTuple a its.toArray := hl
    rw [e] at hl hn
    rw [nums_intItems] at hn
    refine PySem.W.ktm_sumG (I.ok.hd hc) hl fun h' tk t' hk => ?_
    rw [preSum_eq, List.take_of_length_le (by simp), hn]
    exact ⟨.int _, H, I.kept hk, ⟨_, rfl⟩, q⟩
end
/-- a comprehension over items of which something is known: each gives a value of its own -/
theorem items_atE {K : PySem.W.Frag} {α : Type} {F : Hp → V → α → Prop} (mono : ∀ {H H' : Hp} {v : V} {y : α}, Same H H' → F H v y → F H' v y) {a D : Addr} {xs : List V} {ys : List α} {te : TE} {vs : List Nat} {σ : L2.St} {j : Nat} {H1 : Hp} {b : Bool} {Qd : Hp → Prop} (f : α → V)
    (hs : SqB K H1 b a xs) (hp : Paired (F H1) xs ys) (hD : H1 D = none) (hlen : xs.length ≤ 10000) (hw : ∀ x, wipe ((wipe σ vs).set j (some x)) vs = wipe σ vs)
    (he : ∀ (v : V) (y : α) (H' : Hp), Same H1 H' → y ∈ ys → F H' v y → ∀ Q : VK, (∀ H'', Same H' H'' → Q (f y) H'') → te ((wipe σ vs).set j (some v)) H' Q)
    (hd : ∀ H', Same H1 H' → H' D = some (.lst (ys.map f)) → Qd H') :
    ∃ W : Nat → Nat → Hp → Prop, (∃ m, W 0 m (upd H1 D (.lst []))) ∧ ∀ i m H, W i m H →
    ((ItB K b a).stop i H ∧ Qd H) ∨ ((ItB K b a).go i H ∧ ∃ Nx : Hp → Prop, (∀ H', Nx H' → ∃ m', m' < m ∧ W (i + 1) m' H') ∧ ∀ x H', (ItB K b a).yld i H x H' → gName j x (wipe σ vs) H' fun σ2 H2 =>
      wipe σ2 vs = wipe σ vs ∧ tYes σ2 H2 fun b H3 => if b = true then te σ2 H3 fun y H4 => ∃ acc, H4 D = some (.lst acc) ∧ acc.length < sizeLine ∧ Nx (upd H4 D (.lst (acc ++ [y]))) else Nx H3) := by
  refine lc_it (walk_B (K := K) (a := a) (xs := xs) (b := b)) (fun i H' => Same H1 H' ∧ H' D = some (.lst ((ys.take i).map f))) ⟨Same.new hD _, upd_same⟩ (fun i H' _ z => hs.same z.1) ?_ ?_
  · rintro i x H2 H2' hi ⟨e2, hD2⟩ ⟨rfl, hx⟩
    obtain ⟨y, hy, hF⟩ := K3.Paired.get hp hx
    refine ⟨hw x, ?_⟩
    refine w_yes ?_
    refine iteT ?_
    refine he x y H2' e2 (List.mem_of_getElem? hy) (mono e2 hF) _ fun H3 e3 => ?_
    refine ⟨_, e3 _ _ hD2, ?_, (e2.trans e3).mut hD, ?_⟩
    · refine Nat.lt_of_le_of_lt (show _ ≤ 10000 from ?_) (by decide)
      rw [List.length_map, List.length_take, ← hp.length]
      omega
    · rw [upd_same, List.take_add_one, hy, List.map_append]
      rfl
  · rintro H2 ⟨e2, hD2⟩
    refine hd H2 e2 ?_
    rw [hD2, hp.length, List.take_length]
end L2
namespace K3
/-- a grid: lists of lists, tuples of tuples, or both -/
structure GT (K : PySem.W.Frag) (H : Hp) (g : Addr) (rs : List Addr) (t : List (List Int)) : Prop where
  at_ : SqE K H g (rs.map V.ref)
  rows : Paired (fun r row => SqE K H r (row.map V.int)) rs t
theorem GT.same {K : PySem.W.Frag} {H H' : Hp} {g : Addr} {rs : List Addr} {t : List (List Int)} (h : GT K H g rs t) (e : Same H H') : GT K H' g rs t := ⟨h.at_.same e, L2.Paired.mapP h.rows fun _ _ z => z.same e⟩
theorem Tab.gt {K : PySem.W.Frag} {H : Hp} {g : Addr} {rs : List Addr} {t : List (List Int)} (h : Tab H g rs t) : GT K H g rs t := ⟨.lst h.at_, L2.Paired.mapP h.rows fun _ _ z => .lst z⟩
theorem row_ofG {K : PySem.W.Frag} {H : Hp} {g : Addr} {rs : List Addr} {t : List (List Int)} (ht : GT K H g rs t) {i : Nat} (hi : i < t.length) : ∃ a r, rs[i]? = some a ∧ t[i]? = some r ∧ SqE K H a (r.map V.int) := by
  have l := ht.rows.length
  obtain ⟨r, hr, h⟩ := K3.Paired.get ht.rows (List.getElem?_eq_getElem (show i < rs.length by omega))
  exact ⟨_, r, List.getElem?_eq_getElem (by omega), hr, h⟩
def RowE (K : PySem.W.Frag) (H : Hp) (v : V) (r : List Int) : Prop := ∃ a, v = .ref a ∧ SqE K H a (r.map V.int)
theorem RowE.same {K : PySem.W.Frag} {H H' : Hp} (e : Same H H') {v : V} {r : List Int} (h : RowE K H v r) : RowE K H' v r := let ⟨a, h1, h2⟩ := h; ⟨a, h1, h2.same e⟩
theorem rowE_of {K : PySem.W.Frag} {H : Hp} : ∀ {rs : List Addr} {t : List (List Int)}, Paired (fun r row => SqE K H r (row.map V.int)) rs t → Paired (RowE K H) (rs.map V.ref) t
  | _, _, .nil => .nil
  | _, _, .cons h t => .cons ⟨_, rfl, h⟩ (rowE_of t)
end K3
end E1_part
section C2_part
set_option Elab.async false
set_option linter.all false
set_option maxRecDepth 100000
set_option maxHeartbeats 1000000
set_option pp.deepTerms.threshold 5
open PySem PySem.Spec PyProof.Rows L2
/-- go on as far as nothing is open -/
local macro_rules | `(tactic| walk_at "go") => `(tactic| repeat (first
  | with_reducible refine w_seq ?_ | with_reducible refine w_next ?_ | with_reducible refine w_set ?_ | with_reducible refine w_drop ?_ | with_reducible refine w_ret ?_ | with_reducible refine w_retN ?_
  | with_reducible refine w_if ?_ | ((with_reducible refine' w_var ?hv ?_); (case hv => exact rfl)) | with_reducible refine w_c ?_ | with_reducible refine w_nil ?_ | with_reducible refine w_cons ?_ | with_reducible refine w_op ?_ | with_reducible refine w_un ?_
  | with_reducible refine w_test ?_ | with_reducible refine w_tB ?_ | with_reducible refine w_not ?_ | with_reducible refine w_and ?_ | with_reducible refine w_or ?_ | with_reducible refine w_bl ?_
  | with_reducible refine w_andV ?_ | with_reducible refine w_orV ?_ | with_reducible refine w_notV ?_ | with_reducible refine w_ifE ?_ | with_reducible refine w_chain ?_ | with_reducible refine w_i0 ?_
  | with_reducible refine w_call ?_ | with_reducible refine w_callS ?_ | with_reducible refine w_cB ?_ | with_reducible refine w_tup ?_ | with_reducible refine w_lst ?_ | with_reducible refine w_fldV ?_
  | with_reducible refine w_neF ?_ | with_reducible refine w_neT ?_ | with_reducible refine w_notN ?_ | with_reducible refine w_isN ?_ | with_reducible refine w_gname ?_ | with_reducible refine w_gsub ?_ | with_reducible refine w_asg ?_ | with_reducible refine w_sl ?_ | with_reducible refine w_noP ?_ | with_reducible refine w_int1 ?_ | with_reducible refine w_part ?_ | with_reducible refine w_yes ?_ | with_reducible refine w_nT ?_ | with_reducible refine w_nF ?_ | with_reducible refine w_iteT ?_ | with_reducible refine w_iteF ?_))
namespace K3
def spCellsOf (K : PySem.W.Frag) : Sp := fun vs H Q _ => ∃ (g : Addr) (rs : List Addr) (t : List (List Int)) (m n : Nat), vs = [.ref g] ∧ GT K H g rs t ∧ Rect t m n ∧ 1 ≤ m ∧ m ≤ 100 ∧ n ≤ 100 ∧ ∀ p' H' vs, Same H H' → H p' = none → H' p' = some (.lst vs) → Paired (CellAt H') vs (cellsOf m n) → Q (.ref p') H'
def spLast (K : PySem.W.Frag) : Sp := fun vs H Q _ => ∃ (g : Addr) (rs : List Addr) (t : List (List Int)) (m n : Nat), vs = [.ref g] ∧ GT K H g rs t ∧ Rect t m n ∧ 1 ≤ m ∧ 1 ≤ n ∧ ∀ a H', Same H H' → CellAt H' (.ref a) (m - 1, n - 1) → Q (.ref a) H'
def spNum (K : PySem.W.Frag) : Sp := fun vs H Q _ => ∃ (g : Addr) (v : V) (rs : List Addr) (t : List (List Int)) (m n i j : Nat), vs = [.ref g, v] ∧ GT K H g rs t ∧ Rect t m n ∧ CellAt H v (i, j) ∧ i < m ∧ j < n ∧ Q (.int (at2 t i j)) H
def spRefuse (K : PySem.W.Frag) : Sp := fun vs H Q _ => ∃ (g : Addr) (v : V) (rs : List Addr) (t : List (List Int)) (m n i j : Nat), vs = [.ref g, v] ∧ GT K H g rs t ∧ Rect t m n ∧ CellAt H v (i, j) ∧ i < m ∧ j < n ∧ Q .non H
section
variable {P : Program} {w : World} {K : PySem.W.Frag} {mg : Str → Option Value} {base : Heap}
theorem sc_cells_of : FnScope ["grid", "row", "column"] ["grid"] (defScope s_cells_of) := ⟨rfl, rfl, rfl, by decide +kernel, rfl, by decide +kernel, by decide +kernel⟩
theorem ok_cells_of (T : Tx K mg) : Ok P w K mg base 1 (He.ga K "cells_of") ["grid"] (spCellsOf K) := by
  obtain ⟨fd, F⟩ := T.f_cells_of
  refine ⟨fd, F.ok (k := 0) sc_cells_of (fun vs H Q E h => ?_) (fun cdv A outer s' H vs Q E hr h => ?_), F.bindsN fun _ _ _ _ _ _ us hl => match us, hl with | [_], _ => rfl, F.kp⟩
  · obtain ⟨g, rs, t, m, n, rfl, _⟩ := h
    rfl
  obtain ⟨g, rs, t, m, n, rfl, ht, ⟨tm, tn⟩, m1, m2, n2, q⟩ := h
  refine ⟨_, pss_one (ps_ret (by exact pe_lc2 (own := [("row", 1), ("column", 2)]) (vs1 := [2]) (g := gName 1) (tt := tYes) (wi1 := (iRng1 (tCons (tCB (fun xs H Q => ∃ p ys, xs = [V.ref p] ∧ (SqL K H p ys ∨ SqT K H p ys) ∧ Q (.int ys.length) H) (tCons (tOp (rIxE K) (tVar 0) (tC (.int 0))) tNil)) tNil))) (g1 := gName 2) (tt1 := tYes) (te := (tTup (tCons (tVar 1) (tCons (tVar 2) tNil)))) (by rfl) sc_cells_of.nd (pi_range1 rfl T.z_range (pa_cons (pe_callB call_len_seq (by rfl) T.z_len PySem.boot_len (pa_cons (pv 0) pa_nil)) pa_nil)) (blkOk_by (own := [("row", 1), ("column", 2)]) (N := ["grid", "row", "column"]) (sc := defScope s_cells_of) (by decide +kernel)) (by decide) (fun _ _ _ _ _ => pg_name (i := 1) sc_cells_of.nd rfl (Or.inl rfl)) (fun _ _ _ _ _ => pts_nil) (fun _ _ _ _ _ => (pi_range1 rfl T.z_range (pa_cons (pe_callB call_len_seq (by rfl) T.z_len PySem.boot_len (pa_cons (pe_ix ix_e (pv 0) pe_int (fun _ _ => rfl)) pa_nil)) pa_nil))) (fun _ _ _ _ _ => pg_name (i := 2) sc_cells_of.nd rfl (Or.inl rfl)) (fun _ _ _ _ _ => pts_nil) (fun _ _ _ _ _ => (pe_tup (pa_cons (pv 1) (pa_cons (pv 2) pa_nil)))))), ?_⟩
  have lr := ht.rows.length
  obtain ⟨a0, r0, ha0, hr0, hx0⟩ := row_ofG ht (i := 0) (by omega)
  have ln : r0.length = n := tn _ (List.mem_of_getElem? hr0)
  walk_at "go"
  refine lc2_open ?_
  refine rng_open ?_
  walk_at "go"
  refine ⟨g, _, rfl, ht.at_.either, ?_⟩
  rw [List.length_map, lr, tm]
  refine ⟨_, rfl, by omega, by omega, fun D hD => ?_⟩
  rw [Int.toNat_natCast]
  refine lc2_it walk_range (fun (i : Nat) H' => ∃ vs : List V, Same H H' ∧ H' D = some (.lst vs) ∧ Paired (CellAt H') vs (cellsOf i n)) ⟨[], Same.new hD _, upd_same, .nil⟩ (fun _ _ _ _ => trivial) ?_ ?_
  · rintro i x H1 H2 hi ⟨vs, e1, hD1, hp1⟩ ⟨rfl, rfl⟩
    show gName 1 (V.int ((0 : Int) + (i : Int))) _ _ _
    rw [show (0 : Int) + (i : Int) = (i : Int) by omega]
    walk_at "go"
    refine ⟨rfl, ?_⟩
    walk_at "go"
    refine rng_open ?_
    walk_at "go"
    refine w_ixE (ht.at_.same e1) (ref_at (i := 0) ha0) ?_
    walk_at "go"
    refine ⟨a0, _, rfl, (hx0.same e1).either, ?_⟩
    rw [List.length_map, ln]
    refine ⟨_, rfl, by omega, by omega, ?_⟩
    rw [Int.toNat_natCast]
    have hl1 : vs.length ≤ 10000 := by
      rw [hp1.length, cells_len]
      exact Nat.le_trans (Nat.mul_le_mul (Nat.le_trans (Nat.le_of_lt hi) m2) n2) (by decide)
    refine in1_it walk_range (fun (j : Nat) H' => ∃ ws : List V, Same H H' ∧ H' D = some (.lst ws) ∧ Paired (CellAt H') ws (cellsOf i n ++ rowCells j i)) ⟨vs, e1, hD1, by show Paired (CellAt _) vs (cellsOf i n ++ []); rw [List.append_nil]; exact hp1⟩ (fun _ _ _ _ => trivial) ?_ ?_
    · rintro j x H3 H4 hj ⟨ws, e3, hD3, hp3⟩ ⟨rfl, rfl⟩
      show gName 2 (V.int ((0 : Int) + (j : Int))) _ _ _
      rw [show (0 : Int) + (j : Int) = (j : Int) by omega]
      walk_at "go"
      refine ⟨rfl, ?_⟩
      walk_at "go"
      refine ⟨(by show 2 ≤ sizeLine; decide), fun p3 hp4 => ?_⟩
      have e4 := Same.new hp4 (.tup [.int (i : Int), .int (j : Int)])
      have hD4 := e4 _ _ hD3
      have lw : ws.length ≤ 20000 := by
        rw [hp3.length, List.length_append, cells_len]
        unfold rowCells
        rw [List.length_map, List.length_range]
        have := Nat.mul_le_mul (Nat.le_trans (Nat.le_of_lt hi) m2) n2
        omega
      have up : ∀ v x, CellAt (upd H4 p3 (.tup [.int (i : Int), .int (j : Int)])) v x → CellAt (upd (upd H4 p3 (.tup [.int (i : Int), .int (j : Int)])) D (.lst (ws ++ [.ref p3]))) v x := fun v x ⟨a, h1, h2⟩ => ⟨a, h1, by rw [upd_ne (fun z => by rw [z, hD4] at h2; cases h2)]; exact h2⟩
      refine ⟨ws, hD4, Nat.lt_of_le_of_lt lw (by decide), ws ++ [.ref p3], (e3.trans e4).mut hD, upd_same, ?_⟩
      unfold rowCells at hp3 ⊢
      rw [List.range_succ, List.map_append, ← List.append_assoc]
      exact K3.Paired.app (L2.Paired.mapP hp3 fun _ _ z => up _ _ (z.same e4)) (.cons (up _ _ ⟨p3, rfl, upd_same⟩) .nil)
    · rintro H3 ⟨ws, e3, hD3, hp3⟩
      refine ⟨ws, e3, hD3, ?_⟩
      unfold cellsOf at hp3 ⊢
      rw [List.range_succ, List.flatMap_append, List.flatMap_cons, List.flatMap_nil, List.append_nil]
      exact hp3
  · rintro H1 ⟨vs, e1, hD1, hp1⟩
    exact q D H1 vs e1 hD hD1 hp1
theorem sc_last_cell : FnScope ["grid"] ["grid"] (defScope s_last_cell) := ⟨rfl, rfl, rfl, by decide +kernel, rfl, by decide +kernel, by decide +kernel⟩
theorem ok_last_cell (T : Tx K mg) : Ok P w K mg base 1 (He.ga K "last_cell") ["grid"] (spLast K) := by
  obtain ⟨fd, F⟩ := T.f_last_cell
  refine ⟨fd, F.ok (k := 0) sc_last_cell (fun vs H Q E h => ?_) (fun cdv A outer s' H vs Q E hr h => ?_), F.bindsN fun _ _ _ _ _ _ us hl => match us, hl with | [_], _ => rfl, F.kp⟩
  · obtain ⟨g, rs, t, m, n, rfl, _⟩ := h
    rfl
  obtain ⟨g, rs, t, m, n, rfl, ht, ⟨tm, tn⟩, m1, n1, q⟩ := h
  refine ⟨_, pss_one (ps_ret (pe_tup (pa_cons (pe_op op_sub (pe_callB call_len_seq (by rfl) T.z_len PySem.boot_len (pa_cons (pv 0) pa_nil)) pe_int) (pa_cons (pe_op op_sub (pe_callB call_len_seq (by rfl) T.z_len PySem.boot_len (pa_cons (pe_ix ix_e (pv 0) pe_int (fun _ _ => rfl)) pa_nil)) pe_int) pa_nil)))), ?_⟩
  have lr := ht.rows.length
  obtain ⟨a0, r0, ha0, hr0, hx0⟩ := row_ofG ht (i := 0) (by omega)
  have ln : r0.length = n := tn _ (List.mem_of_getElem? hr0)
  walk_at "go"
  refine ⟨g, _, rfl, ht.at_.either, ?_⟩
  rw [List.length_map, lr, tm]
  walk_at "go"
  refine w_ixE ht.at_ (ref_at (i := 0) ha0) ?_
  walk_at "go"
  refine ⟨a0, _, rfl, hx0.either, ?_⟩
  rw [List.length_map, ln]
  walk_at "go"
  refine ⟨(by show 2 ≤ sizeLine; decide), fun a ha => q a _ (Same.new ha _) ⟨a, rfl, ?_⟩⟩
  rw [upd_same, show ((m : Int) - 1) = ((m - 1 : Nat) : Int) by omega, show ((n : Int) - 1) = ((n - 1 : Nat) : Int) by omega]
theorem sc_number_at : FnScope ["grid", "cell", "row", "column"] ["grid", "cell"] (defScope s_number_at) := ⟨rfl, rfl, rfl, by decide +kernel, rfl, by decide +kernel, by decide +kernel⟩
theorem ok_number_at (T : Tx K mg) : Ok P w K mg base 1 (He.ga K "number_at") ["grid", "cell"] (spNum K) := by
  obtain ⟨fd, F⟩ := T.f_number_at
  refine ⟨fd, F.ok (k := 0) sc_number_at (fun vs H Q E h => ?_) (fun cdv A outer s' H vs Q E hr h => ?_), F.bindsN fun _ _ _ _ _ _ us hl => match us, hl with | [_, _], _ => rfl, F.kp⟩
  · obtain ⟨g, v, rs, t, m, n, i, j, rfl, _⟩ := h
    rfl
  obtain ⟨g, v, rs, t, m, n, i, j, rfl, ht, ⟨tm, tn⟩, ⟨c, rfl, hc⟩, hi, hj, q⟩ := h
  refine ⟨_, pss_cons (ps_asg (pv 1) (pg_tup rfl (pgs_cons (pg_name (i := 2) sc_number_at.nd rfl (Or.inl rfl)) (pgs_cons (pg_name (i := 3) sc_number_at.nd rfl (Or.inl rfl)) pgs_nil))))
      (pss_one (ps_ret (pe_ix ix_e (pe_ix ix_e (pv 0) (pv 2) (fun _ _ => rfl)) (pv 3) (fun _ _ => rfl)))), ?_⟩
  obtain ⟨a0, r0, ha0, hr0, hx0⟩ := row_ofG ht (i := i) (by omega)
  have ln : r0.length = n := tn _ (List.mem_of_getElem? hr0)
  walk_at "go"
  refine ⟨c, _, rfl, SqT.of hc, rfl, _, _, rfl, _, _, rfl, rfl, ?_⟩
  walk_at "go"
  refine w_ixE ht.at_ (ref_at ha0) ?_
  walk_at "go"
  refine w_ixE hx0 (at_getD (c := j) (by omega)) ?_
  rw [← at2_of hr0]
  exact q
theorem sc_refuse_no_cell : FnScope ["grid", "cell", "row", "column"] ["grid", "cell"] (defScope s_refuse_no_cell) := ⟨rfl, rfl, rfl, by decide +kernel, rfl, by decide +kernel, by decide +kernel⟩
theorem ok_refuse_no_cell (T : Tx K mg) : Ok P w K mg base 1 (He.ga K "refuse_no_cell") ["grid", "cell"] (spRefuse K) := by
  obtain ⟨fd, F⟩ := T.f_refuse_no_cell
  refine ⟨fd, F.ok (k := 0) sc_refuse_no_cell (fun vs H Q E h => ?_) (fun cdv A outer s' H vs Q E hr h => ?_), F.bindsN fun _ _ _ _ _ _ us hl => match us, hl with | [_, _], _ => rfl, F.kp⟩
  · obtain ⟨g, v, rs, t, m, n, i, j, rfl, _⟩ := h
    rfl
  obtain ⟨g, v, rs, t, m, n, i, j, rfl, ht, ⟨tm, tn⟩, ⟨c, rfl, hc⟩, hi, hj, q⟩ := h
  refine ⟨_, pss_cons (ps_asg (pv 1) (pg_tup rfl (pgs_cons (pg_name (i := 2) sc_refuse_no_cell.nd rfl (Or.inl rfl)) (pgs_cons (pg_name (i := 3) sc_refuse_no_cell.nd rfl (Or.inl rfl)) pgs_nil))))
      (pss_one (ps_if (pt_not (pw_and (pt_chain op_le op_lt pe_int (pv 2) (pe_callB call_len_seq (by rfl) T.z_len PySem.boot_len (pa_cons (pv 0) pa_nil))) (pw_and1 (pt_chain op_le op_lt pe_int (pv 3) (pe_callB call_len_seq (by rfl) T.z_len PySem.boot_len (pa_cons (pe_ix ix_e (pv 0) pe_int (fun _ _ => rfl)) pa_nil))))).pt) (pss_one ps_dead) pss_nil)), ?_⟩
  have lr := ht.rows.length
  obtain ⟨a0, r0, ha0, hr0, hx0⟩ := row_ofG ht (i := 0) (by omega)
  have ln : r0.length = n := tn _ (List.mem_of_getElem? hr0)
  have d1 : decide ((0 : Int) ≤ (i : Int)) = true := decide_eq_true (by omega)
  have d2 : decide ((i : Int) < (m : Int)) = true := decide_eq_true (by omega)
  have d3 : decide ((0 : Int) ≤ (j : Int)) = true := decide_eq_true (by omega)
  have d4 : decide ((j : Int) < (n : Int)) = true := decide_eq_true (by omega)
  walk_at "go"
  refine ⟨c, _, rfl, SqT.of hc, rfl, _, _, rfl, _, _, rfl, rfl, ?_⟩
  walk_at "go"
  rw [d1]
  walk_at "go"
  refine ⟨g, _, rfl, ht.at_.either, ?_⟩
  rw [List.length_map, lr, tm]
  walk_at "go"
  rw [d2]
  walk_at "go"
  rw [d3]
  walk_at "go"
  refine w_ixE ht.at_ (ref_at (i := 0) ha0) ?_
  walk_at "go"
  refine ⟨a0, _, rfl, hx0.either, ?_⟩
  rw [List.length_map, ln]
  walk_at "go"
  rw [d4]
  walk_at "go"
  exact q
end
end K3
end C2_part
section C3_part
set_option Elab.async false
set_option linter.all false
set_option maxRecDepth 100000
set_option maxHeartbeats 1000000
set_option pp.deepTerms.threshold 5
open PySem PySem.Spec PyProof.Rows L2
/-- go on as far as nothing is open -/
local macro_rules | `(tactic| walk_at "go") => `(tactic| repeat (first
  | with_reducible refine w_seq ?_ | with_reducible refine w_next ?_ | with_reducible refine w_set ?_ | with_reducible refine w_drop ?_ | with_reducible refine w_ret ?_ | with_reducible refine w_retN ?_
  | with_reducible refine w_if ?_ | ((with_reducible refine' w_var ?hv ?_); (case hv => exact rfl)) | with_reducible refine w_c ?_ | with_reducible refine w_nil ?_ | with_reducible refine w_cons ?_ | with_reducible refine w_op ?_ | with_reducible refine w_un ?_
  | with_reducible refine w_test ?_ | with_reducible refine w_tB ?_ | with_reducible refine w_not ?_ | with_reducible refine w_and ?_ | with_reducible refine w_or ?_ | with_reducible refine w_bl ?_
  | with_reducible refine w_andV ?_ | with_reducible refine w_orV ?_ | with_reducible refine w_notV ?_ | with_reducible refine w_ifE ?_ | with_reducible refine w_chain ?_ | with_reducible refine w_i0 ?_
  | with_reducible refine w_call ?_ | with_reducible refine w_callS ?_ | with_reducible refine w_cB ?_ | with_reducible refine w_tup ?_ | with_reducible refine w_lst ?_ | with_reducible refine w_fldV ?_
  | with_reducible refine w_neF ?_ | with_reducible refine w_neT ?_ | with_reducible refine w_notN ?_ | with_reducible refine w_isN ?_ | with_reducible refine w_gname ?_ | with_reducible refine w_gsub ?_ | with_reducible refine w_asg ?_ | with_reducible refine w_sl ?_ | with_reducible refine w_noP ?_ | with_reducible refine w_int1 ?_ | with_reducible refine w_part ?_ | with_reducible refine w_yes ?_ | with_reducible refine w_nT ?_ | with_reducible refine w_nF ?_ | with_reducible refine w_iteT ?_ | with_reducible refine w_iteF ?_))
namespace L2
open PySem PySem.Spec PyProof.Rows
/-- an empty set as it is made -/
abbrev bare0 (w : World) : Obj := { cls := .type "set", dict := none, data := .set #[] 0 (.fresh 0 0 (!w.params.followText "set-order")) }
section
variable {P : Program} {w : World} {A : Around} {E : Value → Shared → Prop} {s : Shared}
theorem no_obj {h : Heap} {b : Addr} (q : h.objs.size ≤ b) : h.get? b = none := by
  cases e : h.get? b with
  | none => rfl
  | some _ =>
    exact absurd (Nat.lt_of_lt_of_le (Heap.lt_size e) q) (Nat.lt_irrefl _)
set_option maxRecDepth 100000 in
set_option maxHeartbeats 3200000 in
/-- the filling of a new set from a tuple of tuples -/
theorem fill_tups {l : Addr} {items : Array Value} (ks : List (Addr × List Int)) (A0 : A.handled = none)
    (T : s.heap.IsTuple l items) (ei : items.toList = ks.map (fun p => Value.ref p.1))
    (ik : ∀ p, p ∈ ks → IsT P w s.heap p.2 p.1) (few : ks.length < 64) (room : A.units + 1 < cLine)
    {R : Result → Shared → Prop}
    (h : ∀ (h' : Heap) (tk : Nat) (L : List (Addr × List Int)) es ep t, SetTR P w h' s.heap.objs.size L es ep t → Got ks ks.length L →
      (∀ b o, s.heap.get? b = some o → h'.get? b = some o) → R (.ok (.ret Value.none)) { s with heap := h', toks := tk }) :
    codeAny (model P w) A (.builtin "set.update.loop" ⟨[.ref s.heap.objs.size, .ref (s.heap.objs.size + 1)], []⟩) R
      { s with heap := (s.heap.push (bare0 w)).push { cls := .type "tuple_iterator", data := .fields #[.ref l, .int 0 0] } } := by
  have n : items.size = ks.length := by rw [← Array.length_toList, ei, List.length_map]
  obtain ⟨ol, hol, _⟩ := id T
  have ls : l < s.heap.objs.size := Heap.lt_size hol
  have z1 : (s.heap.push (bare0 w)).objs.size = s.heap.objs.size + 1 := Heap.size_push ..
  have at0 : (s.heap.push (bare0 w)).get? s.heap.objs.size = some (bare0 w) := Heap.get?_push_size _ rfl
  have it0 : ((s.heap.push (bare0 w)).push { cls := .type "tuple_iterator", data := .fields #[.ref l, .int 0 0] }).get? (s.heap.objs.size + 1) = some { cls := .type "tuple_iterator", data := .fields #[.ref l, .int 0 0] } := by
    rw [← z1]
    exact Heap.get?_push_size _ rfl
  have hv : ∀ (i : Nat) (v : Value), items[i]? = some v → ∃ p, ks[i]? = some p ∧ v = Value.ref p.1 := by
    intro i v e
    rw [← Array.getElem?_toList, ei, List.getElem?_map] at e
    cases c : ks[i]? with
    | none => rw [c] at e; cases e
    | some p => rw [c] at e; exact ⟨p, rfl, (Option.some.inj e).symm⟩
  have out : s.heap.objs.size ∉ [s.heap.objs.size + 1, l] := by
    intro z
    rcases List.mem_cons.mp z with z | z
    · exact Nat.ne_of_lt (Nat.lt_succ_self _) z
    · exact Nat.ne_of_gt ls (List.mem_singleton.mp z)
  have W := (Walks.tuple (prog := P) (w := w) (A := A.in1) (by simpa using A0) (s.heap.objs.size + 1) l (Nat.ne_of_lt (Nat.lt_succ_of_lt ls)) items).toS
  refine set_update_tups W s.heap.objs.size out ks n few hv s.heap ik (no_obj (Nat.le_refl _)) ?_ (by simpa using room) items.size 0 _ (Nat.sub_zero _) (Nat.zero_le _) ?_ ?_ ?_ ?_
  · intro b hb
    rw [List.mem_singleton.mp hb]
    exact no_obj (Nat.le_succ _)
  · exact ⟨⟨_, it0, rfl, rfl⟩, (T.push _).push _⟩
  · exact fun b o e => Heap.get?_push_of_some _ (Heap.get?_push_of_some _ e)
  · exact ⟨[], #[], 0, _, setTR_fresh (Heap.get?_push_of_some _ at0), Got.zero ks⟩
  · intro s' L es ep t mv S1 g k
    have e : s' = { s with heap := s'.heap, toks := s'.toks } := by
      have a1 := mv.gens
      have a2 := mv.drawn
      have a3 := mv.os
      cases s'
      cases a1
      cases a2
      cases a3
      rfl
    rw [e]
    rw [n] at g
    exact h s'.heap s'.toks L es ep t S1 g k
set_option maxRecDepth 100000 in
set_option maxHeartbeats 3200000 in
/-- set(t), t a tuple of tuples of ints -/
theorem set_of_tuple {l : Addr} {items : Array Value} (ks : List (Addr × List Int)) {Q : Value → Shared → Prop} (A0 : A.handled = none)
    (T : s.heap.IsTuple l items) (ei : items.toList = ks.map (fun p => Value.ref p.1))
    (ik : ∀ p, p ∈ ks → IsT P w s.heap p.2 p.1) (few : ks.length < 64) (room : A.units + 4 < cLine)
    (h : ∀ (h' : Heap) (tk : Nat) (L : List (Addr × List Int)) es ep t, SetTR P w h' s.heap.objs.size L es ep t → Got ks ks.length L →
      (∀ b o, s.heap.get? b = some o → h'.get? b = some o) → Q (.ref s.heap.objs.size) { s with heap := h', toks := tk }) :
    wpAny (model P w) A (call (.type "set") [.ref l]) Q E s := by
  obtain ⟨mroC, mroT, mroE⟩ := F.called_set.mro
  have f1 := F.called_set.made
  have f2 := F.called_set.sub
  have f3 := F.called_set.notType
  have f4 := F.called_set.canCreate
  have f5 := F.typeCall_set_1 (.ref l)
  refine wpAny_call (codeAny_of_tree (wpAny_pure ⟨Code.quiet_builtin _ (by decide +kernel), codeAny_builtin F.entry_type_call ?_⟩))
  rw [Around.under_plain (weight_type_call_type "set" [.ref l] []) rfl]
  repeat (any_goals (first | assumption | wp_step))
  refine codeAny_mono (code_set_led1 (.ref l) (E := E) (Q₁ := fun v s1 => v = .ref s.heap.objs.size ∧ s1 = { s with heap := s.heap.push (bare0 w) }) ⟨rfl, rfl⟩) ?_
  intro r s1 hr
  match r, hr with
  | .error e, hr => exact hr
  | .ok (.ret v), hr =>
    obtain ⟨e1, e2⟩ := hr
    subst e1
    subst e2
    have g1 := F.called_set.init.lookup
    have g2 := F.called_set.init.bind (.ref s.heap.objs.size)
    have ty : Shared.TypeIs { s with heap := s.heap.push (bare0 w) } (.ref s.heap.objs.size) "set" := ⟨_, Heap.get?_push_size _ rfl, rfl⟩
    repeat (any_goals (first | assumption | wp_step))
    refine codeAny_mono (codeAny_call_builtin (R := wants (fun v s2 => v = .none ∧ ∃ h' tk, s2 = { s with heap := h', toks := tk } ∧ Q (.ref s.heap.objs.size) s2) E) F.called_set.init.plain F.entry_set_init (check_set_init_1 ty ?_)) ?_
    · obtain ⟨⟨oc, od, odt, osl⟩, o1, o2, on, o3⟩ := id T
      simp only at o2 o3
      subst o2
      subst o3
      have o4 : (s.heap.push (bare0 w)).get? l = some ⟨.type "tuple", od, .seq items on, osl⟩ := Heap.get?_push_of_some _ o1
      have k1 := F.sub_tuple_set
      have k2 := F.sub_tuple_frozenset
      have k3 : (Value.type "tuple" == Value.type "dict") = false := by decide
      unfold Builtin.«set.__init__» noKeywords Builtin.Frozenset.updateFrom
      generalize hI : pyIter = IT
      wp_walk
      subst hI
      refine wpAny_pyIter_tuple (T.push _) (wpAny_bind (wpAny_runValue ?_))
      have z1 : (s.heap.push (bare0 w)).objs.size = s.heap.objs.size + 1 := Heap.size_push ..
      rw [z1]
      refine fill_tups (s := s) ks (by simp [A0]) T ei ik few (by simp; omega) ?_
      intro h' tk L es ep t S1 g k
      refine wpAny_pure (wpAny_pure ⟨rfl, h', tk, rfl, h h' tk L es ep t S1 g k⟩)
    · intro r2 s2 hr2
      match r2, hr2 with
      | .error e, hr2 => exact hr2
      | .ok (.ret v), hr2 =>
        obtain ⟨e1, h', tk, e2, q⟩ := hr2
        subst e1
        subst e2
        repeat (any_goals (first | assumption | wp_step))
end
end L2
end C3_part
section C4_part
set_option Elab.async false
set_option linter.all false
set_option maxRecDepth 100000
set_option maxHeartbeats 1000000
set_option pp.deepTerms.threshold 5
open PySem PySem.Spec PyProof.Rows L2
/-- go on as far as nothing is open -/
local macro_rules | `(tactic| walk_at "go") => `(tactic| repeat (first
  | with_reducible refine w_seq ?_ | with_reducible refine w_next ?_ | with_reducible refine w_set ?_ | with_reducible refine w_drop ?_ | with_reducible refine w_ret ?_ | with_reducible refine w_retN ?_
  | with_reducible refine w_if ?_ | ((with_reducible refine' w_var ?hv ?_); (case hv => exact rfl)) | with_reducible refine w_c ?_ | with_reducible refine w_nil ?_ | with_reducible refine w_cons ?_ | with_reducible refine w_op ?_ | with_reducible refine w_un ?_
  | with_reducible refine w_test ?_ | with_reducible refine w_tB ?_ | with_reducible refine w_not ?_ | with_reducible refine w_and ?_ | with_reducible refine w_or ?_ | with_reducible refine w_bl ?_
  | with_reducible refine w_andV ?_ | with_reducible refine w_orV ?_ | with_reducible refine w_notV ?_ | with_reducible refine w_ifE ?_ | with_reducible refine w_chain ?_ | with_reducible refine w_i0 ?_
  | with_reducible refine w_call ?_ | with_reducible refine w_callS ?_ | with_reducible refine w_cB ?_ | with_reducible refine w_tup ?_ | with_reducible refine w_lst ?_ | with_reducible refine w_fldV ?_
  | with_reducible refine w_neF ?_ | with_reducible refine w_neT ?_ | with_reducible refine w_notN ?_ | with_reducible refine w_isN ?_ | with_reducible refine w_gname ?_ | with_reducible refine w_gsub ?_ | with_reducible refine w_asg ?_ | with_reducible refine w_sl ?_ | with_reducible refine w_noP ?_ | with_reducible refine w_int1 ?_ | with_reducible refine w_part ?_ | with_reducible refine w_yes ?_ | with_reducible refine w_nT ?_ | with_reducible refine w_nF ?_ | with_reducible refine w_iteT ?_ | with_reducible refine w_iteF ?_))
namespace L2
open PySem PySem.Spec PyProof.Rows
section
variable {X : Cx}
def rSetTT (K : PySem.W.Frag) (P : Program) (w : World) : List V → Hp → VK → Prop := fun xs H Q => ∃ (l : Addr) (ks : List (Addr × List Int)), xs = [V.ref l] ∧ SqT K H l (ks.map (fun p => V.ref p.1)) ∧ (∀ p, p ∈ ks → SqT K H p.1 (p.2.map V.int)) ∧ ks.length < 64 ∧
  ∀ a L, H a = none → (∀ p, p ∈ L → p ∈ ks) → (∀ p, p ∈ ks → p.2 ∈ L.map (·.2)) → Q (.ref a) (upd H a (SetTO P w a L))
theorem cr_setTT (hc : X.calm = true) (room : X.A.units + 64 < cLine) : CallR X (.type "set") (rSetTT X.K X.prog X.w) := by
  intro pins s σ H xs us Q I r ⟨l, ks, e, hl, hk, few, q⟩
  subst e
  rw [Vals.ref1 r]
  obtain ⟨its, rv, pl, _⟩ := I.tuple hl
  refine set_of_tuple ks (I.ok.hd hc) pl (by simpa using refs_of_vals rv) (fun p hp => I.isT (hk p hp)) few (by omega) ?_
  intro h' tk L es ep t S1 g k
  refine ⟨.ref s.heap.objs.size, _, I.laid (t' := tk) k (Nat.le_refl _) (setTO_new S1.t0), rfl, q _ L (I.hok.fresh (Nat.le_refl _)) ?_ ?_⟩
  · exact fun p hp => List.mem_of_mem_take (g.sub p hp)
  · intro p hp
    refine g.all p ?_
    rw [List.take_length]
    exact hp
end
end L2
namespace K3
/-! ### hidden cells -/
theorem cells_last (m n : Nat) : (cellsOf (m + 1) (n + 1)).dropLast = cellsOf m (n + 1) ++ rowCells n m := by
  unfold cellsOf
  rw [List.range_succ, List.flatMap_append, List.flatMap_cons, List.flatMap_nil, List.append_nil]
  unfold rowCells
  rw [List.range_succ, List.map_append, ← List.append_assoc]
  exact List.dropLast_concat
theorem cells_mem {m n : Nat} {c : Nat × Nat} : c ∈ cellsOf m n ↔ c.1 < m ∧ c.2 < n := by
  unfold cellsOf rowCells
  simp only [List.mem_flatMap, List.mem_range, List.mem_map]
  constructor
  · rintro ⟨a, ha, b, hb, rfl⟩
    exact ⟨ha, hb⟩
  · rintro ⟨h1, h2⟩
    exact ⟨c.1, h1, c.2, h2, rfl⟩
theorem drop_mem {m n : Nat} (m1 : 1 ≤ m) (n1 : 1 ≤ n) {c : Nat × Nat} (h : c ∈ (cellsOf m n).dropLast) : c.1 < m ∧ c.2 < n ∧ c ≠ (m - 1, n - 1) := by
  obtain ⟨m, rfl⟩ : ∃ k, m = k + 1 := ⟨m - 1, by omega⟩
  obtain ⟨n, rfl⟩ : ∃ k, n = k + 1 := ⟨n - 1, by omega⟩
  rw [cells_last] at h
  rcases List.mem_append.mp h with h | h
  · obtain ⟨h1, h2⟩ := cells_mem.mp h
    refine ⟨by omega, h2, fun z => ?_⟩
    rw [z] at h1
    simp at h1
  · unfold rowCells at h
    simp only [List.mem_map, List.mem_range] at h
    obtain ⟨b, hb, rfl⟩ := h
    refine ⟨by simp, by simp; omega, fun z => ?_⟩
    injection z with z1 z2
    simp at z2
    omega
/-- hidden cells, a list or a tuple of them -/
def HidIn (K : PySem.W.Frag) (H : Hp) (v : V) (hs : List (Nat × Nat)) (m n : Nat) : Prop :=
  ∃ p ws, v = .ref p ∧ (SqL K H p ws ∨ SqT K H p ws) ∧ Paired (CellAt H) ws hs ∧ (∀ h ∈ hs, h ∈ (cellsOf m n).dropLast) ∧ hs.length ≤ 60
def Srt (hs : List (Nat × Nat)) : Prop := hs.Pairwise fun a b => a.1 * 64 + a.2 < b.1 * 64 + b.2
theorem srt_of {m n : Nat} (hm : m ≤ 60) (hn : n ≤ 60) {hs : List (Nat × Nat)} (hb : ∀ c ∈ hs, c.1 < m ∧ c.2 < n) (nd : (hs.map fun c => [(c.1 : Int), (c.2 : Int)]).Nodup) (pw : (hs.map fun c => [(c.1 : Int), (c.2 : Int)]).Pairwise fun a b => TS.code 64 a ≤ TS.code 64 b) : Srt hs := by
  have h1 := List.pairwise_map.mp nd
  have h2 := List.pairwise_map.mp pw
  refine List.Pairwise.imp_of_mem ?_ (h1.and h2)
  intro a b ha hb' ⟨k1, k2⟩
  rw [code_pair, code_pair] at k2
  obtain ⟨x1, x2⟩ := hb a ha
  obtain ⟨y1, y2⟩ := hb b hb'
  by_cases z : a.1 = b.1 ∧ a.2 = b.2
  · exact absurd (by rw [z.1, z.2]) k1
  · omega
def spReadH (K : PySem.W.Frag) : Sp := fun vs H Q _ => ∃ (g : Addr) (v : V) (rs : List Addr) (t : List (List Int)) (m n : Nat) (hs : List (Nat × Nat)), vs = [.ref g, v] ∧ GT K H g rs t ∧ Rect t m n ∧ 1 ≤ m ∧ 1 ≤ n ∧ m ≤ 60 ∧ n ≤ 60 ∧ HidIn K H v hs m n ∧
  ∀ p' H' ws' hs', Same H H' → H' p' = some (.lst ws') → Paired (CellAt H') ws' hs' → (∀ c, c ∈ hs' ↔ c ∈ hs) → hs'.length ≤ 100 → Srt hs' → Q (.ref p') H'
theorem hid_keys {H : Hp} : ∀ {ws : List V} {hs : List (Nat × Nat)}, Paired (CellAt H) ws hs → ∃ ks : List (Addr × List Int), ws = ks.map (fun p => V.ref p.1) ∧ (∀ p ∈ ks, ∃ c ∈ hs, p.2 = [(c.1 : Int), (c.2 : Int)] ∧ H p.1 = some (.tup (p.2.map V.int))) ∧ (∀ c ∈ hs, ∃ p ∈ ks, p.2 = [(c.1 : Int), (c.2 : Int)]) ∧ ks.length = hs.length
  | _, _, .nil => ⟨[], rfl, fun p hp => (by cases hp), fun p hp => (by cases hp), rfl⟩
  | _, _, .cons (b := c) h t => by
    obtain ⟨ks, h1, h2, h3, h4⟩ := hid_keys t
    obtain ⟨a, rfl, ha⟩ := h
    refine ⟨(a, [(c.1 : Int), (c.2 : Int)]) :: ks, by rw [h1]; rfl, fun p hp => ?_, fun d hd => ?_, by simp [h4]⟩
    · rcases List.mem_cons.mp hp with rfl | hp
      · exact ⟨c, List.mem_cons_self .., rfl, ha⟩
      · obtain ⟨d, hd, k⟩ := h2 p hp
        exact ⟨d, List.mem_cons_of_mem _ hd, k⟩
    · rcases List.mem_cons.mp hd with rfl | hd
      · exact ⟨_, List.mem_cons_self .., rfl⟩
      · obtain ⟨p, hp, k⟩ := h3 d hd
        exact ⟨p, List.mem_cons_of_mem _ hp, k⟩
theorem keys_hid {H : Hp} {hs : List (Nat × Nat)} : ∀ {L : List (Addr × List Int)}, (∀ p ∈ L, ∃ c ∈ hs, p.2 = [(c.1 : Int), (c.2 : Int)] ∧ H p.1 = some (.tup (p.2.map V.int))) → ∃ hs', Paired (CellAt H) (L.map fun q => V.ref q.1) hs' ∧ (∀ c, c ∈ hs' ↔ c ∈ hs ∧ [(c.1 : Int), (c.2 : Int)] ∈ L.map (·.2)) ∧ hs'.length = L.length ∧ hs'.map (fun c => [(c.1 : Int), (c.2 : Int)]) = L.map (·.2)
  | [], _ => ⟨[], .nil, fun c => by simp, rfl, rfl⟩
  | p :: L, h => by
    obtain ⟨hs', h1, h2, h3, h4⟩ := keys_hid (L := L) fun q hq => h q (List.mem_cons_of_mem _ hq)
    obtain ⟨c, hc, e, ha⟩ := h p (List.mem_cons_self ..)
    rw [e] at ha
    refine ⟨c :: hs', .cons ⟨_, rfl, ha⟩ h1, fun d => ?_, by simp [h3], by rw [List.map_cons, List.map_cons, h4, e]⟩
    rw [List.mem_cons, h2, List.map_cons, List.mem_cons, e]
    constructor
    · rintro (rfl | ⟨a, b⟩)
      · exact ⟨hc, .inl rfl⟩
      · exact ⟨a, .inr b⟩
    · rintro ⟨a, b | b⟩
      · refine .inl ?_
        obtain ⟨d1, d2⟩ := d
        obtain ⟨c1, c2⟩ := c
        simp at b
        obtain ⟨b1, b2⟩ := b
        obtain rfl : d1 = c1 := by omega
        obtain rfl : d2 = c2 := by omega
        rfl
      · exact .inr ⟨a, b⟩
theorem cell_eqv (a b : Nat × Nat) : PyData.eqv (cellD a) (cellD b) = decide (a = b) := by
  unfold cellD
  obtain ⟨a1, a2⟩ := a
  obtain ⟨b1, b2⟩ := b
  rw [Bool.eq_iff_iff]
  simp [PyData.eqv, PyData.eqvAll]
  omega
theorem cell_shaped (c : Nat × Nat) : SeqAt.shaped (cellD c) = true := by
  unfold SeqAt.shaped cellD
  simp [PyData.canLay0, PyData.canLayAll0, PyData.depth, PyData.depthAll]
def tbRead (K : PySem.W.Frag) : TS := tSeq (tDrop (tCall (spRefuse K) [] E0 (tCons (tVar 0) (tCons (tVar 2) tNil)))) (tIfS (tTest (tOp (rEqD K) (tVar 2) (tCall (spLast K) [] E0 (tCons (tVar 0) tNil)))) (fun _ _ _ => False) tNext)
section
variable {P : Program} {w : World} {K : PySem.W.Frag} {mg : Str → Option Value} {base : Heap}
theorem sc_read_hidden : FnScope ["grid", "hidden", "cell"] ["grid", "hidden"] (defScope s_read_hidden) := ⟨rfl, rfl, rfl, by decide +kernel, rfl, by decide +kernel, by decide +kernel⟩
theorem ok_read_hidden (T : Tx K mg) : Ok P w K mg base 2 (He.ga K "read_hidden") ["grid", "hidden"] (spReadH K) := by
  obtain ⟨fd, F⟩ := T.f_read_hidden
  have Orefuse_no_cell := ok_refuse_no_cell (P := P) (w := w) (base := base) T
  have Olast_cell := ok_last_cell (P := P) (w := w) (base := base) T
  refine ⟨fd, F.ok (k := 1) sc_read_hidden (fun vs H Q E h => ?_) (fun cdv A outer s' H vs Q E hr h => ?_), F.bindsN fun _ _ _ _ _ _ us hl => match us, hl with | [_, _], _ => rfl, F.kp⟩
  · obtain ⟨g, v, rs, t, m, n, hs, rfl, _⟩ := h
    rfl
  obtain ⟨g, v, rs, t, m, n, hs, rfl, ht, hR, m1, n1, m2, n2, ⟨p, ws, rfl, hp, hw, hmem, hlen⟩, q⟩ := h
  have rrefuse_no_cell : Room 1 _ := hr
  have rlast_cell : Room 1 _ := hr
  have hu65 := K3.Room.units65 hr
  have hu64 := Nat.lt_of_succ_lt hu65
  refine ⟨_, pss_cons (ps_for (passes_of rfl) rfl (pi_or (pi_list (pv 1)) (pi_tup (pv 1))) (pg_name (i := 2) sc_read_hidden.nd rfl (Or.inl rfl)) (pss_cons (ps_expr (pe_f Orefuse_no_cell rrefuse_no_cell T.g_refuse_no_cell (pa_cons (pv 0) (pa_cons (pv 2) pa_nil))))
      (pss_one (ps_if (pt_cmpR (op_eqD hu64) (pv 2) (pe_f Olast_cell rlast_cell T.g_last_cell (pa_cons (pv 0) pa_nil)) (nomark _)) (pss_one ps_dead) pss_nil))))
      (pss_one (ps_ret (pe_callB (cr_sortedT (by rfl)) (by rfl) T.z_sorted (by decide +kernel) (pa_cons (pe_callTy (cr_or (cr_setOfT (by rfl) hu64) (cr_setTT (by rfl) hu64)) (by rfl) T.z_set (by decide +kernel) (pa_cons (pv 1) pa_nil)) pa_nil)))), ?_⟩
  walk_at "go"
  have hstep : ∀ (D : L2.Ends) (i : Nat) (x : V) (σ : L2.St) (H1 H2 : Hp), i < ws.length → (∃ o2 : Option V, σ = [some (.ref g), some (.ref p), o2] ∧ Same H H1) → YAt ws i H1 x H2 → gName 2 x σ H2 fun σ2 H3 => tbRead K { D with nx := fun σ H1 => ∃ o2 : Option V, σ = [some (.ref g), some (.ref p), o2] ∧ Same H H1, ct := fun σ H1 => ∃ o2 : Option V, σ = [some (.ref g), some (.ref p), o2] ∧ Same H H1, bk := D.nx } σ2 H3 := by
    rintro D i x σ H1 H2 hi ⟨o2, rfl, e1⟩ ⟨rfl, hx⟩
    obtain ⟨c, hc, hxc⟩ := K3.Paired.get hw hx
    obtain ⟨c1, c2, c3⟩ := drop_mem m1 n1 (hmem c (List.mem_of_getElem? hc))
    walk_at "go"
    unfold tbRead
    walk_at "go"
    refine ⟨g, x, rs, t, m, n, c.1, c.2, rfl, ht.same e1, hR, hxc.same e1, c1, c2, ?_⟩
    walk_at "go"
    refine ⟨g, rs, t, m, n, rfl, ht.same e1, hR, m1, n1, fun a H3 e3 ha => ?_⟩
    refine ⟨cellD c, cellD (m - 1, n - 1), cell_dp ((hxc.same e1).same e3), cell_dp ha, cell_shaped _, cell_shaped _, ?_⟩
    rw [cell_eqv, decide_eq_false c3]
    walk_at "go"
    exact ⟨_, rfl, e1.trans e3⟩
  have fin : ∀ (o2 : Option V) (H1 : Hp) (D : L2.Ends), D.rt = Q → Same H H1 → tRet (tCB (rSortedT K P w) (tCons (tCB (fun xs H Q => rSetOfT K P w xs H Q ∨ rSetTT K P w xs H Q) (tCons (tVar 1) tNil)) tNil)) D [some (.ref g), some (.ref p), o2] H1 := by
    intro o2 H1 D eD e1
    have hw1 := L2.Paired.mapP hw fun _ _ z => z.same e1
    obtain ⟨ks, k1, k2, k3, k4⟩ := hid_keys hw1
    have hk : ∀ p ∈ ks, SqT K H1 p.1 (p.2.map V.int) := fun p hp => by
      obtain ⟨c, _, _, ha⟩ := k2 p hp
      exact SqT.of ha
    have rest : ∀ a L, H1 a = none → (∀ p ∈ L, p ∈ ks) → (∀ p ∈ ks, p.2 ∈ L.map (·.2)) → rSortedT K P w [.ref a] (upd H1 a (SetTO P w a L)) D.rt := by
      intro a L ha hs1 hs2
      have e2 := Same.new ha (SetTO P w a L)
      have kb : ∀ p ∈ L, ∃ c ∈ hs, p.2 = [(c.1 : Int), (c.2 : Int)] ∧ H1 p.1 = some (.tup (p.2.map V.int)) := fun p hp => k2 p (hs1 p hp)
      refine ⟨a, L, 2, 64, rfl, upd_same, fun p hp => e2.sqt (hk p (hs1 p hp)), by decide, fun p hp => ?_, fun L' p' pm nd few pw hp' => ?_⟩
      · obtain ⟨c, hc, e, _⟩ := kb p hp
        obtain ⟨c1, c2, _⟩ := drop_mem m1 n1 (hmem c hc)
        rw [e]
        refine ⟨rfl, fun z hz => ?_⟩
        simp only [List.mem_cons, List.not_mem_nil, or_false] at hz
        rcases hz with rfl | rfl <;> omega
      · have e3 := Same.new hp' (.lst (L'.map fun q => V.ref q.1))
        have e23 := e2.trans e3
        obtain ⟨hs', h1, h2, h3, h4⟩ := keys_hid (H := upd (upd H1 a (SetTO P w a L)) p' (.lst (L'.map fun q => V.ref q.1))) (hs := hs) (L := L') fun q hq => by
          obtain ⟨c, hc, e, hx⟩ := kb q (pm.mem_iff.mp hq)
          exact ⟨c, hc, e, e23 _ _ hx⟩
        rw [eD]
        refine q p' _ _ hs' (e1.trans e23) upd_same h1 (fun c => ?_) (by omega) (srt_of m2 n2 (fun c hc => ⟨(drop_mem m1 n1 (hmem c ((h2 c).mp hc).1)).1, (drop_mem m1 n1 (hmem c ((h2 c).mp hc).1)).2.1⟩) (by rw [h4]; exact nd) (by rw [h4]; exact List.pairwise_map.mpr pw))
        rw [h2]
        refine ⟨fun z => z.1, fun z => ⟨z, ?_⟩⟩
        obtain ⟨x, hx, e⟩ := k3 c z
        rw [← e, (pm.map (·.2)).mem_iff]
        exact hs2 x hx
    walk_at "go"
    rcases hp with hp | hp
    · refine .inl ⟨_, ks, rfl, by rw [← k1]; exact e1.seq hp, hk, by omega, fun a L ha h1 h2 => ?_⟩
      walk_at "go"
      exact rest a L ha h1 h2
    · refine .inr ⟨_, ks, rfl, by rw [← k1]; exact e1.sqt hp, hk, by omega, fun a L ha h1 h2 => ?_⟩
      walk_at "go"
      exact rest a L ha h1 h2
  rcases hp with hp' | hp'
  · refine Or.inl ⟨_, rfl, p, rfl, ⟨ws, hp'⟩, ?_⟩
    refine for_it walk_list (fun _ σ H1 => ∃ o2 : Option V, σ = [some (.ref g), some (.ref p), o2] ∧ Same H H1) ⟨none, rfl, Same.refl _⟩ (fun i σ H1 _ ⟨_, _, e⟩ => e.seq hp') (hstep _) ?_
    rintro σ H1 ⟨o2, rfl, e1⟩
    exact fin o2 H1 _ rfl e1
  · refine Or.inr ⟨_, rfl, p, rfl, ⟨ws, hp'⟩, ?_⟩
    refine for_it walk_tup (fun _ σ H1 => ∃ o2 : Option V, σ = [some (.ref g), some (.ref p), o2] ∧ Same H H1) ⟨none, rfl, Same.refl _⟩ (fun i σ H1 _ ⟨_, _, e⟩ => e.sqt hp') (hstep _) ?_
    rintro σ H1 ⟨o2, rfl, e1⟩
    exact fin o2 H1 _ rfl e1
end
end K3
end C4_part
section C5_part
set_option Elab.async false
set_option linter.all false
set_option maxRecDepth 100000
set_option maxHeartbeats 1000000
set_option pp.deepTerms.threshold 5
open PySem PySem.Spec PyProof.Rows L2
/-- go on as far as nothing is open -/
local macro_rules | `(tactic| walk_at "go") => `(tactic| repeat (first
  | with_reducible refine w_seq ?_ | with_reducible refine w_next ?_ | with_reducible refine w_set ?_ | with_reducible refine w_drop ?_ | with_reducible refine w_ret ?_ | with_reducible refine w_retN ?_
  | with_reducible refine w_if ?_ | ((with_reducible refine' w_var ?hv ?_); (case hv => exact rfl)) | with_reducible refine w_c ?_ | with_reducible refine w_nil ?_ | with_reducible refine w_cons ?_ | with_reducible refine w_op ?_ | with_reducible refine w_un ?_
  | with_reducible refine w_test ?_ | with_reducible refine w_tB ?_ | with_reducible refine w_not ?_ | with_reducible refine w_and ?_ | with_reducible refine w_or ?_ | with_reducible refine w_bl ?_
  | with_reducible refine w_andV ?_ | with_reducible refine w_orV ?_ | with_reducible refine w_notV ?_ | with_reducible refine w_ifE ?_ | with_reducible refine w_chain ?_ | with_reducible refine w_i0 ?_
  | with_reducible refine w_call ?_ | with_reducible refine w_callS ?_ | with_reducible refine w_cB ?_ | with_reducible refine w_tup ?_ | with_reducible refine w_lst ?_ | with_reducible refine w_fldV ?_
  | with_reducible refine w_neF ?_ | with_reducible refine w_neT ?_ | with_reducible refine w_notN ?_ | with_reducible refine w_isN ?_ | with_reducible refine w_gname ?_ | with_reducible refine w_gsub ?_ | with_reducible refine w_asg ?_ | with_reducible refine w_sl ?_ | with_reducible refine w_noP ?_ | with_reducible refine w_int1 ?_ | with_reducible refine w_part ?_ | with_reducible refine w_yes ?_ | with_reducible refine w_nT ?_ | with_reducible refine w_nF ?_ | with_reducible refine w_iteT ?_ | with_reducible refine w_iteF ?_))
namespace L2
open PySem PySem.Spec PyProof.Rows
def LcAt (J : It) (D : Addr) (g : TG) (tt : TT) (te : TE) (vs : List Nat) (σ : L2.St) (H1 : Hp) (Qd : Hp → Prop) : Prop :=
  ∃ W : Nat → Nat → Hp → Prop, (∃ m, W 0 m (upd H1 D (.lst []))) ∧ ∀ i m H, W i m H →
    (J.stop i H ∧ Qd H) ∨ (J.go i H ∧ ∃ Nx : Hp → Prop, (∀ H', Nx H' → ∃ m', m' < m ∧ W (i + 1) m' H') ∧ ∀ x H', J.yld i H x H' → g x (wipe σ vs) H' fun σ2 H2 =>
      wipe σ2 vs = wipe σ vs ∧ tt σ2 H2 fun b H3 => if b = true then te σ2 H3 fun y H4 => ∃ acc, H4 D = some (.lst acc) ∧ acc.length < sizeLine ∧ Nx (upd H4 D (.lst (acc ++ [y]))) else Nx H3)
/-- a comprehension over items of which something is known: each gives a value of its own -/
theorem items_at {K : PySem.W.Frag} {α : Type} {F : Hp → V → α → Prop} (mono : ∀ {H H' : Hp} {v : V} {y : α}, Same H H' → F H v y → F H' v y) {a D : Addr} {xs : List V} {ys : List α} {te : TE} {vs : List Nat} {σ : L2.St} {j : Nat} {H1 : Hp} {Qd : Hp → Prop} (f : α → V)
    (hs : SqL K H1 a xs) (hp : Paired (F H1) xs ys) (hD : H1 D = none) (hlen : xs.length ≤ 10000) (hw : ∀ x, wipe ((wipe σ vs).set j (some x)) vs = wipe σ vs)
    (he : ∀ (v : V) (y : α) (H' : Hp), Same H1 H' → y ∈ ys → F H' v y → ∀ Q : VK, (∀ H'', Same H' H'' → Q (f y) H'') → te ((wipe σ vs).set j (some v)) H' Q)
    (hd : ∀ H', Same H1 H' → H' D = some (.lst (ys.map f)) → Qd H') : LcAt (Itl K a) D (gName j) tYes te vs σ H1 Qd := by
  refine lc_list (xs := xs) (fun i H' => Same H1 H' ∧ H' D = some (.lst ((ys.take i).map f))) ⟨Same.new hD _, upd_same⟩ (fun i H' _ z => z.1.seq hs) ?_ ?_
  · rintro i x H2 hx ⟨e2, hD2⟩
    obtain ⟨y, hy, hF⟩ := K3.Paired.get hp hx
    refine ⟨hw x, ?_⟩
    refine w_yes ?_
    refine iteT ?_
    refine he x y H2 e2 (List.mem_of_getElem? hy) (mono e2 hF) _ fun H3 e3 => ?_
    refine ⟨_, e3 _ _ hD2, ?_, (e2.trans e3).mut hD, ?_⟩
    · refine Nat.lt_of_le_of_lt (show _ ≤ 10000 from ?_) (by decide)
      rw [List.length_map, List.length_take, ← hp.length]
      omega
    · rw [upd_same, List.take_add_one, hy, List.map_append]
      rfl
  · rintro H2 ⟨e2, hD2⟩
    refine hd H2 e2 ?_
    rw [hD2, hp.length, List.take_length]
/-- .. those that pass a test are kept -/
theorem items_keep {K : PySem.W.Frag} {α : Type} {F : Hp → V → α → Prop} (mono : ∀ {H H' : Hp} {v : V} {y : α}, Same H H' → F H v y → F H' v y) {a D : Addr} {xs : List V} {ys : List α} {tt : TT} {te : TE} {vs : List Nat} {σ : L2.St} {j : Nat} {H1 : Hp} {Qd : Hp → Prop} (b : α → Bool)
    (hs : SqL K H1 a xs) (hp : Paired (F H1) xs ys) (hD : H1 D = none) (hlen : xs.length ≤ 10000) (hw : ∀ x, wipe ((wipe σ vs).set j (some x)) vs = wipe σ vs)
    (ht : ∀ (v : V) (y : α) (H' : Hp), Same H1 H' → y ∈ ys → F H' v y → ∀ Q : Bool → Hp → Prop, (∀ H'', Same H' H'' → Q (b y) H'') → tt ((wipe σ vs).set j (some v)) H' Q)
    (he : ∀ (v : V) (H' : Hp) (Q : VK), Q v H' → te ((wipe σ vs).set j (some v)) H' Q)
    (hd : ∀ H' zs, Same H1 H' → H' D = some (.lst zs) → Paired (F H') zs (ys.filter b) → Qd H') : LcAt (Itl K a) D (gName j) tt te vs σ H1 Qd := by
  refine lc_list (xs := xs) (fun i H' => Same H1 H' ∧ ∃ zs, H' D = some (.lst zs) ∧ Paired (F H1) zs ((ys.take i).filter b)) ⟨Same.new hD _, [], upd_same, .nil⟩ (fun i H' _ z => z.1.seq hs) ?_ ?_
  · rintro i x H2 hx ⟨e2, zs, hD2, hp2⟩
    obtain ⟨y, hy, hF⟩ := K3.Paired.get hp hx
    refine ⟨hw x, ?_⟩
    refine ht x y H2 e2 (List.mem_of_getElem? hy) (mono e2 hF) _ fun H3 e3 => ?_
    have hD3 := e3 _ _ hD2
    have hl : (ys.take (i + 1)).filter b = (ys.take i).filter b ++ (if b y = true then [y] else []) := by
      rw [List.take_add_one, hy, List.filter_append]
      congr 1
      cases hb : b y <;> simp [hb]
    cases hb : b y with
    | true =>
      rw [hb] at hl
      refine iteT ?_
      refine he x H3 _ ?_
      refine ⟨zs, hD3, ?_, (e2.trans e3).mut hD, zs ++ [x], upd_same, ?_⟩
      · refine Nat.lt_of_le_of_lt (show _ ≤ 10000 from ?_) (by decide)
        rw [hp2.length]
        refine Nat.le_trans (List.length_filter_le _ _) ?_
        rw [List.length_take, ← hp.length]
        omega
      · rw [hl, if_pos rfl]
        exact K3.Paired.app hp2 (.cons hF .nil)
    | false =>
      rw [hb] at hl
      refine iteF ?_
      refine ⟨e2.trans e3, zs, hD3, ?_⟩
      rw [hl, if_neg (by decide), List.append_nil]
      exact hp2
  · rintro H2 ⟨e2, zs, hD2, hp2⟩
    rw [hp.length, List.take_length] at hp2
    exact hd H2 zs e2 hD2 (L2.Paired.mapP hp2 fun _ _ z => mono e2 z)
theorem lcAt_open {wi : TI} {g : TG} {tt : TT} {te : TE} {vs : List Nat} {σ : L2.St} {H : Hp} {Q : VK} (h : wi σ H fun J H1 => ∀ D, H1 D = none → LcAt J D g tt te vs σ H1 (Q (.ref D))) : tLc wi g tt te vs σ H Q := h
end L2
namespace K3
def RowV (H : Hp) (v : V) (r : List Int) : Prop := ∃ a, v = .ref a ∧ H a = some (.lst (r.map V.int))
theorem RowV.same {H H' : Hp} (e : Same H H') {v : V} {r : List Int} (h : RowV H v r) : RowV H' v r := let ⟨a, h1, h2⟩ := h; ⟨a, h1, e _ _ h2⟩
theorem rowV_of {H : Hp} : ∀ {rs : List Addr} {t : List (List Int)}, Paired (RowAt H) rs t → Paired (RowV H) (rs.map V.ref) t
  | _, _, .nil => .nil
  | _, _, .cons h t => .cons ⟨_, rfl, h⟩ (rowV_of t)
theorem CellAt.muts {H : Hp} {v : V} {c : Nat × Nat} {p : Addr} {zs ws : List V} (hp : H p = some (.lst zs)) (h : CellAt H v c) : CellAt (upd H p (.lst ws)) v c := by
  obtain ⟨a, h1, h2⟩ := h
  exact ⟨a, h1, by rw [upd_ne (fun z => by rw [z, hp] at h2; cases h2)]; exact h2⟩
theorem rows_at {K : PySem.W.Frag} {a D : Addr} {rs : List Addr} {t : List (List Int)} {te : TE} {vs : List Nat} {σ : L2.St} {j : Nat} {H1 : Hp} {Qd : Hp → Prop} (f : List Int → V) (ht : Tab H1 a rs t) (hlen : t.length ≤ 10000) (hD : H1 D = none) (hw : ∀ x, wipe ((wipe σ vs).set j (some x)) vs = wipe σ vs)
    (he : ∀ (b : Addr) (r : List Int) (H' : Hp), Same H1 H' → r ∈ t → RowAt H' b r → ∀ Q : VK, (∀ H'', Same H' H'' → Q (f r) H'') → te ((wipe σ vs).set j (some (.ref b))) H' Q)
    (hd : ∀ H', Same H1 H' → H' D = some (.lst (t.map f)) → Qd H') : LcAt (Itl K a) D (gName j) tYes te vs σ H1 Qd := by
  refine items_at (F := RowV) (fun e h => RowV.same e h) f (SqL.of ht.at_) (rowV_of ht.rows) hD (by rw [List.length_map, ht.rows.length]; exact hlen) hw ?_ hd
  rintro v r H' e1 hr ⟨b, rfl, hb⟩ Q q
  exact he b r H' e1 hr hb Q q
theorem rows_keep {K : PySem.W.Frag} {a D : Addr} {rs : List Addr} {t : List (List Int)} {tt : TT} {te : TE} {vs : List Nat} {σ : L2.St} {j : Nat} {H1 : Hp} {Qd : Hp → Prop} (b : List Int → Bool) (ht : Tab H1 a rs t) (hlen : t.length ≤ 10000) (hD : H1 D = none) (hw : ∀ x, wipe ((wipe σ vs).set j (some x)) vs = wipe σ vs)
    (htt : ∀ (c : Addr) (r : List Int) (H' : Hp), Same H1 H' → r ∈ t → RowAt H' c r → ∀ Q : Bool → Hp → Prop, (∀ H'', Same H' H'' → Q (b r) H'') → tt ((wipe σ vs).set j (some (.ref c))) H' Q)
    (he : ∀ (v : V) (H' : Hp) (Q : VK), Q v H' → te ((wipe σ vs).set j (some v)) H' Q)
    (hd : ∀ H' zs, Same H1 H' → H' D = some (.lst zs) → Paired (RowV H') zs (t.filter b) → Qd H') : LcAt (Itl K a) D (gName j) tt te vs σ H1 Qd := by
  refine items_keep (F := RowV) (fun e h => RowV.same e h) b (SqL.of ht.at_) (rowV_of ht.rows) hD (by rw [List.length_map, ht.rows.length]; exact hlen) hw ?_ he hd
  rintro v r H' e1 hr ⟨c, rfl, hc⟩ Q q
  exact htt c r H' e1 hr hc Q q
theorem ints_dp {K : PySem.W.Frag} {H : Hp} : ∀ {xs : List Int}, DpAll K H (xs.map V.int) (xs.map PyData.int)
  | [] => .nil
  | x :: xs => .cons (.int x) ints_dp
theorem lst_dp {K : PySem.W.Frag} {H : Hp} {p : Addr} {xs : List Int} (h : H p = some (.lst (xs.map V.int))) : Dp K H (.ref p) (.list (xs.map PyData.int)) := .lst (SqL.of h) ints_dp
theorem eqvAll_ints : ∀ (a b : List Int), PyData.eqvAll (a.map PyData.int) (b.map PyData.int) = decide (a = b)
  | [], [] => rfl
  | [], b :: bs => rfl
  | a :: as, [] => rfl
  | a :: as, b :: bs => by
    simp only [List.map_cons, PyData.eqvAll, PyData.eqv, eqvAll_ints as bs]
    rw [Bool.eq_iff_iff]
    simp
theorem lay_ints : ∀ xs : List Int, PyData.canLayAll0 (xs.map PyData.int) = true ∧ PyData.depthAll (xs.map PyData.int) ≤ 1
  | [] => by simp [PyData.canLayAll0, PyData.depthAll]
  | x :: xs => by
    obtain ⟨a, b⟩ := lay_ints xs
    simp only [List.map_cons, PyData.canLayAll0, PyData.depthAll, PyData.canLay0, PyData.depth]
    exact ⟨by rw [a]; rfl, by omega⟩
theorem shaped_ints (xs : List Int) : SeqAt.shaped (.list (xs.map PyData.int)) = true := by
  obtain ⟨a, b⟩ := lay_ints xs
  have d : (PyData.list (xs.map PyData.int)).depth ≤ 64 := by
    simp only [PyData.depth]
    omega
  unfold SeqAt.shaped
  rw [decide_eq_true d]
  simp only [PyData.canLay0, a, Bool.true_and]
def spWide (K : PySem.W.Frag) : Sp := fun vs H Q _ => ∃ (g p : Addr) (rs rs' : List Addr) (t u : List (List Int)), vs = [.ref g, .ref p] ∧ GT K H g rs t ∧ GT K H p rs' u ∧ t.length ≤ 100 ∧ u.length ≤ 100 ∧ ∀ H', Same H H' → Q (.bl (decide (u.map List.length = t.map List.length))) H'
theorem lens_inj {a b : List (List Int)} : ((a.map fun r => (r.length : Int)) = b.map fun r => (r.length : Int)) ↔ a.map List.length = b.map List.length := by
  induction a generalizing b with
  | nil => cases b <;> simp
  | cons x a ih =>
    cases b with
    | nil => simp
    | cons y b =>
      simp only [List.map_cons, List.cons.injEq]
      rw [ih]
      constructor
      · rintro ⟨h1, h2⟩; exact ⟨by omega, h2⟩
      · rintro ⟨h1, h2⟩; exact ⟨by omega, h2⟩
def RightCol (u : List (List Int)) (c : Nat) : Prop := (colOf u c).getLastD 0 = (colOf u c).dropLast.sum
def Right (u : List (List Int)) (n : Nat) : Prop := (∀ r ∈ u, r.getLastD 0 = r.dropLast.sum) ∧ ∀ c < n, RightCol u c
def spRight (K : PySem.W.Frag) : Sp := fun vs H Q _ => ∃ (p : Addr) (rs : List Addr) (u : List (List Int)) (m n : Nat), vs = [.ref p] ∧ GT K H p rs u ∧ Rect u m n ∧ 1 ≤ m ∧ 1 ≤ n ∧ m ≤ 100 ∧ n ≤ 100 ∧ ∀ b H', Same H H' → (b = true ↔ Right u n) → Q (.bl b) H'
def rSlE (K : PySem.W.Frag) : V → Option Int → Option Int → Hp → VK → Prop := fun x lo hi H Q => rSlL K x lo hi H Q ∨ rSlT K x lo hi H Q
theorem sl_e {X : Cx} : SlR X (rSlE X.K) := SlR.or sl_list sl_tup
theorem w_slLast {K : PySem.W.Frag} {H : Hp} {a : Addr} {xs : List V} {Q : VK} (h : SqE K H a xs) (ne : xs ≠ []) (q : ∀ p H', H p = none → Same H H' → SqE K H' p xs.dropLast → Q (.ref p) H') : rSlE K (.ref a) none (some (-1)) H Q := by
  rcases h.either with h | h
  · refine .inl ⟨a, xs, rfl, h, fun p hp => q p _ hp (Same.new hp _) ?_⟩
    rw [cut_last]
    exact .lst upd_same
  · refine .inr ⟨a, xs, rfl, h, fun z => ?_, fun p hp => q p _ hp (Same.new hp _) ?_⟩
    · have l : 0 < xs.length := List.length_pos_iff.mpr ne
      have z := z.2
      unfold HT.sIx at z
      simp at z
      omega
    · rw [cut_last]
      exact .tup upd_same
theorem at_last {r : List Int} (h : r ≠ []) : atI (r.map V.int) (-1) = some (.int (r.getLastD 0)) := by
  obtain ⟨xs, x, rfl⟩ : ∃ xs x, r = xs ++ [x] := ⟨r.dropLast, r.getLast h, (List.dropLast_concat_getLast h).symm⟩
  rw [List.map_append, List.getLastD_concat]
  exact atI_last _ _
section
variable {P : Program} {w : World} {K : PySem.W.Frag} {mg : Str → Option Value} {base : Heap}
end
end K3
end C5_part
section C6_part
set_option Elab.async false
set_option linter.all false
set_option maxRecDepth 100000
set_option maxHeartbeats 1000000
set_option pp.deepTerms.threshold 5
open PySem PySem.Spec PyProof.Rows L2
/-- go on as far as nothing is open -/
local macro_rules | `(tactic| walk_at "go") => `(tactic| repeat (first
  | with_reducible refine w_seq ?_ | with_reducible refine w_next ?_ | with_reducible refine w_set ?_ | with_reducible refine w_drop ?_ | with_reducible refine w_ret ?_ | with_reducible refine w_retN ?_
  | with_reducible refine w_if ?_ | ((with_reducible refine' w_var ?hv ?_); (case hv => exact rfl)) | with_reducible refine w_c ?_ | with_reducible refine w_nil ?_ | with_reducible refine w_cons ?_ | with_reducible refine w_op ?_ | with_reducible refine w_un ?_
  | with_reducible refine w_test ?_ | with_reducible refine w_tB ?_ | with_reducible refine w_not ?_ | with_reducible refine w_and ?_ | with_reducible refine w_or ?_ | with_reducible refine w_bl ?_
  | with_reducible refine w_andV ?_ | with_reducible refine w_orV ?_ | with_reducible refine w_notV ?_ | with_reducible refine w_ifE ?_ | with_reducible refine w_chain ?_ | with_reducible refine w_i0 ?_
  | with_reducible refine w_call ?_ | with_reducible refine w_callS ?_ | with_reducible refine w_cB ?_ | with_reducible refine w_tup ?_ | with_reducible refine w_lst ?_ | with_reducible refine w_fldV ?_
  | with_reducible refine w_neF ?_ | with_reducible refine w_neT ?_ | with_reducible refine w_notN ?_ | with_reducible refine w_isN ?_ | with_reducible refine w_gname ?_ | with_reducible refine w_gsub ?_ | with_reducible refine w_asg ?_ | with_reducible refine w_sl ?_ | with_reducible refine w_noP ?_ | with_reducible refine w_int1 ?_ | with_reducible refine w_part ?_ | with_reducible refine w_yes ?_ | with_reducible refine w_nT ?_ | with_reducible refine w_nF ?_ | with_reducible refine w_iteT ?_ | with_reducible refine w_iteF ?_))
namespace K3
/-- the table u fits the grid t, whose hidden cells are hs -/
def Fit (t : List (List Int)) (hs : List (Nat × Nat)) (u : List (List Int)) (m n : Nat) : Prop :=
  Rect u m n ∧ (∀ r ∈ u, ∀ x ∈ r, 0 ≤ x) ∧ Right u n ∧ ∀ i < m, ∀ j < n, (i, j) ∉ hs → at2 u i j = at2 t i j
def spFits (K : PySem.W.Frag) : Sp := fun vs H Q _ => ∃ (g p : Addr) (v : V) (rs rs' : List Addr) (t u : List (List Int)) (m n m' n' : Nat) (hs : List (Nat × Nat)), vs = [.ref g, v, .ref p] ∧ GT K H g rs t ∧ Rect t m n ∧ 1 ≤ m ∧ 1 ≤ n ∧ m ≤ 60 ∧ n ≤ 60 ∧ HidIn K H v hs m n ∧ GT K H p rs' u ∧ Rect u m' n' ∧ 1 ≤ m' ∧ 1 ≤ n' ∧ m' ≤ 60 ∧ n' ≤ 60 ∧
  ∀ b H', Same H H' → (b = true ↔ Fit t hs u m n) → Q (.bl b) H'
theorem wide_iff {t u : List (List Int)} {m n m' n' : Nat} (ht : Rect t m n) (hu : Rect u m' n') (m1 : 1 ≤ m') : u.map List.length = t.map List.length ↔ Rect u m n := by
  have e1 : ∀ {t : List (List Int)} {m n : Nat}, Rect t m n → t.map List.length = List.replicate m n := by
    intro t m n h
    rw [← h.1]
    exact List.eq_replicate_iff.mpr ⟨by rw [List.length_map], fun b hb => by
      obtain ⟨r, hr, rfl⟩ := List.mem_map.mp hb
      exact h.2 r hr⟩
  constructor
  · intro h
    have l : u.length = t.length := by simpa using congrArg List.length h
    refine ⟨by rw [l, ht.1], fun r hr => ?_⟩
    have : r.length ∈ t.map List.length := by rw [← h]; exact List.mem_map.mpr ⟨r, hr, rfl⟩
    rw [e1 ht] at this
    exact (List.mem_replicate.mp this).2
  · intro h
    rw [e1 h, e1 ht]
theorem flat_len {α : Type} {f : Int → α} {k : Nat} : ∀ {u : List (List Int)}, (∀ r ∈ u, r.length ≤ k) → (u.flatMap fun r => r.map f).length ≤ u.length * k
  | [], _ => Nat.zero_le _
  | r :: u, h => by
    have i := flat_len (f := f) (u := u) fun r hr => h r (List.mem_cons_of_mem _ hr)
    have j := h r (List.mem_cons_self ..)
    simp only [List.flatMap_cons, List.length_append, List.length_map, List.length_cons, Nat.succ_mul]
    omega
theorem cellV_at {K : PySem.W.Frag} {D a : Addr} {ws : List V} {cs : List (Nat × Nat)} {te : TE} {vs : List Nat} {σ : L2.St} {j : Nat} {H1 : Hp} {Qd : Hp → Prop} (f : Nat × Nat → V) (ha : H1 a = some (.lst ws)) (hp : Paired (CellAt H1) ws cs) (hlen : ws.length ≤ 10000) (hD : H1 D = none) (hw : ∀ x, wipe ((wipe σ vs).set j (some x)) vs = wipe σ vs)
    (he : ∀ (v : V) (c : Nat × Nat) (H' : Hp), Same H1 H' → c ∈ cs → CellAt H' v c → ∀ Q : VK, (∀ H'', Same H' H'' → Q (f c) H'') → te ((wipe σ vs).set j (some v)) H' Q)
    (hd : ∀ H', Same H1 H' → H' D = some (.lst (cs.map f)) → Qd H') : LcAt (Itl K a) D (gName j) tYes te vs σ H1 Qd :=
  items_at (F := CellAt) (fun e h => CellAt.same e h) f (SqL.of ha) hp hD hlen hw he hd
theorem cells_keep {K : PySem.W.Frag} {D a : Addr} {ws : List V} {cs : List (Nat × Nat)} {tt : TT} {te : TE} {vs : List Nat} {σ : L2.St} {j : Nat} {H1 : Hp} {Qd : Hp → Prop} (b : Nat × Nat → Bool) (ha : H1 a = some (.lst ws)) (hp : Paired (CellAt H1) ws cs) (hlen : ws.length ≤ 10000) (hD : H1 D = none) (hw : ∀ x, wipe ((wipe σ vs).set j (some x)) vs = wipe σ vs)
    (ht : ∀ (v : V) (c : Nat × Nat) (H' : Hp), Same H1 H' → c ∈ cs → CellAt H' v c → ∀ Q : Bool → Hp → Prop, (∀ H'', Same H' H'' → Q (b c) H'') → tt ((wipe σ vs).set j (some v)) H' Q)
    (he : ∀ (v : V) (H' : Hp) (Q : VK), Q v H' → te ((wipe σ vs).set j (some v)) H' Q)
    (hd : ∀ H' zs, Same H1 H' → H' D = some (.lst zs) → Paired (CellAt H') zs (cs.filter b) → Qd H') : LcAt (Itl K a) D (gName j) tt te vs σ H1 Qd :=
  items_keep (F := CellAt) (fun e h => CellAt.same e h) b (SqL.of ha) hp hD hlen hw ht he hd
theorem CellAt.list {H : Hp} {p : Addr} {ws : List V} {hs : List (Nat × Nat)} (h : Paired (CellAt H) ws hs) : ∀ {i : Nat} {v : V}, ws[i]? = some v → ∃ c, hs[i]? = some c ∧ CellAt H v c := fun e => K3.Paired.get h e
section
variable {P : Program} {w : World} {K : PySem.W.Frag} {mg : Str → Option Value} {base : Heap}
end
end K3
end C6_part
section C7_part
set_option Elab.async false
set_option linter.all false
set_option maxRecDepth 100000
set_option maxHeartbeats 1000000
set_option pp.deepTerms.threshold 5
open PySem PySem.Spec PyProof.Rows L2
/-- go on as far as nothing is open -/
local macro_rules | `(tactic| walk_at "go") => `(tactic| repeat (first
  | with_reducible refine w_seq ?_ | with_reducible refine w_next ?_ | with_reducible refine w_set ?_ | with_reducible refine w_drop ?_ | with_reducible refine w_ret ?_ | with_reducible refine w_retN ?_
  | with_reducible refine w_if ?_ | ((with_reducible refine' w_var ?hv ?_); (case hv => exact rfl)) | with_reducible refine w_c ?_ | with_reducible refine w_nil ?_ | with_reducible refine w_cons ?_ | with_reducible refine w_op ?_ | with_reducible refine w_un ?_
  | with_reducible refine w_test ?_ | with_reducible refine w_tB ?_ | with_reducible refine w_not ?_ | with_reducible refine w_and ?_ | with_reducible refine w_or ?_ | with_reducible refine w_bl ?_
  | with_reducible refine w_andV ?_ | with_reducible refine w_orV ?_ | with_reducible refine w_notV ?_ | with_reducible refine w_ifE ?_ | with_reducible refine w_chain ?_ | with_reducible refine w_i0 ?_
  | with_reducible refine w_call ?_ | with_reducible refine w_callS ?_ | with_reducible refine w_cB ?_ | with_reducible refine w_tup ?_ | with_reducible refine w_lst ?_ | with_reducible refine w_fldV ?_
  | with_reducible refine w_neF ?_ | with_reducible refine w_neT ?_ | with_reducible refine w_notN ?_ | with_reducible refine w_isN ?_ | with_reducible refine w_gname ?_ | with_reducible refine w_gsub ?_ | with_reducible refine w_asg ?_ | with_reducible refine w_sl ?_ | with_reducible refine w_noP ?_ | with_reducible refine w_int1 ?_ | with_reducible refine w_part ?_ | with_reducible refine w_yes ?_ | with_reducible refine w_nT ?_ | with_reducible refine w_nF ?_ | with_reducible refine w_iteT ?_ | with_reducible refine w_iteF ?_))
namespace K3
theorem w_neI {i j : Int} {H : Hp} {Q : VK} (h : Q (.bl (!decide (i = j))) H) : rNe (.int i) (.int j) H Q := ⟨rfl, by rw [decV]; exact h⟩
theorem cells_split {m n : Nat} (m1 : 1 ≤ m) (n1 : 1 ≤ n) : cellsOf m n = (cellsOf m n).dropLast ++ [(m - 1, n - 1)] := by
  obtain ⟨m, rfl⟩ : ∃ k, m = k + 1 := ⟨m - 1, by omega⟩
  obtain ⟨n, rfl⟩ : ∃ k, n = k + 1 := ⟨n - 1, by omega⟩
  rw [cells_last, Nat.add_sub_cancel, Nat.add_sub_cancel]
  unfold cellsOf rowCells
  rw [List.range_succ (n := m), List.flatMap_append, List.flatMap_cons, List.flatMap_nil, List.append_nil, List.append_assoc]
  congr 1
  rw [List.range_succ (n := n), List.map_append]
  rfl
theorem Tab.take {H : Hp} {p : Addr} {rs : List Addr} {t : List (List Int)} (h : Paired (RowAt H) rs t) : Paired (RowAt H) rs.dropLast t.dropLast := paired_drop h
theorem last_row {H : Hp} {rs : List Addr} {t : List (List Int)} (h : Paired (RowAt H) rs t) (ne : t ≠ []) : ∃ a r, rs[rs.length - 1]? = some a ∧ t = t.dropLast ++ [r] ∧ RowAt H a r ∧ atI (rs.map V.ref) (-1) = some (.ref a) := by
  have l := h.length
  have l0 : t.length ≠ 0 := fun z => ne (List.length_eq_zero_iff.mp z)
  have rne : rs ≠ [] := fun z => by rw [z] at l; exact l0 l.symm
  obtain ⟨as, a, rfl⟩ : ∃ as a, rs = as ++ [a] := ⟨rs.dropLast, rs.getLast rne, (List.dropLast_concat_getLast rne).symm⟩
  obtain ⟨ts, r, rfl⟩ : ∃ ts r, t = ts ++ [r] := ⟨t.dropLast, t.getLast ne, (List.dropLast_concat_getLast ne).symm⟩
  have hl : as.length = ts.length := by simpa using l
  obtain ⟨y, hy, hr⟩ := K3.Paired.get h (i := as.length) (x := a) (by simp)
  rw [hl] at hy
  simp at hy
  subst hy
  exact ⟨a, r, by simp, by rw [List.dropLast_concat], hr, by rw [List.map_append]; exact atI_last _ _⟩
theorem col_drop (u : List (List Int)) (c : Nat) : colOf u.dropLast c = (colOf u c).dropLast := by unfold colOf; rw [List.map_dropLast]
theorem col_last {u : List (List Int)} {r : List Int} (h : u = u.dropLast ++ [r]) (c : Nat) : (colOf u c).getLastD 0 = r.getD c 0 := by
  rw [h]
  unfold colOf
  rw [List.map_append]
  exact List.getLastD_concat ..
def rowOk (r : List Int) : Prop := (∀ x ∈ r, 0 ≤ x) ∧ r.getLastD 0 = r.dropLast.sum
end K3

namespace K3
/-! ### tables that are the def's own -/
structure Mine (s : Addr) (H0 H : Hp) (p : Addr) (rs : List Addr) (t : List (List Int)) (m n : Nat) : Prop where
  tab : Tab H p rs t
  rect : Rect t m n
  nd : rs.Nodup
  ne : p ∉ rs
  fr : ∀ r ∈ rs, H0 r = none
  p0 : H0 p = none
  bm : BM [s] H0 H
  src : Src H s
  s0 : Src H0 s
theorem Mine.notS {s : Addr} {H0 H : Hp} {p : Addr} {rs : List Addr} {t : List (List Int)} {m n : Nat} (h : Mine s H0 H p rs t m n) : p ≠ s ∧ ∀ r ∈ rs, r ≠ s := ⟨src_ne h.s0 h.p0, fun r hr => src_ne h.s0 (h.fr r hr)⟩
theorem Tab.bm {s : Addr} {H H1 : Hp} {p : Addr} {rs : List Addr} {t : List (List Int)} (h : Tab H p rs t) (e : BM [s] H H1) (hp : p ≠ s) (hr : ∀ r ∈ rs, r ≠ s) : Tab H1 p rs t :=
  ⟨e.at h.at_ (by simpa using hp), paired_up h.rows fun r row hm z => e.at z (by simpa using hr r hm)⟩
theorem Mine.draw {s : Addr} {H0 H H1 : Hp} {p : Addr} {rs : List Addr} {t : List (List Int)} {m n : Nat} (h : Mine s H0 H p rs t m n) (e : BM [s] H H1) (q : Src H1 s) : Mine s H0 H1 p rs t m n :=
  ⟨h.tab.bm e h.notS.1 h.notS.2, h.rect, h.nd, h.ne, h.fr, h.p0, h.bm.trans e, q, h.s0⟩
theorem Mine.same {s : Addr} {H0 H H1 : Hp} {p : Addr} {rs : List Addr} {t : List (List Int)} {m n : Nat} (h : Mine s H0 H p rs t m n) (e : Same H H1) : Mine s H0 H1 p rs t m n := h.draw (BM.of e) (h.src.same e)
/-- one number of it set anew -/
theorem paired_set {α β : Type} {F G : α → β → Prop} : ∀ {xs : List α} {ys : List β}, Paired F xs ys → ∀ {i : Nat} {a : α} {b : β}, xs[i]? = some a → G a b → (∀ j x y, j ≠ i → xs[j]? = some x → F x y → G x y) → Paired G xs (ys.set i b)
  | _, _, .nil, i, a, b, h, _, _ => by simp at h
  | _, _, .cons (a := x) (b := y) h t, 0, a, b, e, hb, k => by
    have : x = a := by simpa using e
    subst this
    refine .cons hb ?_
    exact go t fun j x y hx z => k (j + 1) x y (by omega) (by simpa using hx) z
  | _, _, .cons (a := x) (b := y) h t, i + 1, a, b, e, hb, k => by
    refine .cons (k 0 x y (by omega) rfl h) ?_
    exact paired_set t (by simpa using e) hb fun j x y ne hx z => k (j + 1) x y (by omega) (by simpa using hx) z
where go {α β : Type} {F G : α → β → Prop} : ∀ {xs : List α} {ys : List β}, Paired F xs ys → (∀ (j : Nat) (x : α) (y : β), xs[j]? = some x → F x y → G x y) → Paired G xs ys
  | _, _, .nil, _ => .nil
  | _, _, .cons h t, k => .cons (k 0 _ _ rfl h) (go t fun j x y hx z => k (j + 1) x y (by simpa using hx) z)
theorem nodup_at {α : Type} : ∀ {l : List α}, l.Nodup → ∀ {i j : Nat} {a : α}, l[i]? = some a → l[j]? = some a → i = j
  | [], _, i, j, a, h, _ => by simp at h
  | x :: l, nd, 0, 0, a, _, _ => rfl
  | x :: l, nd, 0, j + 1, a, h, k => by
    have e : x = a := by simpa using h
    have m : a ∈ l := List.mem_of_getElem? (by simpa using k)
    rw [← e] at m
    exact absurd m (List.nodup_cons.mp nd).1
  | x :: l, nd, i + 1, 0, a, h, k => by
    have e : x = a := by simpa using k
    have m : a ∈ l := List.mem_of_getElem? (by simpa using h)
    rw [← e] at m
    exact absurd m (List.nodup_cons.mp nd).1
  | x :: l, nd, i + 1, j + 1, a, h, k => congrArg (· + 1) (nodup_at (List.nodup_cons.mp nd).2 (by simpa using h) (by simpa using k))
theorem Mine.put {s : Addr} {H0 H : Hp} {p : Addr} {rs : List Addr} {t : List (List Int)} {m n : Nat} (h : Mine s H0 H p rs t m n) {i j : Nat} {a : Addr} {r : List Int} (ha : rs[i]? = some a) (hr : t[i]? = some r) (x : Int) :
    Mine s H0 (upd H a (.lst ((r.set j x).map V.int))) p rs (t.set i (r.set j x)) m n := by
  have am : a ∈ rs := List.mem_of_getElem? ha
  have ap : a ≠ p := fun z => h.ne (by rw [← z]; exact am)
  refine ⟨⟨by rw [upd_ne ap.symm]; exact h.tab.at_, ?_⟩, ⟨by rw [List.length_set]; exact h.rect.1, ?_⟩, h.nd, h.ne, h.fr, h.p0, h.bm.mut (h.fr a am), h.src.upd (h.notS.2 a am) _, h.s0⟩
  · refine paired_set h.tab.rows ha upd_same fun k b row ne hb z => ?_
    show upd H a _ b = _
    rw [upd_ne (fun e => ne (nodup_at h.nd (by rw [e] at hb; exact hb) ha))]
    exact z
  · intro row hrow
    rcases List.mem_or_eq_of_mem_set hrow with z | z
    · exact h.rect.2 row z
    · rw [z, List.length_set]
      exact h.rect.2 r (List.mem_of_getElem? hr)
/-- a comprehension whose elements are new rows -/
theorem rows_new {K : PySem.W.Frag} {a D : Addr} {rs : List Addr} {t : List (List Int)} {te : TE} {vs : List Nat} {σ : L2.St} {j : Nat} {H1 : Hp} {Qd : Hp → Prop} (f : List Int → List Int) (ht : Tab H1 a rs t) (hlen : t.length ≤ 10000) (hD : H1 D = none) (hw : ∀ x, wipe ((wipe σ vs).set j (some x)) vs = wipe σ vs)
    (he : ∀ (b : Addr) (r : List Int) (H' : Hp), Same H1 H' → r ∈ t → RowAt H' b r → ∀ Q : VK, (∀ c H'', H' c = none → Same H' H'' → RowAt H'' c (f r) → Q (.ref c) H'') → te ((wipe σ vs).set j (some (.ref b))) H' Q)
    (hd : ∀ H' cs, Same H1 H' → Tab H' D cs (t.map f) → cs.Nodup → (∀ c ∈ cs, H1 c = none ∧ c ≠ D) → Qd H') : LcAt (Itl K a) D (gName j) tYes te vs σ H1 Qd := by
  have lr := ht.rows.length
  refine lc_list (xs := rs.map V.ref) (fun i H' => Same H1 H' ∧ ∃ cs : List Addr, H' D = some (.lst (cs.map V.ref)) ∧ Paired (RowAt H') cs ((t.take i).map f) ∧ cs.Nodup ∧ ∀ c ∈ cs, H1 c = none ∧ c ≠ D)
    ⟨Same.new hD _, [], upd_same, .nil, List.nodup_nil, fun c hc => (by cases hc)⟩ (fun i H' _ z => SqL.of (z.1 _ _ ht.at_)) ?_ ?_
  · rintro i x H2 hx ⟨e2, cs, hD2, hp2, nd, fr⟩
    obtain ⟨b, hb, rfl⟩ := map_ref hx
    obtain ⟨r, hr, hrb⟩ := K3.Paired.get ht.rows hb
    refine ⟨hw _, ?_⟩
    refine w_yes ?_
    refine iteT ?_
    refine he b r H2 e2 (List.mem_of_getElem? hr) (e2 _ _ hrb) _ fun c H3 hc e3 hcr => ?_
    have hD3 := e3 _ _ hD2
    have cD : c ≠ D := fun z => by rw [z, hD2] at hc; cases hc
    have lcs : cs.length ≤ 10000 := by rw [hp2.length, List.length_map, List.length_take]; omega
    refine ⟨_, hD3, Nat.lt_of_le_of_lt (show _ ≤ 10000 by rw [List.length_map]; exact lcs) (by decide), (e2.trans e3).mut hD, cs ++ [c], by rw [upd_same, List.map_append]; rfl, ?_, ?_, ?_⟩
    · rw [List.take_add_one, hr, List.map_append]
      refine K3.Paired.app (paired_up hp2 fun d row hd z => ?_) (.cons ?_ .nil)
      · show upd H3 D _ d = _
        rw [upd_ne (fr d hd).2]
        exact e3 _ _ z
      · show upd H3 D _ c = _
        rw [upd_ne cD]
        exact hcr
    · refine nodup_snoc nd fun z => ?_
      obtain ⟨row, hrow⟩ := paired_has hp2 z
      have hrow : H2 c = some _ := hrow
      rw [hc] at hrow
      cases hrow
    · intro d hd
      rcases List.mem_append.mp hd with hd | hd
      · exact fr d hd
      · rw [List.mem_singleton.mp hd]
        exact ⟨e2.free hc, cD⟩
  · rintro H2 ⟨e2, cs, hD2, hp2, nd, fr⟩
    rw [List.length_map, lr, List.take_length] at hp2
    exact hd H2 cs e2 ⟨hD2, hp2⟩ nd fr
theorem Mine.of {s : Addr} {H0 H1 H2 : Hp} {p : Addr} {cs : List Addr} {t : List (List Int)} {m n : Nat} (b : BM [s] H0 H1) (q0 : Src H0 s) (q : Src H1 s) (e : Same H1 H2) (hp : H1 p = none) (ht : Tab H2 p cs t) (hR : Rect t m n) (nd : cs.Nodup) (fr : ∀ c ∈ cs, H1 c = none ∧ c ≠ p) : Mine s H0 H2 p cs t m n :=
  ⟨ht, hR, nd, fun z => (fr p z).2 rfl, fun r hr => b.free (fr r hr).1, b.free hp, b.same e, q.same e, q0⟩
theorem rect_sums {t : List (List Int)} {m k : Nat} (h : Rect t m k) : Rect (withSums k t) (m + 1) (k + 1) := by
  unfold withSums
  refine ⟨by rw [List.length_append, List.length_map, h.1]; rfl, fun r hr => ?_⟩
  rcases List.mem_append.mp hr with hr | hr
  · obtain ⟨r', hr', rfl⟩ := List.mem_map.mp hr
    unfold addSum
    rw [List.length_append, h.2 r' hr']
    rfl
  · rw [List.mem_singleton.mp hr, List.length_map, List.length_range]
theorem w_par {ta : TA} {i j : Nat} {D : L2.Ends} {σ : L2.St} {H : Hp} (h : ta σ H fun vs H1 => ∃ v w, vs = [v, w] ∧ D.nx ((σ.set i (some v)).set j (some w)) H1) : tPar i j ta D σ H := h
theorem inc_go {K : PySem.W.Frag} {f : Int → Int → Int} {R I J U : Nat} {s : Addr} {H0 H : Hp} {p : Addr} {rs : List Addr} {t : List (List Int)} {m n i j : Nat} {x : Int} {σ : L2.St} {D : L2.Ends} (σR : σ[R]? = some (some (.ref p))) (σI : σ[I]? = some (some (.int (i : Int)))) (σJ : σ[J]? = some (some (.int (j : Int)))) (σU : σ[U]? = some (some (.int x)))
    (h : Mine s H0 H p rs t m n) (hi : i < m) (hj : j < n) (k : ∀ H' t', Mine s H0 H' p rs t' m n → D.nx σ H') :
    tAsg (tOp (rI0 fun i j => .int (f i j)) (tOp (rIxL K) (tOp (rIxL K) (tVar R) (tVar I)) (tVar J)) (tVar U)) (gSub (tOp (rIxL K) (tVar R) (tVar I)) (tVar J) rSetL) D σ H := by
  obtain ⟨a, r, ha, hr, hx⟩ := row_of h.tab (i := i) (by rw [h.rect.1]; exact hi)
  have lr : r.length = n := h.rect.2 r (List.mem_of_getElem? hr)
  refine w_asg (w_op (w_op (w_op (w_var σR (w_var σI (w_ixL h.tab.at_ (ref_at ha) ?_))))))
  refine w_var σJ (w_ixL hx (at_getD (by omega)) (w_var σU (w_i0 ?_)))
  refine w_gsub (w_op (w_var σR (w_var σI (w_ixL h.tab.at_ (ref_at ha) ?_))))
  refine w_var σJ (w_setL hx (j := j) ?_ ?_)
  · unfold ixN
    rw [if_pos (by omega), if_pos (by rw [List.length_map]; omega)]
    simp
  · rw [← List.map_set]
    exact k _ _ (h.put ha hr _)
def spSquare (K : PySem.W.Frag) : Sp := fun vs H Q _ => ∃ (s p : Addr) (rs : List Addr) (t : List (List Int)) (m n : Nat) (x : Int), vs = [.ref s, .ref p, .int x] ∧ Src H s ∧ Tab H p rs t ∧ (p ≠ s ∧ ∀ r ∈ rs, r ≠ s) ∧ Rect t m n ∧ 2 ≤ m ∧ 2 ≤ n ∧ m ≤ 50 ∧ n ≤ 50 ∧ ∀ p' H' rs' t', Mine s H H' p' rs' t' m n → Q (.ref p') H'
end K3

namespace K3
theorem inc2 {K : PySem.W.Frag} {f : Int → Int → Int} {R : Nat} {ei ej eu : TE} {s : Addr} {H0 H : Hp} {p : Addr} {rs : List Addr} {t : List (List Int)} {m n i j : Nat} {σ : L2.St} {D : L2.Ends} (σR : σ[R]? = some (some (.ref p)))
    (hei : ∀ H' t' (Q : VK), Mine s H0 H' p rs t' m n → Q (.int (i : Int)) H' → ei σ H' Q) (hej : ∀ H' t' (Q : VK), Mine s H0 H' p rs t' m n → Q (.int (j : Int)) H' → ej σ H' Q)
    (heu : ∀ H' t' (Q : VK), Mine s H0 H' p rs t' m n → (∀ x H'', Mine s H0 H'' p rs t' m n → Q (.int x) H'') → eu σ H' Q)
    (h : Mine s H0 H p rs t m n) (hi : i < m) (hj : j < n) (k : ∀ H' t', Mine s H0 H' p rs t' m n → D.nx σ H') :
    tAsg (tOp (rI0 fun i j => .int (f i j)) (tOp (rIxL K) (tOp (rIxL K) (tVar R) ei) ej) eu) (gSub (tOp (rIxL K) (tVar R) ei) ej rSetL) D σ H := by
  obtain ⟨a, r, ha, hr, hx⟩ := row_of h.tab (i := i) (by rw [h.rect.1]; exact hi)
  have lr : r.length = n := h.rect.2 r (List.mem_of_getElem? hr)
  refine w_asg (w_op (w_op (w_op (w_var σR (hei H t _ h (w_ixL h.tab.at_ (ref_at ha) ?_))))))
  refine hej H t _ h (w_ixL hx (at_getD (by omega)) (heu H t _ h fun x H2 h2 => w_i0 ?_))
  obtain ⟨a', r', ha', hr', hx2⟩ := row_of h2.tab (i := i) (by rw [h2.rect.1]; exact hi)
  obtain rfl : a = a' := Option.some.inj (ha.symm.trans ha')
  obtain rfl : r = r' := Option.some.inj (hr.symm.trans hr')
  refine w_gsub (w_op (w_var σR (hei H2 t _ h2 (w_ixL h2.tab.at_ (ref_at ha) ?_))))
  refine hej H2 t _ h2 (w_setL hx2 (j := j) ?_ ?_)
  · unfold ixN
    rw [if_pos (by omega), if_pos (by rw [List.length_map]; omega)]
    simp
  · rw [← List.map_set]
    exact k _ _ (h2.put ha hr _)
theorem paired_from {α β : Type} {F : α → β → Prop} : ∀ {xs : List α} {ys : List β}, Paired F xs ys → ∀ k, Paired F (xs.drop k) (ys.drop k)
  | _, _, .nil, k => by rw [List.drop_nil, List.drop_nil]; exact .nil
  | _, _, .cons h t, 0 => .cons h t
  | _, _, .cons h t, k + 1 => paired_from t k
theorem min_at {i j : Int} {H : Hp} : ∀ {Q : VK}, Q (.int (if j < i then j else i)) H → Q (.int (if j < i then j else i)) H := fun h => h
def spBroken (K : PySem.W.Frag) : Sp := fun vs H Q _ => ∃ (s g p : Addr) (rs rs' : List Addr) (t u : List (List Int)) (m n : Nat), vs = [.ref s, .ref g, .ref p] ∧ Src H s ∧ Tab H g rs t ∧ (g ≠ s ∧ ∀ r ∈ rs, r ≠ s) ∧ Rect t m n ∧ Tab H p rs' u ∧ (p ≠ s ∧ ∀ r ∈ rs', r ≠ s) ∧ Rect u m n ∧ 2 ≤ m ∧ 2 ≤ n ∧ m ≤ 50 ∧ n ≤ 50 ∧
  ∀ p' H' rs' t' m' n', BM [s] H H' → Src H' s → Tab H' p' rs' t' → Rect t' m' n' → 1 ≤ m' → 1 ≤ n' → m' ≤ 60 → n' ≤ 60 → Q (.ref p') H'
end K3

namespace K3
theorem Mine.trans {s : Addr} {H0 H1 H2 : Hp} {p : Addr} {rs : List Addr} {t : List (List Int)} {m n : Nat} (b : BM [s] H0 H1) (q0 : Src H0 s) (h : Mine s H1 H2 p rs t m n) : Mine s H0 H2 p rs t m n :=
  ⟨h.tab, h.rect, h.nd, h.ne, fun r hr => b.free (h.fr r hr), b.free h.p0, b.trans h.bm, h.src, q0⟩
/-- a list of hidden cells that is not the source -/
structure HidL (s : Addr) (H : Hp) (p : Addr) (ws : List V) (hs : List (Nat × Nat)) (m n : Nat) : Prop where
  at_ : H p = some (.lst ws)
  ne : p ≠ s
  src : Src H s
  cells : Paired (CellAt H) ws hs
  mem : ∀ h ∈ hs, h ∈ (cellsOf m n).dropLast
  len : hs.length ≤ 60
theorem HidL.draw {s : Addr} {H H1 : Hp} {p : Addr} {ws : List V} {hs : List (Nat × Nat)} {m n : Nat} (h : HidL s H p ws hs m n) (e : BM [s] H H1) (q : Src H1 s) : HidL s H1 p ws hs m n :=
  ⟨e.at h.at_ (by simpa using h.ne), h.ne, q, L2.Paired.mapP h.cells fun _ _ z => z.bm h.src e, h.mem, h.len⟩
theorem HidL.same {s : Addr} {H H1 : Hp} {p : Addr} {ws : List V} {hs : List (Nat × Nat)} {m n : Nat} (h : HidL s H p ws hs m n) (e : Same H H1) : HidL s H1 p ws hs m n := h.draw (BM.of e) (h.src.same e)
theorem HidL.inn {K : PySem.W.Frag} {s : Addr} {H : Hp} {p : Addr} {ws : List V} {hs : List (Nat × Nat)} {m n : Nat} (h : HidL s H p ws hs m n) : HidIn K H (.ref p) hs m n := ⟨p, ws, rfl, .inl (SqL.of h.at_), h.cells, h.mem, h.len⟩
def spShifted (K : PySem.W.Frag) : Sp := fun vs H Q _ => ∃ (s g h : Addr) (rs : List Addr) (t : List (List Int)) (ws : List V) (hs : List (Nat × Nat)) (m n : Nat), vs = [.ref s, .ref g, .ref h] ∧ Src H s ∧ Tab H g rs t ∧ (g ≠ s ∧ ∀ r ∈ rs, r ≠ s) ∧ Rect t m n ∧ HidL s H h ws hs m n ∧ Fit t hs t m n ∧ 2 ≤ m ∧ 2 ≤ n ∧ m ≤ 50 ∧ n ≤ 50 ∧
  ∀ p' H' rs' t', Mine s H H' p' rs' t' m n → Fit t hs t' m n → Q (.ref p') H'
/-! ### a grid with its sums fits itself -/
theorem sum_add (f g : Nat → Int) : ∀ l : List Nat, (l.map fun c => f c + g c).sum = (l.map f).sum + (l.map g).sum
  | [] => rfl
  | x :: l => by simp only [List.map_cons, List.sum_cons, sum_add f g l]; omega
theorem sum_zero : ∀ l : List Nat, (l.map fun _ => (0 : Int)).sum = 0
  | [] => rfl
  | _ :: l => by simp only [List.map_cons, List.sum_cons, sum_zero l]; rfl
theorem sum_getD (r : List Int) : ((List.range r.length).map fun c => r.getD c 0).sum = r.sum := by
  induction r with
  | nil => rfl
  | cons x r ih =>
    rw [List.length_cons, List.range_succ_eq_map, List.map_cons, List.map_map, List.sum_cons, List.sum_cons, ← ih]
    rfl
theorem fubini (k : Nat) : ∀ t : List (List Int), (∀ r ∈ t, r.length = k) → ((List.range k).map fun c => (colOf t c).sum).sum = (t.map List.sum).sum
  | [], _ => by
    show ((List.range k).map fun _ => (0 : Int)).sum = 0
    exact sum_zero _
  | r :: t, h => by
    have ih := fubini k t fun r hr => h r (List.mem_cons_of_mem _ hr)
    have e : ((List.range k).map fun c => (colOf (r :: t) c).sum) = (List.range k).map fun c => r.getD c 0 + (colOf t c).sum := rfl
    rw [e, sum_add, ih, List.map_cons, List.sum_cons, ← h r (List.mem_cons_self ..), sum_getD]
theorem fit_self {t : List (List Int)} {k m : Nat} (hk : ∀ r ∈ t, r.length = k ∧ ∀ x ∈ r, 0 ≤ x) (hm : t.length = m) (hs : List (Nat × Nat)) : Fit (withSums k t) hs (withSums k t) (m + 1) (k + 1) := by
  have sum_nn : ∀ l : List Int, (∀ x ∈ l, 0 ≤ x) → 0 ≤ l.sum := by
    intro l
    induction l with
    | nil => intro _; exact Int.le_refl 0
    | cons x l ih =>
      intro h
      have h1 := h x (List.mem_cons_self ..)
      have h2 := ih fun y hy => h y (List.mem_cons_of_mem _ hy)
      rw [List.sum_cons]
      omega
  have nnA : ∀ r ∈ t.map addSum, ∀ x ∈ r, 0 ≤ x := by
    intro r hr x hx
    obtain ⟨r', hr', rfl⟩ := List.mem_map.mp hr
    unfold addSum at hx
    rcases List.mem_append.mp hx with hx | hx
    · exact (hk r' hr').2 x hx
    · rw [List.mem_singleton.mp hx]
      exact sum_nn _ (hk r' hr').2
  have getD_nn : ∀ (r : List Int) (c : Nat), (∀ x ∈ r, 0 ≤ x) → 0 ≤ r.getD c 0 := by
    intro r c h
    rw [List.getD_eq_getElem?_getD]
    cases e : r[c]? with
    | none => exact Int.le_refl 0
    | some x => exact h x (List.mem_of_getElem? e)
  refine ⟨rect_sums ⟨hm, fun r hr => (hk r hr).1⟩, ?_, ⟨?_, ?_⟩, fun i _ j _ _ => rfl⟩
  · intro r hr x hx
    unfold withSums at hr
    rcases List.mem_append.mp hr with hr | hr
    · exact nnA r hr x hx
    · rw [List.mem_singleton.mp hr] at hx
      obtain ⟨c, _, rfl⟩ := List.mem_map.mp hx
      refine sum_nn _ fun y hy => ?_
      obtain ⟨r', hr', rfl⟩ := List.mem_map.mp hy
      exact getD_nn r' c (nnA r' hr')
  · intro r hr
    unfold withSums at hr
    rcases List.mem_append.mp hr with hr | hr
    · obtain ⟨r', hr', rfl⟩ := List.mem_map.mp hr
      unfold addSum
      rw [List.getLastD_concat, List.dropLast_concat]
    · rw [List.mem_singleton.mp hr, List.range_succ, List.map_append]
      rw [show ((List.range k).map (fun c => (colOf (t.map addSum) c).sum)) ++ [k].map (fun c => (colOf (t.map addSum) c).sum) = ((List.range k).map fun c => (colOf (t.map addSum) c).sum) ++ [(colOf (t.map addSum) k).sum] from rfl, List.getLastD_concat, List.dropLast_concat]
      have c1 : ∀ c ∈ List.range k, (colOf (t.map addSum) c).sum = (colOf t c).sum := by
        intro c hc
        congr 1
        unfold colOf
        rw [List.map_map]
        refine List.map_congr_left fun r hr => ?_
        have := (hk r hr).1
        have hc := List.mem_range.mp hc
        show (addSum r).getD c 0 = r.getD c 0
        unfold addSum
        rw [List.getD_eq_getElem?_getD, List.getD_eq_getElem?_getD, List.getElem?_append_left (by omega)]
      rw [List.map_congr_left c1, fubini k t fun r hr => (hk r hr).1]
      congr 1
      unfold colOf
      rw [List.map_map]
      refine List.map_congr_left fun r hr => ?_
      have := (hk r hr).1
      show (addSum r).getD k 0 = r.sum
      unfold addSum
      rw [List.getD_eq_getElem?_getD, List.getElem?_append_right (by omega), this]
      simp
  · intro c hc
    unfold RightCol
    have e : colOf (withSums k t) c = colOf (t.map addSum) c ++ [(colOf (t.map addSum) c).sum] := by
      unfold withSums
      show (t.map addSum ++ [_]).map _ = _
      rw [List.map_append]
      congr 1
      show [((List.range (k + 1)).map fun c => (colOf (t.map addSum) c).sum).getD c 0] = _
      rw [List.getD_eq_getElem?_getD, List.getElem?_map, List.getElem?_range hc]
      rfl
    rw [e, List.getLastD_concat, List.dropLast_concat]
end K3

namespace K3
def spLaw (K : PySem.W.Frag) : Sp := fun vs H Q _ => ∃ (a : Addr) (ns : List Int), vs = [.ref a] ∧ SqL K H a (ns.map V.int) ∧ ns.length ≤ 63 ∧ ∀ H', Q (.bl true) H'
theorem fit_same {t u : List (List Int)} {hs hs' : List (Nat × Nat)} {m n : Nat} (h : ∀ c, c ∈ hs ↔ c ∈ hs') : Fit t hs u m n ↔ Fit t hs' u m n := by
  unfold Fit
  simp only [h]
theorem paired_rev {α β : Type} {F : α → β → Prop} : ∀ {xs : List α} {ys : List β}, Paired F xs ys → Paired F xs.reverse ys.reverse
  | _, _, .nil => .nil
  | _, _, .cons h t => by
    rw [List.reverse_cons, List.reverse_cons]
    exact K3.Paired.app (paired_rev t) (.cons h .nil)
theorem same_new {s : Addr} {H H1 H2 : Hp} (h0 : H s = none) (e : Same H H1) (b : BM [s] H1 H2) : Same H H2 := fun c o h => b.at (e _ _ h) (by simpa using fun z => by rw [z, h0] at h; cases h)
/-! ### tables as data -/
def tabD (t : List (List Int)) : PyData := .list (t.map fun r => .list (r.map PyData.int))
theorem rows_dp {K : PySem.W.Frag} {H : Hp} : ∀ {rs : List Addr} {t : List (List Int)}, Paired (RowAt H) rs t → DpAll K H (rs.map V.ref) (t.map fun r => .list (r.map PyData.int))
  | _, _, .nil => .nil
  | _, _, .cons h t => .cons (lst_dp h) (rows_dp t)
theorem tab_dp {K : PySem.W.Frag} {H : Hp} {p : Addr} {rs : List Addr} {t : List (List Int)} (h : Tab H p rs t) : Dp K H (.ref p) (tabD t) := .lst (SqL.of h.at_) (rows_dp h.rows)
theorem lay_rows : ∀ t : List (List Int), PyData.canLayAll0 (t.map fun r => .list (r.map PyData.int)) = true ∧ PyData.depthAll (t.map fun r => .list (r.map PyData.int)) ≤ 2
  | [] => by simp [PyData.canLayAll0, PyData.depthAll]
  | r :: t => by
    obtain ⟨a, b⟩ := lay_rows t
    obtain ⟨c, d⟩ := lay_ints r
    simp only [List.map_cons, PyData.canLayAll0, PyData.depthAll, PyData.canLay0, PyData.depth]
    exact ⟨by rw [a, c]; rfl, by omega⟩
theorem lay_cells : ∀ hs : List (Nat × Nat), PyData.canLayAll0 (hs.map cellD) = true ∧ PyData.depthAll (hs.map cellD) ≤ 5
  | [] => by simp [PyData.canLayAll0, PyData.depthAll]
  | c :: hs => by
    obtain ⟨a, b⟩ := lay_cells hs
    have d : (cellD c).canLay0 = true ∧ (cellD c).depth ≤ 5 := by
      unfold cellD
      exact ⟨rfl, by simp [PyData.depth, PyData.depthAll]⟩
    simp only [List.map_cons, PyData.canLayAll0, PyData.depthAll]
    exact ⟨by rw [a, d.1]; rfl, by omega⟩
def allD (t : List (List Int)) (hs : List (Nat × Nat)) (u : List (List Int)) : PyData := .tuple [tabD t, .list (hs.map cellD), tabD u]
theorem all_lay (t : List (List Int)) (hs : List (Nat × Nat)) (u : List (List Int)) : SeqAt.shaped (allD t hs u) = true ∧ PyData.eqv (allD t hs u) (allD t hs u) = true := by
  obtain ⟨a1, a2⟩ := lay_rows t
  obtain ⟨b1, b2⟩ := lay_cells hs
  obtain ⟨c1, c2⟩ := lay_rows u
  have c : (allD t hs u).canLay0 = true := by
    unfold allD tabD
    simp only [PyData.canLay0, PyData.canLayAll0, a1, b1, c1]
    rfl
  have d : (allD t hs u).depth ≤ 64 := by
    unfold allD tabD
    simp only [PyData.depth, PyData.depthAll]
    omega
  refine ⟨?_, SeqAt.eqv_refl _ c⟩
  unfold SeqAt.shaped
  rw [c, decide_eq_true d]
  rfl
theorem w_rev {K : PySem.W.Frag} {te : TE} {σ : L2.St} {H : Hp} {Q : VK} (h : te σ H fun x H1 => ∃ a xs, x = .ref a ∧ SqL K H1 a xs ∧ ∀ p, H1 p = none → Q (.ref p) (upd H1 p (.lst xs.reverse))) : tRevL K te σ H Q := h
theorem cut_mem {xs : List V} {lo hi : Option Int} {x : V} (h : x ∈ cutV xs lo hi) : x ∈ xs := by
  unfold cutV at h
  exact List.mem_of_mem_drop (List.mem_of_mem_take h)
end K3
end C7_part
section E2_part
set_option Elab.async false
set_option linter.all false
set_option maxRecDepth 100000
set_option maxHeartbeats 1000000
set_option pp.deepTerms.threshold 5
open PySem PySem.Spec PyProof.Rows L2
/-- go on as far as nothing is open -/
local macro_rules | `(tactic| walk_at "go") => `(tactic| repeat (first
  | with_reducible refine w_seq ?_ | with_reducible refine w_next ?_ | with_reducible refine w_set ?_ | with_reducible refine w_drop ?_ | with_reducible refine w_ret ?_ | with_reducible refine w_retN ?_
  | with_reducible refine w_if ?_ | ((with_reducible refine' w_var ?hv ?_); (case hv => exact rfl)) | with_reducible refine w_c ?_ | with_reducible refine w_nil ?_ | with_reducible refine w_cons ?_ | with_reducible refine w_op ?_ | with_reducible refine w_un ?_
  | with_reducible refine w_test ?_ | with_reducible refine w_tB ?_ | with_reducible refine w_not ?_ | with_reducible refine w_and ?_ | with_reducible refine w_or ?_ | with_reducible refine w_bl ?_
  | with_reducible refine w_andV ?_ | with_reducible refine w_orV ?_ | with_reducible refine w_notV ?_ | with_reducible refine w_ifE ?_ | with_reducible refine w_chain ?_ | with_reducible refine w_i0 ?_
  | with_reducible refine w_call ?_ | with_reducible refine w_callS ?_ | with_reducible refine w_cB ?_ | with_reducible refine w_tup ?_ | with_reducible refine w_lst ?_ | with_reducible refine w_fldV ?_
  | with_reducible refine w_neF ?_ | with_reducible refine w_neT ?_ | with_reducible refine w_notN ?_ | with_reducible refine w_isN ?_ | with_reducible refine w_gname ?_ | with_reducible refine w_gsub ?_ | with_reducible refine w_asg ?_ | with_reducible refine w_sl ?_ | with_reducible refine w_noP ?_ | with_reducible refine w_int1 ?_ | with_reducible refine w_part ?_ | with_reducible refine w_yes ?_ | with_reducible refine w_nT ?_ | with_reducible refine w_nF ?_ | with_reducible refine w_iteT ?_ | with_reducible refine w_iteF ?_))
namespace K3
/-- a comprehension over a grid's rows whose elements are new rows -/
theorem rows_newE {K : PySem.W.Frag} {a D : Addr} {rs : List Addr} {t : List (List Int)} {te : TE} {vs : List Nat} {σ : L2.St} {j : Nat} {H1 : Hp} {b : Bool} {Qd : Hp → Prop} (f : List Int → List Int) (hs : SqB K H1 b a (rs.map V.ref)) (hr : Paired (fun r row => SqE K H1 r (row.map V.int)) rs t) (hlen : t.length ≤ 10000) (hD : H1 D = none) (hw : ∀ x, wipe ((wipe σ vs).set j (some x)) vs = wipe σ vs)
    (he : ∀ (c : Addr) (r : List Int) (H' : Hp), Same H1 H' → r ∈ t → SqE K H' c (r.map V.int) → ∀ Q : VK, (∀ d H'', H' d = none → Same H' H'' → RowAt H'' d (f r) → Q (.ref d) H'') → te ((wipe σ vs).set j (some (.ref c))) H' Q)
    (hd : ∀ H' cs, Same H1 H' → Tab H' D cs (t.map f) → cs.Nodup → (∀ c ∈ cs, H1 c = none ∧ c ≠ D) → Qd H') : LcAt (ItB K b a) D (gName j) tYes te vs σ H1 Qd := by
  have lr := hr.length
  refine lc_it (walk_B (K := K) (a := a) (xs := rs.map V.ref) (b := b)) (fun i H' => Same H1 H' ∧ ∃ cs : List Addr, H' D = some (.lst (cs.map V.ref)) ∧ Paired (RowAt H') cs ((t.take i).map f) ∧ cs.Nodup ∧ ∀ c ∈ cs, H1 c = none ∧ c ≠ D)
    ⟨Same.new hD _, [], upd_same, .nil, List.nodup_nil, fun c hc => (by cases hc)⟩ (fun i H' _ z => hs.same z.1) ?_ ?_
  · rintro i x H2 H2' _ ⟨e2, cs, hD2, hp2, nd, fr⟩ ⟨rfl, hx⟩
    obtain ⟨c0, hb, rfl⟩ := map_ref hx
    obtain ⟨r, hr', hrb⟩ := K3.Paired.get hr hb
    refine ⟨hw _, ?_⟩
    refine w_yes ?_
    refine iteT ?_
    refine he c0 r H2' e2 (List.mem_of_getElem? hr') (hrb.same e2) _ fun c H3 hc e3 hcr => ?_
    have hD3 := e3 _ _ hD2
    have cD : c ≠ D := fun z => by rw [z, hD2] at hc; cases hc
    have lcs : cs.length ≤ 10000 := by rw [hp2.length, List.length_map, List.length_take]; omega
    refine ⟨_, hD3, Nat.lt_of_le_of_lt (show _ ≤ 10000 by rw [List.length_map]; exact lcs) (by decide), (e2.trans e3).mut hD, cs ++ [c], by rw [upd_same, List.map_append]; rfl, ?_, ?_, ?_⟩
    · rw [List.take_add_one, hr', List.map_append]
      refine K3.Paired.app (paired_up hp2 fun d row hd z => ?_) (.cons ?_ .nil)
      · show upd H3 D _ d = _
        rw [upd_ne (fr d hd).2]
        exact e3 _ _ z
      · show upd H3 D _ c = _
        rw [upd_ne cD]
        exact hcr
    · refine nodup_snoc nd fun z => ?_
      obtain ⟨row, hrow⟩ := paired_has hp2 z
      have hrow : H2' c = some _ := hrow
      rw [hc] at hrow
      cases hrow
    · intro d hd
      rcases List.mem_append.mp hd with hd | hd
      · exact fr d hd
      · rw [List.mem_singleton.mp hd]
        exact ⟨e2.free hc, cD⟩
  · rintro H2 ⟨e2, cs, hD2, hp2, nd, fr⟩
    rw [List.length_map, lr, List.take_length] at hp2
    exact hd H2 cs e2 ⟨hD2, hp2⟩ nd fr
end K3
end E2_part
section F1_part
set_option Elab.async false
set_option linter.all false
set_option maxRecDepth 100000
set_option maxHeartbeats 1000000
set_option pp.deepTerms.threshold 5
open PySem PySem.Spec PyProof.Rows L2
/-- go on as far as nothing is open -/
local macro_rules | `(tactic| walk_at "go") => `(tactic| repeat (first
  | with_reducible refine w_seq ?_ | with_reducible refine w_next ?_ | with_reducible refine w_set ?_ | with_reducible refine w_drop ?_ | with_reducible refine w_ret ?_ | with_reducible refine w_retN ?_
  | with_reducible refine w_if ?_ | ((with_reducible refine' w_var ?hv ?_); (case hv => exact rfl)) | with_reducible refine w_c ?_ | with_reducible refine w_nil ?_ | with_reducible refine w_cons ?_ | with_reducible refine w_op ?_ | with_reducible refine w_un ?_
  | with_reducible refine w_test ?_ | with_reducible refine w_tB ?_ | with_reducible refine w_not ?_ | with_reducible refine w_and ?_ | with_reducible refine w_or ?_ | with_reducible refine w_bl ?_
  | with_reducible refine w_andV ?_ | with_reducible refine w_orV ?_ | with_reducible refine w_notV ?_ | with_reducible refine w_ifE ?_ | with_reducible refine w_chain ?_ | with_reducible refine w_i0 ?_
  | with_reducible refine w_call ?_ | with_reducible refine w_callS ?_ | with_reducible refine w_cB ?_ | with_reducible refine w_tup ?_ | with_reducible refine w_lst ?_ | with_reducible refine w_fldV ?_
  | with_reducible refine w_neF ?_ | with_reducible refine w_neT ?_ | with_reducible refine w_notN ?_ | with_reducible refine w_isN ?_ | with_reducible refine w_gname ?_ | with_reducible refine w_gsub ?_ | with_reducible refine w_asg ?_ | with_reducible refine w_sl ?_ | with_reducible refine w_noP ?_ | with_reducible refine w_int1 ?_ | with_reducible refine w_part ?_ | with_reducible refine w_yes ?_ | with_reducible refine w_nT ?_ | with_reducible refine w_nF ?_ | with_reducible refine w_iteT ?_ | with_reducible refine w_iteF ?_))
namespace L2
open PySem PySem.Spec PyProof.Rows
section
variable {X : Cx} {pins : List (Addr × Obj)} {σ : L2.St} {H : Hp} {s : Shared} {a b : Addr} {r : Value} {z : V} {ks : List L2.Key} {A : Around} {E : Value → Shared → Prop}
/-- d.setdefault(t, z), t a tuple of ints and texts -/
theorem d_setdT {kvs : List (List L2.Key × V)} {Q : Value → Shared → Prop} (hu : A.units + 1 < cLine) (I : Inv X pins σ H s) (e : H a = some (.dT kvs)) (eb : H b = some (.tup (ks.map kV))) (rd : RelV z r) (hl : kvs.length < sizeLine)
    (h1 : ∀ v, valV kvs ks = some v → ∀ w' s', Inv X pins σ H s' → RelV v w' → Q w' s') (h2 : valV kvs ks = none → ∀ w' s', Inv X pins σ (upd H a (.dT (putK kvs ks z))) s' → RelV z w' → Q w' s') :
    wpAny (model X.prog X.w) A (call (.builtin "dict.setdefault") [.ref a, .ref b, r]) Q E s := by
  obtain ⟨z1, z2, xs, rel, dd⟩ := dt_of I.hok e
  have lx : xs.length ≤ sizeLine := by
    have := Paired.length rel
    omega
  refine call_setdefault_heap (hsz := lx) (tupleKind_room_in1 hu) (key_of I.hok eb) z2 dd (fun p hp => ?_) fun hn h' dd' hs => ?_
  · have q := rel.val ks
    rw [hp] at q
    cases q0 : valV kvs ks with
    | none => rw [q0] at q; exact (show False from q).elim
    | some v => rw [q0] at q; exact h1 v q0 _ _ (I.tok _) q
  · have q := rel.val ks
    rw [hn] at q
    cases q0 : valV kvs ks with
    | some v => rw [q0] at q; exact (show False from q).elim
    | none =>
      have l2 : (putK kvs ks z).length ≤ sizeLine := by
        have := length_putK kvs ks z
        omega
      obtain ⟨o, es, ep, g1, g2, g3, g4, _, g5⟩ := dd'
      refine h2 q0 _ _ (d_write I (by rw [e]; exact True.intro) hs ⟨o, g1⟩ ⟨l2, z2, _, (rel.put ks eb rd).keeps fun c ys ec => ?_, o, es, ep, g1, g2, g3, g4, g5⟩) rd
      rw [upd_ne (ne_of ec e (fun z => nomatch z))]
      exact ec
end
def tSetdT (td ty tx : TE) : TE := fun σ H Q => td σ H fun x H1 => ∃ a, x = .ref a ∧ IsD H1 a ∧ ty σ H1 fun y H2 => tx σ H2 fun z H3 => ∃ (kvs : List (List L2.Key × V)) (ks : List L2.Key) (b : Addr), H3 a = some (.dT kvs) ∧ y = .ref b ∧ H3 b = some (.tup (ks.map kV)) ∧ kvs.length < sizeLine ∧
  (∀ v, valV kvs ks = some v → Q v H3) ∧ (valV kvs ks = none → Q z (upd H3 a (.dT (putK kvs ks z))))
section
variable {X : Cx} {o e f : Expr} {td ty tx : TE} {apos cpos : Pos}
theorem pe_setdT (hu : X.A.units + 1 < cLine) (ho : PE X o td) (he : PE X e ty) (hf : PE X f tx) (m : M2 X o "setdefault" apos e f cpos) : PE X (.Call (.Attribute o "setdefault" apos) [e, f] [] cpos) (tSetdT td ty tx) := by
  refine ⟨fun pins s σ H Q I h => ?_⟩
  refine wpAny_Call_method m.base m.few m.line PySem.F.plainAttrs_dict PySem.F.slot_dict_setdefault PySem.F.type_dict_setdefault ?_
  refine thn (ho.run pins s σ H _ I h) fun u s1 ⟨x, H1, I1, rx, a, ex, d, q1⟩ => ?_
  subst ex
  obtain rfl : u = Value.ref a := rx
  obtain ⟨t1, t2, _⟩ := isD_at I1 d
  refine ⟨t1, t2, ?_⟩
  rw [m.trees]
  refine Calls.callWith_builtin rfl (Calls.evalArgs_plain (Calls.spliced_cons ?_))
  refine thn (he.run pins s1 σ H1 _ I1 q1) fun iv s2 ⟨y, H2, I2, ry, q2⟩ => Calls.spliced_cons ?_
  refine thn (hf.run pins s2 σ H2 _ I2 q2) fun fv s3 ⟨z, H3, I3, rz, kvs, ks, b, ea, ey, eb, hl, q3, q4⟩ => Calls.spliced_nil ?_
  subst ey
  obtain rfl : iv = Value.ref b := ry
  exact d_setdT hu I3 ea eb rz hl (fun v hv w' s4 I4 rw' => ⟨v, _, I4, rw', q3 v hv⟩) fun hn w' s4 I4 rw' => ⟨z, _, I4, rw', q4 hn⟩
end
end L2
namespace K3
/-! ### places, steps, ways: the model -/
abbrev Pl := Bool × Nat
structure Stp where
  to : Pl
  c : Nat × Nat
  up : Bool
deriving DecidableEq
def plName (p : Pl) : Str := if p.1 then "row" else "column"
def plKey (p : Pl) : List L2.Key := [.inr (plName p), .inl (p.2 : Int)]
theorem plKey_inj {p q : Pl} (h : plKey p = plKey q) : p = q := by
  obtain ⟨a, i⟩ := p
  obtain ⟨b, j⟩ := q
  unfold plKey plName at h
  simp only [List.cons.injEq, Sum.inr.injEq, Sum.inl.injEq, and_true] at h
  obtain ⟨h1, h2⟩ := h
  have e : i = j := by omega
  subst e
  cases a with
  | true =>
    cases b with
    | true => rfl
    | false => exact absurd h1 (show ¬ (("row" : Str) = "column") by decide)
  | false =>
    cases b with
    | true => exact absurd h1 (show ¬ (("column" : Str) = "row") by decide)
    | false => rfl
def PlAt (H : Hp) (v : V) (p : Pl) : Prop := ∃ a, v = .ref a ∧ H a = some (.tup ((plKey p).map kV))
theorem PlAt.same {H H' : Hp} (e : Same H H') {v : V} {p : Pl} (h : PlAt H v p) : PlAt H' v p := let ⟨a, h1, h2⟩ := h; ⟨a, h1, e _ _ h2⟩
def sgn (b : Bool) : Int := if b then 1 else -1
def StAt (H : Hp) (v : V) (s : Stp) : Prop := ∃ a vg vc, v = .ref a ∧ H a = some (.tup [vg, vc, .int (sgn s.up)]) ∧ PlAt H vg s.to ∧ CellAt H vc s.c
theorem StAt.same {H H' : Hp} (e : Same H H') {v : V} {s : Stp} (h : StAt H v s) : StAt H' v s := let ⟨a, vg, vc, h1, h2, h3, h4⟩ := h; ⟨a, vg, vc, h1, e _ _ h2, h3.same e, h4.same e⟩
def arcF (m n : Nat) (c : Nat × Nat) : Pl × Pl := if decide (c.1 = m - 1) = decide (c.2 = n - 1) then ((true, c.1), (false, c.2)) else ((false, c.2), (true, c.1))
theorem arc_ne (m n : Nat) (c : Nat × Nat) : (arcF m n c).1 ≠ (arcF m n c).2 := by
  unfold arcF
  split <;> simp
def stepsF (m n : Nat) (cs : List (Nat × Nat)) (p : Pl) : List Stp := cs.filterMap fun c => if (arcF m n c).1 = p then some ⟨(arcF m n c).2, c, true⟩ else if (arcF m n c).2 = p then some ⟨(arcF m n c).1, c, false⟩ else none
theorem stepsF_snoc (m n : Nat) (cs : List (Nat × Nat)) (c : Nat × Nat) (p : Pl) : stepsF m n (cs ++ [c]) p = stepsF m n cs p ++ (if (arcF m n c).1 = p then [⟨(arcF m n c).2, c, true⟩] else if (arcF m n c).2 = p then [⟨(arcF m n c).1, c, false⟩] else []) := by
  unfold stepsF
  rw [List.filterMap_append]
  congr 1
  simp only [List.filterMap_cons, List.filterMap_nil]
  by_cases h1 : (arcF m n c).1 = p
  · rw [if_pos h1, if_pos h1]
  · rw [if_neg h1, if_neg h1]
    by_cases h2 : (arcF m n c).2 = p
    · rw [if_pos h2, if_pos h2]
    · rw [if_neg h2, if_neg h2]
def spArc (K : PySem.W.Frag) : Sp := fun vs H Q _ => ∃ (g : Addr) (v : V) (rs : List Addr) (t : List (List Int)) (m n : Nat) (c : Nat × Nat), vs = [.ref g, v] ∧ GT K H g rs t ∧ Rect t m n ∧ 1 ≤ m ∧ 1 ≤ n ∧ CellAt H v c ∧
  ∀ a H' v1 v2, Same H H' → H' a = some (.tup [v1, v2]) → PlAt H' v1 (arcF m n c).1 → PlAt H' v2 (arcF m n c).2 → Q (.ref a) H'
section
variable {P : Program} {w : World} {K : PySem.W.Frag} {mg : Str → Option Value} {base : Heap}
theorem sc_arc_of : FnScope ["grid", "cell", "row", "column", "last_row", "last_column"] ["grid", "cell"] (defScope s_arc_of) := ⟨rfl, rfl, rfl, by decide +kernel, rfl, by decide +kernel, by decide +kernel⟩
theorem ok_arc_of (T : Tx K mg) : Ok P w K mg base 2 (He.ga K "arc_of") ["grid", "cell"] (spArc K) := by
  obtain ⟨fd, F⟩ := T.f_arc_of
  have Olast_cell := ok_last_cell (P := P) (w := w) (base := base) T
  refine ⟨fd, F.ok (k := 1) sc_arc_of (fun vs H Q E h => ?_) (fun cdv A outer s_ H vs Q E hr h => ?_), F.bindsN fun _ _ _ _ _ _ us hl => match us, hl with | [_, _], _ => rfl, F.kp⟩
  · obtain ⟨g, v, rs, t, m, n, c, rfl, ht, hR, m1, n1, ⟨a, rfl, ha⟩, q⟩ := h
    rfl
  obtain ⟨g, v, rs, t, m, n, c, rfl, ht, hR, m1, n1, ⟨a, rfl, ha⟩, q⟩ := h
  have hu65 := K3.Room.units65 hr
  have hu64 := Nat.lt_of_succ_lt hu65
  have hu0 := Nat.lt_of_le_of_lt (Nat.le_add_right _ 65) hu65
  have hu1 := Nat.lt_of_le_of_lt (Nat.add_le_add_left (show 1 ≤ 65 by decide) _) hu65
  have rlast_cell : Room 1 _ := hr.mono (by decide)
  refine ⟨_, pss_cons (ps_asg (pv 1) (pg_tup (by rfl) (pgs_cons (pg_name (i := 2) sc_arc_of.nd rfl (Or.inl rfl)) (pgs_cons (pg_name (i := 3) sc_arc_of.nd rfl (Or.inl rfl)) pgs_nil))))
      (pss_cons (ps_asg (pe_f Olast_cell rlast_cell T.g_last_cell (pa_cons (pv 0) pa_nil)) (pg_tup (by rfl) (pgs_cons (pg_name (i := 4) sc_arc_of.nd rfl (Or.inl rfl)) (pgs_cons (pg_name (i := 5) sc_arc_of.nd rfl (Or.inl rfl)) pgs_nil))))
      (pss_cons (ps_if (pt_cmpR op_ne (pe_cmpR op_eq (pv 2) (pv 4) rfl) (pe_cmpR op_eq (pv 3) (pv 5) rfl) (nomark _)) (pss_one (ps_ret (pe_tup (pa_cons (pe_tup (pa_cons pe_str (pa_cons (pv 3) pa_nil))) (pa_cons (pe_tup (pa_cons pe_str (pa_cons (pv 2) pa_nil))) pa_nil))))) pss_nil)
      (pss_one (ps_ret (pe_tup (pa_cons (pe_tup (pa_cons pe_str (pa_cons (pv 2) pa_nil))) (pa_cons (pe_tup (pa_cons pe_str (pa_cons (pv 3) pa_nil))) pa_nil))))))), ?_⟩
  walk_at "go"
  refine ⟨a, _, rfl, SqT.of ha, rfl, _, _, rfl, _, _, rfl, rfl, ?_⟩
  walk_at "go"
  refine ⟨g, rs, t, m, n, rfl, ht, hR, m1, n1, fun b H1 e1 ⟨b', eb, hb⟩ => ?_⟩
  cases eb
  refine ⟨b, _, rfl, SqT.of hb, rfl, _, _, rfl, _, _, rfl, rfl, ?_⟩
  walk_at "go"
  refine w_eqI ?_
  rw [decV]
  walk_at "go"
  refine w_eqI ?_
  rw [decV]
  rw [show decide ((c.1 : Int) = (((m - 1, n - 1) : Nat × Nat).1 : Int)) = decide (c.1 = m - 1) from decide_eq_decide.mpr (by simp only; omega), show decide ((c.2 : Int) = (((m - 1, n - 1) : Nat × Nat).2 : Int)) = decide (c.2 = n - 1) from decide_eq_decide.mpr (by simp only; omega)]
  refine ⟨rfl, ?_⟩
  walk_at "go"
  have tup2 : ∀ (H2 : Hp) (b1 b2 : Bool) (i1 i2 : Nat), Same H H2 → arcF m n c = ((b1, i1), (b2, i2)) → ∀ t1, H2 t1 = none → ∀ t2, (upd H2 t1 (.tup [.str (plName (b1, i1)), .int (i1 : Int)])) t2 = none → ∀ t3, (upd (upd H2 t1 (.tup [.str (plName (b1, i1)), .int (i1 : Int)])) t2 (.tup [.str (plName (b2, i2)), .int (i2 : Int)])) t3 = none → Q (.ref t3) (upd (upd (upd H2 t1 (.tup [.str (plName (b1, i1)), .int (i1 : Int)])) t2 (.tup [.str (plName (b2, i2)), .int (i2 : Int)])) t3 (.tup [V.ref t1, .ref t2])) := by
    intro H2 b1 b2 i1 i2 e2 ea t1 ht1 t2 ht2 t3 ht3
    have f1 := Same.new ht1 (.tup [.str (plName (b1, i1)), .int (i1 : Int)])
    have f2 := Same.new ht2 (.tup [.str (plName (b2, i2)), .int (i2 : Int)])
    have f3 := Same.new ht3 (.tup [V.ref t1, .ref t2])
    refine q t3 _ (.ref t1) (.ref t2) (e2.trans (f1.trans (f2.trans f3))) upd_same ?_ ?_
    · rw [ea]
      exact ⟨t1, rfl, (f2.trans f3) _ _ upd_same⟩
    · rw [ea]
      exact ⟨t2, rfl, f3 _ _ upd_same⟩
  by_cases hc : decide (c.1 = m - 1) = decide (c.2 = n - 1)
  · have ea : arcF m n c = ((true, c.1), (false, c.2)) := by unfold arcF; rw [if_pos hc]
    rw [decide_eq_true (by rw [hc] : V.bl (decide (c.1 = m - 1)) = V.bl (decide (c.2 = n - 1)))]
    walk_at "go"
    refine ⟨(by show 2 ≤ sizeLine; decide), fun t1 ht1 => ?_⟩
    walk_at "go"
    refine ⟨(by show 2 ≤ sizeLine; decide), fun t2 ht2 => ?_⟩
    refine ⟨(by show 2 ≤ sizeLine; decide), fun t3 ht3 => ?_⟩
    exact tup2 H1 true false c.1 c.2 e1 ea t1 ht1 t2 ht2 t3 ht3
  · have ea : arcF m n c = ((false, c.2), (true, c.1)) := by unfold arcF; rw [if_neg hc]
    rw [decide_eq_false (fun z => hc (V.bl.inj z) : ¬ V.bl (decide (c.1 = m - 1)) = V.bl (decide (c.2 = n - 1)))]
    walk_at "go"
    refine ⟨(by show 2 ≤ sizeLine; decide), fun t1 ht1 => ?_⟩
    walk_at "go"
    refine ⟨(by show 2 ≤ sizeLine; decide), fun t2 ht2 => ?_⟩
    refine ⟨(by show 2 ≤ sizeLine; decide), fun t3 ht3 => ?_⟩
    exact tup2 H1 false true c.2 c.1 e1 ea t1 ht1 t2 ht2 t3 ht3
end
end K3
end F1_part
section F2_part
set_option Elab.async false
set_option linter.all false
set_option maxRecDepth 100000
set_option maxHeartbeats 1000000
set_option pp.deepTerms.threshold 5
open PySem PySem.Spec PyProof.Rows L2
/-- go on as far as nothing is open -/
local macro_rules | `(tactic| walk_at "go") => `(tactic| repeat (first
  | with_reducible refine w_seq ?_ | with_reducible refine w_next ?_ | with_reducible refine w_set ?_ | with_reducible refine w_drop ?_ | with_reducible refine w_ret ?_ | with_reducible refine w_retN ?_
  | with_reducible refine w_if ?_ | ((with_reducible refine' w_var ?hv ?_); (case hv => exact rfl)) | with_reducible refine w_c ?_ | with_reducible refine w_nil ?_ | with_reducible refine w_cons ?_ | with_reducible refine w_op ?_ | with_reducible refine w_un ?_
  | with_reducible refine w_test ?_ | with_reducible refine w_tB ?_ | with_reducible refine w_not ?_ | with_reducible refine w_and ?_ | with_reducible refine w_or ?_ | with_reducible refine w_bl ?_
  | with_reducible refine w_andV ?_ | with_reducible refine w_orV ?_ | with_reducible refine w_notV ?_ | with_reducible refine w_ifE ?_ | with_reducible refine w_chain ?_ | with_reducible refine w_i0 ?_
  | with_reducible refine w_call ?_ | with_reducible refine w_callS ?_ | with_reducible refine w_cB ?_ | with_reducible refine w_tup ?_ | with_reducible refine w_lst ?_ | with_reducible refine w_fldV ?_
  | with_reducible refine w_neF ?_ | with_reducible refine w_neT ?_ | with_reducible refine w_notN ?_ | with_reducible refine w_isN ?_ | with_reducible refine w_gname ?_ | with_reducible refine w_gsub ?_ | with_reducible refine w_asg ?_ | with_reducible refine w_sl ?_ | with_reducible refine w_noP ?_ | with_reducible refine w_int1 ?_ | with_reducible refine w_part ?_ | with_reducible refine w_yes ?_ | with_reducible refine w_nT ?_ | with_reducible refine w_nF ?_ | with_reducible refine w_iteT ?_ | with_reducible refine w_iteF ?_))
namespace K3
/-! ### the dict of steps -/
def Tk (H H' : Hp) : Prop := ∀ a xs, H a = some (.tup xs) → H' a = some (.tup xs)
theorem Tk.of {H H' : Hp} (e : Same H H') : Tk H H' := fun a xs h => e _ _ h
theorem Tk.refl (H : Hp) : Tk H H := fun _ _ h => h
theorem Tk.trans {H H1 H2 : Hp} (a : Tk H H1) (b : Tk H1 H2) : Tk H H2 := fun x xs h => b x xs (a x xs h)
theorem Tk.upd {H : Hp} {p : Addr} {o u : HO} (h : H p = some o) (n : ∀ xs, o ≠ .tup xs) : Tk H (L2.upd H p u) := fun a xs e => by
  rw [upd_ne (fun z => by rw [z, h] at e; exact n xs (Option.some.inj e))]
  exact e
theorem PlAt.tk {H H' : Hp} (e : Tk H H') {v : V} {p : Pl} (h : PlAt H v p) : PlAt H' v p := let ⟨a, h1, h2⟩ := h; ⟨a, h1, e _ _ h2⟩
theorem CellAt.tk {H H' : Hp} (e : Tk H H') {v : V} {c : Nat × Nat} (h : CellAt H v c) : CellAt H' v c := let ⟨a, h1, h2⟩ := h; ⟨a, h1, e _ _ h2⟩
theorem StAt.tk {H H' : Hp} (e : Tk H H') {v : V} {s : Stp} (h : StAt H v s) : StAt H' v s := let ⟨a, vg, vc, h1, h2, h3, h4⟩ := h; ⟨a, vg, vc, h1, e _ _ h2, h3.tk e, h4.tk e⟩
/-- d has at each place a list of its own of the steps that f tells -/
structure Sx (H0 H : Hp) (d : Addr) (kvs : List (List L2.Key × V)) (f : Pl → List Stp) : Prop where
  at_ : H d = some (.dT kvs)
  d0 : H0 d = none
  get : ∀ p, (valV kvs (plKey p) = none ∧ f p = []) ∨ ∃ l xs, valV kvs (plKey p) = some (.ref l) ∧ H l = some (.lst xs) ∧ H0 l = none ∧ Paired (StAt H) xs (f p)
  inj : ∀ p q l, valV kvs (plKey p) = some (.ref l) → valV kvs (plKey q) = some (.ref l) → p = q
  same : Same H0 H
theorem Sx.more {H0 H H1 : Hp} {d : Addr} {kvs : List (List L2.Key × V)} {f : Pl → List Stp} (S : Sx H0 H d kvs f) (e : Same H H1) : Sx H0 H1 d kvs f :=
  ⟨e _ _ S.at_, S.d0, fun p => (S.get p).imp id fun ⟨l, xs, h1, h2, h3, h4⟩ => ⟨l, xs, h1, e _ _ h2, h3, L2.Paired.mapP h4 fun _ _ z => z.same e⟩, S.inj, S.same.trans e⟩
/-- a new key with an empty list -/
theorem Sx.key {H0 H : Hp} {d z : Addr} {kvs : List (List L2.Key × V)} {f : Pl → List Stp} (S : Sx H0 H d kvs f) {p : Pl} (hn : valV kvs (plKey p) = none) (hz : H z = some (.lst [])) (z0 : H0 z = none) (zl : ∀ q l, valV kvs (plKey q) = some (.ref l) → l ≠ z) :
    Sx H0 (upd H d (.dT (putK kvs (plKey p) (.ref z)))) d (putK kvs (plKey p) (.ref z)) f := by
  have tk : Tk H (upd H d (.dT (putK kvs (plKey p) (.ref z)))) := Tk.upd S.at_ fun xs e => by cases e
  have zd : z ≠ d := fun e => by rw [e, S.at_] at hz; cases hz
  have keep : ∀ {l : Addr} {xs : List V}, H l = some (.lst xs) → (upd H d (.dT (putK kvs (plKey p) (.ref z)))) l = some (.lst xs) := fun h => by
    rw [upd_ne (fun e => by rw [e, S.at_] at h; cases h)]
    exact h
  refine ⟨upd_same, S.d0, fun q => ?_, fun q r l h1 h2 => ?_, S.same.mut S.d0⟩
  · by_cases c : q = p
    · subst c
      refine .inr ⟨z, [], ?_, keep hz, z0, ?_⟩
      · rw [valV_put, if_pos rfl]
      · rcases S.get q with ⟨_, h⟩ | ⟨l, xs, h, _⟩
        · rw [h]; exact .nil
        · rw [hn] at h; cases h
    · have ne : plKey q ≠ plKey p := fun e => c (plKey_inj e)
      rw [valV_put, if_neg ne]
      exact (S.get q).imp id fun ⟨l, xs, h1, h2, h3, h4⟩ => ⟨l, xs, h1, keep h2, h3, L2.Paired.mapP h4 fun _ _ y => y.tk tk⟩
  · rw [valV_put] at h1 h2
    by_cases c1 : plKey q = plKey p
    · by_cases c2 : plKey r = plKey p
      · exact plKey_inj (c1.trans c2.symm)
      · rw [if_pos c1] at h1
        rw [if_neg c2] at h2
        cases h1
        exact absurd rfl (zl r _ h2)
    · rw [if_neg c1] at h1
      by_cases c2 : plKey r = plKey p
      · rw [if_pos c2] at h2
        cases h2
        exact absurd rfl (zl q _ h1)
      · rw [if_neg c2] at h2
        exact S.inj q r l h1 h2
/-- a step more at a place -/
theorem Sx.app {H0 H : Hp} {d l : Addr} {kvs : List (List L2.Key × V)} {f : Pl → List Stp} {xs : List V} {v : V} {s : Stp} (S : Sx H0 H d kvs f) {p : Pl} (hv : valV kvs (plKey p) = some (.ref l)) (hl : H l = some (.lst xs)) (hs : StAt H v s) :
    Sx H0 (upd H l (.lst (xs ++ [v]))) d kvs (fun q => if q = p then f q ++ [s] else f q) := by
  have tk : Tk H (upd H l (.lst (xs ++ [v]))) := Tk.upd hl fun xs e => by cases e
  have dl : d ≠ l := fun e => by rw [← e, S.at_] at hl; cases hl
  have l0 : H0 l = none := by
    rcases S.get p with ⟨h, _⟩ | ⟨l', xs', h1, h2, h3, h4⟩
    · rw [hv] at h; cases h
    · rw [hv] at h1; cases h1; exact h3
  refine ⟨by rw [upd_ne dl]; exact S.at_, S.d0, fun q => ?_, S.inj, S.same.mut l0⟩
  by_cases c : q = p
  · subst c
    rw [if_pos rfl]
    rcases S.get q with ⟨h, _⟩ | ⟨l', xs', h1, h2, h3, h4⟩
    · rw [hv] at h; cases h
    · rw [hv] at h1
      cases h1
      rw [hl] at h2
      cases h2
      exact .inr ⟨l, _, hv, upd_same, l0, K3.Paired.app (L2.Paired.mapP h4 fun _ _ y => y.tk tk) (.cons (hs.tk tk) .nil)⟩
  · rw [if_neg c]
    refine (S.get q).imp id fun ⟨l', xs', h1, h2, h3, h4⟩ => ⟨l', xs', h1, ?_, h3, L2.Paired.mapP h4 fun _ _ y => y.tk tk⟩
    rw [upd_ne (fun e => c (S.inj q p l (by rw [← e]; exact h1) hv))]
    exact h2
theorem Sx.eq {H0 H : Hp} {d : Addr} {kvs : List (List L2.Key × V)} {f g : Pl → List Stp} (S : Sx H0 H d kvs f) (h : ∀ p, f p = g p) : Sx H0 H d kvs g := by
  have e : f = g := funext h
  rw [← e]
  exact S
theorem setd_go {K : PySem.W.Frag} {H0 H : Hp} {d : Addr} {kvs : List (List L2.Key × V)} {f : Pl → List Stp} (S : Sx H0 H d kvs f) {p : Pl} {v1 : V} (hp : PlAt H v1 p) {σ : L2.St} {J I : Nat} (σd : σ[J]? = some (some (.ref d))) (σp : σ[I]? = some (some v1)) (hk : kvs.length ≤ 1000) {ta : TA} {D : L2.Ends} (s : Stp)
    (hf : (f p).length ≤ 1000) (hta : ∀ H1 (Q : List V → Hp → Prop), Tk H H1 → (∀ v H2, Same H1 H2 → StAt H2 v s → Q [v] H2) → ta σ H1 Q)
    (k : ∀ H' kvs', Sx H0 H' d kvs' (fun q => if q = p then f q ++ [s] else f q) → kvs'.length ≤ kvs.length + 1 → Tk H H' → D.nx σ H') :
    tDrop (tBM K "list" rAppend (tSetdT (tVar J) (tVar I) (tLst tNil)) ta) D σ H := by
  obtain ⟨b, rfl, hb⟩ := hp
  have app : ∀ (H2 : Hp) (kvs2 : List (List L2.Key × V)) (l : Addr), Sx H0 H2 d kvs2 f → valV kvs2 (plKey p) = some (.ref l) → kvs2.length ≤ kvs.length + 1 → Tk H H2 → tyV K "list" (.ref l) H2 ∧ ta σ H2 fun xs H3 => rAppend (.ref l) xs H3 fun _ H4 => D.nx σ H4 := by
    intro H2 kvs2 l S2 hv hk2 tk2
    obtain ⟨xs, hl, hx⟩ : ∃ xs, H2 l = some (.lst xs) ∧ Paired (StAt H2) xs (f p) := by
      rcases S2.get p with ⟨h, _⟩ | ⟨l', xs, h1, h2, h3, h4⟩
      · rw [hv] at h; cases h
      · rw [hv] at h1; cases h1; exact ⟨xs, h2, h4⟩
    refine ⟨.inl ⟨rfl, _, SqL.of hl⟩, hta H2 _ tk2 fun v H3 e3 hs => ?_⟩
    have S3 := S2.more e3
    have hl3 := e3 _ _ hl
    refine ⟨l, xs, v, rfl, rfl, hl3, Nat.lt_of_le_of_lt (show xs.length ≤ 1000 by rw [hx.length]; exact hf) (by decide), ?_⟩
    exact k _ kvs2 (S3.app hv hl3 hs) hk2 (tk2.trans ((Tk.of e3).trans (Tk.upd hl3 fun xs e => by cases e)))
  refine w_drop ?_
  refine ⟨_, σd, d, rfl, .inr ⟨kvs, .inl S.at_⟩, b_var σp ?_⟩
  refine w_lst (w_nil ⟨Nat.zero_le _, fun z hz => ?_⟩)
  have e1 := Same.new hz (.lst [])
  have S1 := S.more e1
  refine ⟨kvs, plKey p, b, S1.at_, rfl, e1 _ _ hb, Nat.lt_of_le_of_lt hk (by decide), fun v hv => ?_, fun hn => ?_⟩
  · obtain ⟨l, rfl⟩ : ∃ l, v = .ref l := by
      rcases S1.get p with ⟨h, _⟩ | ⟨l', xs, h1, _⟩
      · rw [hv] at h; cases h
      · rw [hv] at h1; cases h1; exact ⟨_, rfl⟩
    exact app _ kvs l S1 hv (Nat.le_succ _) (Tk.of e1)
  · have zl : ∀ q l, valV kvs (plKey q) = some (.ref l) → l ≠ z := fun q l h e => by
      rcases S.get q with ⟨h0, _⟩ | ⟨l', xs, h1, h2, _⟩
      · rw [h] at h0; cases h0
      · rw [h] at h1; cases h1; rw [e, hz] at h2; cases h2
    have S2 := S1.key hn upd_same (S.same.free hz) zl
    have lk : (putK kvs (plKey p) (.ref z)).length ≤ kvs.length + 1 := by
      have := length_putK kvs (plKey p) (.ref z)
      omega
    exact app _ _ z S2 (by rw [valV_put, if_pos rfl]) lk ((Tk.of e1).trans (Tk.upd S1.at_ fun xs e => by cases e))
where b_var {σ : L2.St} {i : Nat} {v : V} {H : Hp} {Q : VK} (h : σ[i]? = some (some v)) (q : Q v H) : tVar i σ H Q := ⟨v, h, q⟩
def StepsAt (H : Hp) (d : Addr) (f : Pl → List Stp) : Prop := ∃ kvs, H d = some (.dT kvs) ∧ ∀ p, (valV kvs (plKey p) = none ∧ f p = []) ∨ ∃ l xs, valV kvs (plKey p) = some (.ref l) ∧ H l = some (.lst xs) ∧ Paired (StAt H) xs (f p)
def spSteps (K : PySem.W.Frag) : Sp := fun vs H Q _ => ∃ (g l : Addr) (rs : List Addr) (t : List (List Int)) (m n : Nat) (ws : List V) (cs : List (Nat × Nat)), vs = [.ref g, .ref l] ∧ GT K H g rs t ∧ Rect t m n ∧ 1 ≤ m ∧ 1 ≤ n ∧ H l = some (.lst ws) ∧ Paired (CellAt H) ws cs ∧ cs.length ≤ 100 ∧
  ∀ d H', Same H H' → H d = none → StepsAt H' d (stepsF m n cs) → (∀ kvs p l, H' d = some (.dT kvs) → valV kvs (plKey p) = some (.ref l) → H l = none) → Q (.ref d) H'
theorem steps_len (m n : Nat) (cs : List (Nat × Nat)) (p : Pl) : (stepsF m n cs p).length ≤ cs.length := List.length_filterMap_le _ _
section
variable {P : Program} {w : World} {K : PySem.W.Frag} {mg : Str → Option Value} {base : Heap}
theorem sc_steps_of : FnScope ["grid", "cells", "steps", "cell", "start", "goal"] ["grid", "cells"] (defScope s_steps_of) := ⟨rfl, rfl, rfl, by decide +kernel, rfl, by decide +kernel, by decide +kernel⟩
theorem ok_steps_of (T : Tx K mg) : Ok P w K mg base 3 (He.ga K "steps_of") ["grid", "cells"] (spSteps K) := by
  obtain ⟨fd, F⟩ := T.f_steps_of
  have Oarc_of := ok_arc_of (P := P) (w := w) (base := base) T
  refine ⟨fd, F.ok (k := 2) sc_steps_of (fun vs H Q E h => ?_) (fun cdv A outer s_ H vs Q E hr h => ?_), F.bindsN fun _ _ _ _ _ _ us hl => match us, hl with | [_, _], _ => rfl, F.kp⟩
  · obtain ⟨g, l, rs, t, m, n, ws, cs, rfl, ht, hR, m1, n1, hl, hw, hlen, q⟩ := h
    rfl
  obtain ⟨g, l, rs, t, m, n, ws, cs, rfl, ht, hR, m1, n1, hl, hw, hlen, q⟩ := h
  have hu65 := K3.Room.units65 hr
  have hu64 := Nat.lt_of_succ_lt hu65
  have hu0 := Nat.lt_of_le_of_lt (Nat.le_add_right _ 65) hu65
  have hu1 := Nat.lt_of_le_of_lt (Nat.add_le_add_left (show 1 ≤ 65 by decide) _) hu65
  have rarc_of : Room 2 _ := hr.mono (by decide)
  refine ⟨_, pss_cons (ps_set (i := 2) sc_steps_of.nd rfl (Or.inl rfl) pe_dnewT)
      (pss_cons (ps_for (passes_of rfl) (by rfl) (pi_list (pv 1)) (pg_name (i := 3) sc_steps_of.nd rfl (Or.inl rfl)) (pss_cons (ps_asg (pe_f Oarc_of rarc_of T.g_arc_of (pa_cons (pv 0) (pa_cons (pv 3) pa_nil))) (pg_tup (by rfl) (pgs_cons (pg_name (i := 4) sc_steps_of.nd rfl (Or.inl rfl)) (pgs_cons (pg_name (i := 5) sc_steps_of.nd rfl (Or.inl rfl)) pgs_nil))))
      (pss_cons (ps_expr (pe_bm PySem.F.plainAttrs_list PySem.F.slot_list_append PySem.F.type_list_append mt_append (pe_setdT hu1 (pv 2) (pv 4) (pe_lst pa_nil) ⟨rfl, rfl, rfl, rfl⟩) (pa_cons (pe_tup (pa_cons (pv 5) (pa_cons (pv 3) (pa_cons pe_int pa_nil)))) pa_nil)))
      (pss_one (ps_expr (pe_bm PySem.F.plainAttrs_list PySem.F.slot_list_append PySem.F.type_list_append mt_append (pe_setdT hu1 (pv 2) (pv 5) (pe_lst pa_nil) ⟨rfl, rfl, rfl, rfl⟩) (pa_cons (pe_tup (pa_cons (pv 4) (pa_cons (pv 3) (pa_cons (pe_un un_neg pe_int) pa_nil)))) pa_nil)))))))
      (pss_one (ps_ret (pv 2)))), ?_⟩
  have lw := hw.length
  walk_at "go"
  refine fun D hD => ?_
  have eD := Same.new hD (.dT [])
  walk_at "go"
  refine list_open ?_
  walk_at "go"
  refine ⟨l, rfl, ⟨_, SqL.of (eD _ _ hl)⟩, ?_⟩
  refine for_list (xs := ws) (fun (i : Nat) σ H' => ∃ (o3 o4 o5 : Option V) (kvs : List (List L2.Key × V)), σ = [some (.ref g), some (.ref l), some (.ref D), o3, o4, o5] ∧ Sx H H' D kvs (stepsF m n (cs.take i)) ∧ kvs.length ≤ 2 * i)
    ⟨none, none, none, [], rfl, ⟨upd_same, hD, fun p => .inl ⟨rfl, rfl⟩, fun p q l h => (by cases h), eD⟩, Nat.le_refl 0⟩ (fun i σ H' _ ⟨_, _, _, _, _, S, _⟩ => SqL.of (S.same _ _ hl)) ?_ ?_
  · rintro i x σ H1 hx ⟨o3, o4, o5, kvs, rfl, S, hk⟩
    obtain ⟨c, hc, hxc⟩ := K3.Paired.get hw hx
    have ic : i < cs.length := (List.getElem?_eq_some_iff.mp hc).1
    walk_at "go"
    refine ⟨g, x, rs, t, m, n, c, rfl, ht.same S.same, hR, m1, n1, hxc.same S.same, fun a H2 v1 v2 e2 ha p1 p2 => ?_⟩
    refine ⟨a, _, rfl, SqT.of ha, rfl, _, _, rfl, _, _, rfl, rfl, ?_⟩
    walk_at "go"
    have S2 := S.more e2
    have lf : ∀ p, (stepsF m n (cs.take i) p).length ≤ 1000 := fun p => by
      have := steps_len m n (cs.take i) p
      rw [List.length_take] at this
      omega
    refine setd_go S2 p1 (J := 2) (I := 4) rfl rfl (by omega) ⟨(arcF m n c).2, c, true⟩ (lf _) (fun H3 Q tk k => ?_) fun H3 kvs3 S3 hk3 tk3 => ?_
    · walk_at "go"
      refine ⟨(by show 3 ≤ sizeLine; decide), fun b hb => k (.ref b) _ (Same.new hb _) ?_⟩
      have eb := Same.new hb (.tup [v2, x, .int 1])
      exact ⟨b, v2, x, rfl, upd_same, (p2.tk tk).same eb, (((hxc.same S.same).same e2).tk tk).same eb⟩
    walk_at "go"
    refine setd_go S3 (p2.tk tk3) (J := 2) (I := 5) rfl rfl (by omega) ⟨(arcF m n c).1, c, false⟩ ?_ (fun H4 Q tk k => ?_) fun H4 kvs4 S4 hk4 tk4 => ?_
    · have := lf (arcF m n c).2
      split
      · rename_i h
        exact absurd h.symm (arc_ne m n c)
      · exact this
    · walk_at "go"
      refine ⟨1, rfl, ?_⟩
      walk_at "go"
      refine ⟨(by show 3 ≤ sizeLine; decide), fun b hb => k (.ref b) _ (Same.new hb _) ?_⟩
      have eb := Same.new hb (.tup [v1, x, .int (-1)])
      exact ⟨b, v1, x, rfl, upd_same, ((p1.tk tk3).tk tk).same eb, ((((hxc.same S.same).same e2).tk tk3).tk tk).same eb⟩
    refine ⟨_, _, _, kvs4, rfl, S4.eq fun p => ?_, by omega⟩
    rw [List.take_add_one, hc]
    show _ = stepsF m n (cs.take i ++ [c]) p
    rw [stepsF_snoc]
    have ne := arc_ne m n c
    by_cases h1 : (arcF m n c).1 = p
    · rw [if_pos h1.symm, if_neg (fun z => ne (h1.trans z)), if_pos h1]
    · rw [if_neg h1]
      by_cases h2 : (arcF m n c).2 = p
      · rw [if_pos h2.symm, if_neg (fun z => h1 z.symm), if_pos h2]
      · rw [if_neg (fun z => h2 z.symm), if_neg (fun z => h1 z.symm), if_neg h2, List.append_nil]
  · rintro σ H1 ⟨o3, o4, o5, kvs, rfl, S, hk⟩
    rw [lw, List.take_length] at S
    walk_at "go"
    refine q D H1 S.same hD ⟨kvs, S.at_, fun p => (S.get p).imp id fun ⟨l, xs, h1, h2, h3, h4⟩ => ⟨l, xs, h1, h2, h4⟩⟩ fun kvs' p l' h1 h2 => ?_
    rw [S.at_] at h1
    cases h1
    rcases S.get p with ⟨h, _⟩ | ⟨l2, xs, h, _, h3, _⟩
    · rw [h2] at h; cases h
    · rw [h2] at h; cases h; exact h3
end
end K3
end F2_part
section F3_part
set_option Elab.async false
set_option linter.all false
set_option maxRecDepth 100000
set_option maxHeartbeats 1000000
set_option pp.deepTerms.threshold 5
open PySem PySem.Spec PyProof.Rows L2
/-- go on as far as nothing is open -/
local macro_rules | `(tactic| walk_at "go") => `(tactic| repeat (first
  | with_reducible refine w_seq ?_ | with_reducible refine w_next ?_ | with_reducible refine w_set ?_ | with_reducible refine w_drop ?_ | with_reducible refine w_ret ?_ | with_reducible refine w_retN ?_
  | with_reducible refine w_if ?_ | ((with_reducible refine' w_var ?hv ?_); (case hv => exact rfl)) | with_reducible refine w_c ?_ | with_reducible refine w_nil ?_ | with_reducible refine w_cons ?_ | with_reducible refine w_op ?_ | with_reducible refine w_un ?_
  | with_reducible refine w_test ?_ | with_reducible refine w_tB ?_ | with_reducible refine w_not ?_ | with_reducible refine w_and ?_ | with_reducible refine w_or ?_ | with_reducible refine w_bl ?_
  | with_reducible refine w_andV ?_ | with_reducible refine w_orV ?_ | with_reducible refine w_notV ?_ | with_reducible refine w_ifE ?_ | with_reducible refine w_chain ?_ | with_reducible refine w_i0 ?_
  | with_reducible refine w_call ?_ | with_reducible refine w_callS ?_ | with_reducible refine w_cB ?_ | with_reducible refine w_tup ?_ | with_reducible refine w_lst ?_ | with_reducible refine w_fldV ?_
  | with_reducible refine w_neF ?_ | with_reducible refine w_neT ?_ | with_reducible refine w_notN ?_ | with_reducible refine w_isN ?_ | with_reducible refine w_gname ?_ | with_reducible refine w_gsub ?_ | with_reducible refine w_asg ?_ | with_reducible refine w_sl ?_ | with_reducible refine w_noP ?_ | with_reducible refine w_int1 ?_ | with_reducible refine w_part ?_ | with_reducible refine w_yes ?_ | with_reducible refine w_nT ?_ | with_reducible refine w_nF ?_ | with_reducible refine w_iteT ?_ | with_reducible refine w_iteF ?_))
namespace L2
open PySem PySem.Spec PyProof.Rows
/-- {k: v}, k a tuple of ints and texts; the new dict stands empty while the pair is made -/
def tDisp1 (tk tv : TE) : TE := fun σ H Q => ∀ p, H p = none → tk σ (upd H p (.dT [])) fun x H1 => tv σ H1 fun y H2 => ∃ (ks : List L2.Key) (b : Addr), x = .ref b ∧ H2 p = some (.dT []) ∧ H2 b = some (.tup (ks.map kV)) ∧ Q (.ref p) (upd H2 p (.dT [(ks, y)]))
theorem pe_disp1 {X : Cx} {pos : Pos} {k v : Expr} {tk tv : TE} (hu : X.A.units + 1 < cLine) (hk : PE X k tk) (hv : PE X v tv) : PE X (.Dict [some k] [v] pos) (tDisp1 tk tv) := by
  refine ⟨fun pins s σ H Q I q => ?_⟩
  have hn := I.hok.fresh (Nat.le_refl s.heap.objs.size)
  have I1 := I.laid (t' := s.toks) (fun _ _ z => Heap.get?_push_of_some _ z) (Nat.le_refl _) (dt_empty (P := X.prog) (w := X.w) s.heap I.big)
  have sh := zip_pairTrees [some k] [v] X.env pos rfl rfl
  have ln : (pairTrees [some k] [v] X.env pos).length = 1 := pairTrees_length [some k] [v] X.env pos rfl rfl
  rw [arm_eval_Dict, sh, dictDisplay_pairs _ (fun e => by rw [e] at ln; cases ln) (by rw [ln]; decide)]
  refine wpAny_bind (wpAny_standAt (wpAny_bind ?_))
  refine wpAny_subDictH (knd := tupleKind (mixKind X.prog X.w)) (Q := fun d s' => wpAny (model X.prog X.w) X.A (pure (Value.ref d)) (EP X pins σ Q) X.xe s') ?_ (by rw [ln]; decide) ?_
  · exact Nat.lt_of_succ_lt hu
  refine pairTrees_cons_walk (thn (hk.run pins _ σ _ _ I1 (q _ hn)) fun kv s1 ⟨x, H1, J1, r1, q1⟩ => thn (hv.run pins s1 σ H1 _ J1 q1) fun vv s2 ⟨y, H2, J2, r2, ks, b, ex, e2, eb, q2⟩ => pairTrees_nil_walk ?_)
  subst ex
  obtain rfl : kv = Value.ref b := r1
  obtain ⟨z1, z2, xs, rel, dd⟩ := dt_of J2.hok e2
  cases rel
  refine ⟨[(ks, b, vv)], ⟨rfl, rfl, key_of J2.hok eb, trivial⟩, dd, fun h' tk' dd' hs => wpAny_pure ⟨.ref s.heap.objs.size, _, ?_, rfl, q2⟩⟩
  obtain ⟨o, es, ep, g1, g2, g3, g4, _, g5⟩ := dd'
  refine d_write J2 (by rw [e2]; exact True.intro) hs ⟨o, g1⟩ ⟨by show 1 ≤ sizeLine; decide, z2, _, .cons ⟨rfl, ?_, r2⟩ .nil, o, es, ep, g1, g2, g3, g4, g5⟩
  rw [upd_ne (ne_of eb e2 (fun z => nomatch z))]
  exact eb
end L2
end F3_part
section F4_part
set_option Elab.async false
set_option linter.all false
set_option maxRecDepth 100000
set_option maxHeartbeats 1000000
set_option pp.deepTerms.threshold 5
open PySem PySem.Spec PyProof.Rows L2
/-- go on as far as nothing is open -/
local macro_rules | `(tactic| walk_at "go") => `(tactic| repeat (first
  | with_reducible refine w_seq ?_ | with_reducible refine w_next ?_ | with_reducible refine w_set ?_ | with_reducible refine w_drop ?_ | with_reducible refine w_ret ?_ | with_reducible refine w_retN ?_
  | with_reducible refine w_if ?_ | ((with_reducible refine' w_var ?hv ?_); (case hv => exact rfl)) | with_reducible refine w_c ?_ | with_reducible refine w_nil ?_ | with_reducible refine w_cons ?_ | with_reducible refine w_op ?_ | with_reducible refine w_un ?_
  | with_reducible refine w_test ?_ | with_reducible refine w_tB ?_ | with_reducible refine w_not ?_ | with_reducible refine w_and ?_ | with_reducible refine w_or ?_ | with_reducible refine w_bl ?_
  | with_reducible refine w_andV ?_ | with_reducible refine w_orV ?_ | with_reducible refine w_notV ?_ | with_reducible refine w_ifE ?_ | with_reducible refine w_chain ?_ | with_reducible refine w_i0 ?_
  | with_reducible refine w_call ?_ | with_reducible refine w_callS ?_ | with_reducible refine w_cB ?_ | with_reducible refine w_tup ?_ | with_reducible refine w_lst ?_ | with_reducible refine w_fldV ?_
  | with_reducible refine w_neF ?_ | with_reducible refine w_neT ?_ | with_reducible refine w_notN ?_ | with_reducible refine w_isN ?_ | with_reducible refine w_gname ?_ | with_reducible refine w_gsub ?_ | with_reducible refine w_asg ?_ | with_reducible refine w_sl ?_ | with_reducible refine w_noP ?_ | with_reducible refine w_int1 ?_ | with_reducible refine w_part ?_ | with_reducible refine w_yes ?_ | with_reducible refine w_nT ?_ | with_reducible refine w_nF ?_ | with_reducible refine w_iteT ?_ | with_reducible refine w_iteF ?_))
namespace K3
abbrev Came := List (Pl × Option Stp)
def keysOf (c : Came) : List Pl := c.map (·.1)
def visit1 (u : List (List Int)) (p : Pl) (came : Came) (s : Stp) : Came := if s.to ∉ keysOf came ∧ (s.up = true ∨ 0 < at2 u s.c.1 s.c.2) then came ++ [(s.to, some ⟨p, s.c, s.up⟩)] else came
def visit (u : List (List Int)) (p : Pl) (came : Came) (ss : List Stp) : Came := ss.foldl (visit1 u p) came
def bfs (u : List (List Int)) (f : Pl → List Stp) : Nat → Nat → Came → Came
  | 0, _, came => came
  | k + 1, i, came => match came[i]? with
    | none => came
    | some (p, _) => bfs u f k (i + 1) (visit u p came (f p))
def waysF (u : List (List Int)) (f : Pl → List Stp) (N : Nat) (start : Pl) : Came := bfs u f N 0 [(start, none)]
/-! ### in the heap -/
def CEv (H : Hp) (v : V) : Option Stp → Prop
  | none => v = .non
  | some s => StAt H v s
theorem CEv.tk {H H' : Hp} (e : Tk H H') {v : V} : ∀ {o : Option Stp}, CEv H v o → CEv H' v o
  | none, h => h
  | some _, h => StAt.tk e h
def CE (H : Hp) (kv : List L2.Key × V) (q : Pl × Option Stp) : Prop := kv.1 = plKey q.1 ∧ CEv H kv.2 q.2
def CameAt (H : Hp) (d : Addr) (came : Came) : Prop := ∃ kvs, H d = some (.dT kvs) ∧ Paired (CE H) kvs came
theorem came_get {H : Hp} : ∀ {kvs : List (List L2.Key × V)} {came : Came}, Paired (CE H) kvs came → ∀ p, (p ∉ keysOf came ∧ valV kvs (plKey p) = none) ∨ ∃ i o v, came[i]? = some (p, o) ∧ (∀ (j : Nat) (q : Pl × Option Stp), j < i → came[j]? = some q → q.1 ≠ p) ∧ valV kvs (plKey p) = some v ∧ CEv H v o
  | _, _, .nil, p => .inl ⟨fun h => (by cases h), rfl⟩
  | _, _, .cons (a := kv) (b := q) h t, p => by
    by_cases e : q.1 = p
    · refine .inr ⟨0, q.2, kv.2, ?_, fun j r hj => absurd hj (Nat.not_lt_zero _), ?_, h.2⟩
      · rw [← e]; rfl
      · rw [valV_pos (by rw [h.1, e])]
    · have ne : ¬ kv.1 = plKey p := fun z => e (plKey_inj (h.1.symm.trans z))
      rw [valV_neg ne]
      rcases came_get t p with ⟨h1, h2⟩ | ⟨i, o, v, h1, h2, h3, h4⟩
      · refine .inl ⟨fun z => ?_, h2⟩
        rcases List.mem_cons.mp z with z | z
        · exact e z.symm
        · exact h1 z
      · refine .inr ⟨i + 1, o, v, h1, fun j r hj hr => ?_, h3, h4⟩
        cases j with
        | zero =>
          have : q = r := by simpa using hr
          rw [← this]
          exact e
        | succ j => exact h2 j r (by omega) (by simpa using hr)
theorem CE.tk {H H' : Hp} (e : Tk H H') {kv : List L2.Key × V} {q : Pl × Option Stp} (h : CE H kv q) : CE H' kv q := ⟨h.1, h.2.tk e⟩
theorem came_len {H : Hp} {kvs : List (List L2.Key × V)} {came : Came} (h : Paired (CE H) kvs came) : kvs.length = came.length := h.length
theorem put_new {kvs : List (List L2.Key × V)} {k : List L2.Key} {v : V} (h : valV kvs k = none) : putK kvs k v = kvs ++ [(k, v)] := by
  unfold putK
  rw [if_neg]
  rw [valV_any, h]
  simp
/-- a flow: its cell, its numbers (a table), its steps -/
structure FlowAt (K : PySem.W.Frag) (H : Hp) (F : Addr) (c : Nat × Nat) (np : Addr) (rs : List Addr) (u : List (List Int)) (m n : Nat) (f : Pl → List Stp) : Prop where
  ob : ∃ dx vc d kvs, H F = some (.ins (He.ga K "Flow") dx [("cell", vc), ("numbers", .ref np), ("steps", .ref d)]) ∧ CellAt H vc c ∧ H d = some (.dT kvs) ∧ ∀ p, (valV kvs (plKey p) = none ∧ f p = []) ∨ ∃ l xs, valV kvs (plKey p) = some (.ref l) ∧ H l = some (.lst xs) ∧ l ∉ rs ∧ Paired (StAt H) xs (f p)
  tab : Tab H np rs u
  rect : Rect u m n
  nd : rs.Nodup
  ne : np ∉ rs
theorem FlowAt.same {K : PySem.W.Frag} {H H' : Hp} {F : Addr} {c : Nat × Nat} {np : Addr} {rs : List Addr} {u : List (List Int)} {m n : Nat} {f : Pl → List Stp} (h : FlowAt K H F c np rs u m n f) (e : Same H H') : FlowAt K H' F c np rs u m n f := by
  obtain ⟨⟨dx, vc, d, kvs, h1, h2, h3, h4⟩, h5, h6, h7, h8⟩ := h
  exact ⟨⟨dx, vc, d, kvs, e _ _ h1, h2.same e, e _ _ h3, fun p => (h4 p).imp id fun ⟨l, xs, a, b, c, d⟩ => ⟨l, xs, a, e _ _ b, c, L2.Paired.mapP d fun _ _ z => z.same e⟩⟩, h5.same e, h6, h7, h8⟩
/-- what the steps of a flow on an m by n table are like -/
structure StepsOk (m n : Nat) (f : Pl → List Stp) : Prop where
  len : ∀ p, (f p).length ≤ 100
  cell : ∀ p, ∀ s ∈ f p, s.c.1 < m ∧ s.c.2 < n
  place : ∀ p, ∀ s ∈ f p, s.to.2 < (if s.to.1 then m else n)
def spWays (K : PySem.W.Frag) : Sp := fun vs H Q _ => ∃ (F : Addr) (v : V) (c : Nat × Nat) (np : Addr) (rs : List Addr) (u : List (List Int)) (m n : Nat) (f : Pl → List Stp) (start : Pl), vs = [.ref F, v] ∧ FlowAt K H F c np rs u m n f ∧ StepsOk m n f ∧ m ≤ 60 ∧ n ≤ 60 ∧ PlAt H v start ∧ start.2 < (if start.1 then m else n) ∧
  ∀ d H', Same H H' → H d = none → CameAt H' d (waysF u f (m + n + 1) start) → Q (.ref d) H'
def slotNat (i : Nat) (σ : L2.St) : Nat := match σ[i]? with
  | some (some (V.int j)) => j.toNat
  | _ => 0
/-! ### what a search keeps -/
structure CameOk (m n : Nat) (came : Came) : Prop where
  nd : (keysOf came).Nodup
  place : ∀ p ∈ keysOf came, p.2 < (if p.1 then m else n)
def allPl (m n : Nat) : List Pl := (List.range m).map (fun i => (true, i)) ++ (List.range n).map fun j => (false, j)
theorem allPl_mem {m n : Nat} {p : Pl} (h : p.2 < (if p.1 then m else n)) : p ∈ allPl m n := by
  obtain ⟨b, i⟩ := p
  unfold allPl
  cases b with
  | true => exact List.mem_append_left _ (List.mem_map.mpr ⟨i, List.mem_range.mpr (by simpa using h), rfl⟩)
  | false => exact List.mem_append_right _ (List.mem_map.mpr ⟨i, List.mem_range.mpr (by simpa using h), rfl⟩)
theorem nodup_len {α : Type} [DecidableEq α] : ∀ {l k : List α}, l.Nodup → (∀ x ∈ l, x ∈ k) → l.length ≤ k.length
  | [], _, _, _ => Nat.zero_le _
  | x :: l, k, nd, h => by
    have hx := h x (List.mem_cons_self ..)
    obtain ⟨n1, n2⟩ := List.nodup_cons.mp nd
    have ih := nodup_len (l := l) (k := k.erase x) n2 fun y hy => (List.mem_erase_of_ne (fun z => n1 (by rw [← z]; exact hy))).mpr (h y (List.mem_cons_of_mem _ hy))
    rw [List.length_erase_of_mem hx] at ih
    have := List.length_pos_of_mem hx
    rw [List.length_cons]
    omega
theorem CameOk.len {m n : Nat} {came : Came} (h : CameOk m n came) : came.length ≤ m + n := by
  have := nodup_len (k := allPl m n) h.nd fun p hp => allPl_mem (h.place p hp)
  unfold keysOf allPl at this
  simpa using this
theorem CameOk.visit1 {m n : Nat} {u : List (List Int)} {p : Pl} {came : Came} {s : Stp} (h : CameOk m n came) (hs : s.to.2 < (if s.to.1 then m else n)) : CameOk m n (visit1 u p came s) := by
  unfold K3.visit1
  split
  · rename_i c
    have e : keysOf (came ++ [(s.to, some ⟨p, s.c, s.up⟩)]) = keysOf came ++ [s.to] := by unfold keysOf; rw [List.map_append]; rfl
    refine ⟨by rw [e]; exact nodup_snoc h.nd c.1, fun q hq => ?_⟩
    rw [e] at hq
    rcases List.mem_append.mp hq with hq | hq
    · exact h.place q hq
    · rw [List.mem_singleton.mp hq]; exact hs
  · exact h
theorem visit1_pre {u : List (List Int)} {p : Pl} {came : Came} {s : Stp} : ∃ more, visit1 u p came s = came ++ more := by
  unfold visit1
  split
  · exact ⟨_, rfl⟩
  · exact ⟨[], (List.append_nil _).symm⟩
theorem visit_pre {u : List (List Int)} {p : Pl} : ∀ {ss : List Stp} {came : Came}, ∃ more, visit u p came ss = came ++ more
  | [], came => ⟨[], (List.append_nil _).symm⟩
  | s :: ss, came => by
    obtain ⟨m1, h1⟩ := visit1_pre (u := u) (p := p) (came := came) (s := s)
    obtain ⟨m2, h2⟩ := visit_pre (u := u) (p := p) (ss := ss) (came := visit1 u p came s)
    refine ⟨m1 ++ m2, ?_⟩
    show visit u p (visit1 u p came s) ss = _
    rw [h2, h1, List.append_assoc]
theorem visit_snoc {u : List (List Int)} {p : Pl} {came : Came} {ss : List Stp} {s : Stp} : visit u p came (ss ++ [s]) = visit1 u p (visit u p came ss) s := by
  unfold visit
  rw [List.foldl_append]
  rfl
theorem CameOk.visit {m n : Nat} {u : List (List Int)} {p : Pl} {came : Came} (h : CameOk m n came) : ∀ {ss : List Stp}, (∀ s ∈ ss, s.to.2 < (if s.to.1 then m else n)) → CameOk m n (visit u p came ss) := by
  intro ss
  induction ss generalizing came with
  | nil => intro _; exact h
  | cons s ss ih =>
    intro hs
    show CameOk m n (K3.visit u p (K3.visit1 u p came s) ss)
    exact ih (h.visit1 (hs s (List.mem_cons_self ..))) fun t ht => hs t (List.mem_cons_of_mem _ ht)
section
variable {P : Program} {w : World} {K : PySem.W.Frag} {mg : Str → Option Value} {base : Heap}
theorem sc_ways_from : FnScope ["flow", "start", "came", "waiting", "at", "place", "goal", "cell", "sign"] ["flow", "start"] (defScope s_ways_from) := ⟨rfl, rfl, rfl, by decide +kernel, rfl, by decide +kernel, by decide +kernel⟩
theorem ok_ways_from (T : Tx K mg) : Ok P w K mg base 2 (He.ga K "ways_from") ["flow", "start"] (spWays K) := by
  obtain ⟨fd, F⟩ := T.f_ways_from
  have Onumber_at := ok_number_at (P := P) (w := w) (base := base) T
  refine ⟨fd, F.ok (k := 1) sc_ways_from (fun vs H Q E h => ?_) (fun cdv A outer s_ H vs Q E hr h => ?_), F.bindsN fun _ _ _ _ _ _ us hl => match us, hl with | [_, _], _ => rfl, F.kp⟩
  · obtain ⟨F, v, c, np, rs, u, m, n, f, start, rfl, hF, hS, m60, n60, hv, hst, q⟩ := h
    rfl
  obtain ⟨F, v, c, np, rs, u, m, n, f, start, rfl, hF, hS, m60, n60, hv, hst, q⟩ := h
  have hu65 := K3.Room.units65 hr
  have hu64 := Nat.lt_of_succ_lt hu65
  have hu0 := Nat.lt_of_le_of_lt (Nat.le_add_right _ 65) hu65
  have hu1 := Nat.lt_of_le_of_lt (Nat.add_le_add_left (show 1 ≤ 65 by decide) _) hu65
  have rnumber_at : Room 1 _ := hr.mono (by decide)
  refine ⟨_, pss_cons (ps_set (i := 2) sc_ways_from.nd rfl (Or.inl rfl) (pe_disp1 hu1 (pv 1) pe_non))
      (pss_cons (ps_set (i := 3) sc_ways_from.nd rfl (Or.inl rfl) (pe_lst (pa_cons (pv 1) pa_nil)))
      (pss_cons (ps_set (i := 4) sc_ways_from.nd rfl (Or.inl rfl) pe_int)
      (pss_cons (ps_while (passes_of rfl) (pt_cmpR op_lt (pv 4) (pe_callB call_len_seq (by rfl) T.z_len PySem.boot_len (pa_cons (pv 3) pa_nil)) (nomark _)) (pss_cons (ps_set (i := 5) sc_ways_from.nd rfl (Or.inl rfl) (pe_ix ix_list (pv 3) (pv 4) (fun _ _ => rfl)))
      (pss_cons (ps_aug (i := 4) sc_ways_from.nd rfl (Or.inl rfl) pe_int ip_add)
      (pss_one (ps_for (passes_of rfl) (by rfl) (pi_list (pe_dget2 hu1 (pe_fld (pv 0) rfl) (pv 5) (pe_lst pa_nil) ⟨rfl, rfl, rfl, rfl⟩)) (pg_tup (by rfl) (pgs_cons (pg_name (i := 6) sc_ways_from.nd rfl (Or.inl rfl)) (pgs_cons (pg_name (i := 7) sc_ways_from.nd rfl (Or.inl rfl)) (pgs_cons (pg_name (i := 8) sc_ways_from.nd rfl (Or.inl rfl)) pgs_nil)))) (pss_one (ps_if (pw_and (pt_cmp (pc_dnotin hu1 (pv 6) (pv 2))) (pw_and1 (pw_or (pt_cmpR op_gt (pv 8) pe_int (nomark _)) (pw_or1 (pt_cmpR op_gt (pe_f Onumber_at rnumber_at T.g_number_at (pa_cons (pe_fld (pv 0) rfl) (pa_cons (pv 7) pa_nil))) pe_int (nomark _)))).pt)).pt (pss_cons (ps_dput hu1 (pv 2) (pv 6) (pe_tup (pa_cons (pv 5) (pa_cons (pv 7) (pa_cons (pv 8) pa_nil)))) rfl)
      (pss_one (ps_expr (pe_bm PySem.F.plainAttrs_list PySem.F.slot_list_append PySem.F.type_list_append mt_append (pv 3) (pa_cons (pv 6) pa_nil))))) pss_nil)))))))
      (pss_one (ps_ret (pv 2)))))), ?_⟩
  obtain ⟨⟨dx, vc, sd, skv, hob, hvc, hsd, hget⟩, htab, hrect, hnd, hne⟩ := hF
  have hFl : FlowAt K H F c np rs u m n f := ⟨⟨dx, vc, sd, skv, hob, hvc, hsd, hget⟩, htab, hrect, hnd, hne⟩
  obtain ⟨b0, rfl, hb0⟩ := hv
  walk_at "go"
  refine fun d hd => ?_
  have e1 := Same.new hd (.dT [])
  walk_at "go"
  refine ⟨plKey start, b0, rfl, upd_same, e1 _ _ hb0, ?_⟩
  have e2 : Same H (upd (upd H d (.dT [])) d (.dT [(plKey start, .non)])) := e1.mut hd
  have h2 : (upd (upd H d (.dT [])) d (.dT [(plKey start, .non)])) d = some (.dT [(plKey start, .non)]) := upd_same
  generalize upd (upd H d (.dT [])) d (.dT [(plKey start, .non)]) = H2 at e2 h2 ⊢
  walk_at "go"
  refine ⟨(by show 1 ≤ sizeLine; decide), fun w hw => ?_⟩
  have e3 := Same.new hw (.lst [V.ref b0])
  have h3 : (upd H2 w (.lst [V.ref b0])) w = some (.lst [V.ref b0]) := upd_same
  have h3d := e3 _ _ h2
  generalize upd H2 w (.lst [V.ref b0]) = H3 at e3 h3 h3d ⊢
  have w0 : H w = none := e2.free hw
  have dw : d ≠ w := fun e => by rw [← e, h2] at hw; cases hw
  walk_at "go"
  refine while_by (fun σ H' => ∃ (i : Nat) (o5 o6 o7 o8 : Option V) (came : Came) (ws : List V), σ = [some (.ref F), some (.ref b0), some (.ref d), some (.ref w), some (.int (i : Int)), o5, o6, o7, o8] ∧ Same H H' ∧ CameAt H' d came ∧ H' w = some (.lst ws) ∧ Paired (PlAt H') ws (keysOf came) ∧ CameOk m n came ∧ i ≤ came.length ∧ bfs u f (m + n + 1 - i) i came = waysF u f (m + n + 1) start)
    (fun σ _ => m + n + 1 - slotNat 4 σ)
    ⟨0, none, none, none, none, [(start, none)], [.ref b0], rfl, e2.trans e3, ⟨_, h3d, .cons ⟨rfl, rfl⟩ .nil⟩, h3, .cons ⟨b0, rfl, (e2.trans e3) _ _ hb0⟩ .nil, ⟨by simp [keysOf], fun p hp => by rw [List.mem_singleton.mp hp]; exact hst⟩, Nat.zero_le _, rfl⟩ ?_ (fun σ H Q Q' k h => by
      obtain ⟨v, h1, w, h2, p, ys, h3, h4, i, j, h5, h6, b, h7, h8⟩ := h
      exact ⟨v, h1, w, h2, p, ys, h3, h4, i, j, h5, h6, b, h7, k _ _ h8⟩)
  rintro σ H4 ⟨i, o5, o6, o7, o8, came, ws, rfl, e4, hcame, hw4, hws, hok, hi, hb⟩
  have hlen := hok.len
  have lws : ws.length = came.length := by rw [hws.length]; unfold keysOf; rw [List.length_map]
  walk_at "go"
  refine ⟨w, ws, rfl, .inl (SqL.of hw4), ?_⟩
  walk_at "go"
  rw [lws]
  by_cases ci : (i : Int) < (came.length : Int)
  · rw [decide_eq_true ci]
    have ci' : i < came.length := by omega
    walk_at "go"
    obtain ⟨p, op, hp⟩ : ∃ p op, came[i]? = some (p, op) := ⟨_, _, List.getElem?_eq_getElem ci'⟩
    have hk : (keysOf came)[i]? = some p := by unfold keysOf; rw [List.getElem?_map, hp]; rfl
    obtain ⟨vp, hvp⟩ : ∃ vp, ws[i]? = some vp := ⟨_, List.getElem?_eq_getElem (by omega)⟩
    obtain ⟨p', hp', hvpl⟩ := K3.Paired.get hws hvp
    obtain rfl : p = p' := Option.some.inj (hk.symm.trans hp')
    refine w_ixL hw4 (atI_nat hvp) ?_
    walk_at "go"
    refine ⟨.int (i : Int), rfl, ?_⟩
    refine ⟨_, _, rfl, rfl, ?_⟩
    walk_at "go"
    dsimp only
    refine list_open ?_
    refine ⟨_, rfl, ?_⟩
    refine ⟨F, _, dx, _, _, rfl, e4 _ _ hob, T.cl_Flow, T.n_Flow_steps, rfl, ?_⟩
    refine ⟨sd, rfl, .inr ⟨skv, .inl (e4 _ _ hsd)⟩, ?_⟩
    walk_at "go"
    refine ⟨Nat.zero_le _, fun z hz => ?_⟩
    have e5 := Same.new hz (.lst [])
    have hz5 : (upd H4 z (.lst [])) z = some (.lst []) := upd_same
    generalize upd H4 z (.lst []) = H5 at e5 hz5 ⊢
    have e45 := e4.trans e5
    have hcame5 : CameAt H5 d came := by
      obtain ⟨kvs, h1, h2⟩ := hcame
      exact ⟨kvs, e5 _ _ h1, L2.Paired.mapP h2 fun _ _ y => y.tk (Tk.of e5)⟩
    have hw5 := e5 _ _ hw4
    have hws5 := L2.Paired.mapP hws fun _ _ y => PlAt.same e5 y
    obtain ⟨ap, rfl, hap⟩ := hvpl
    have hap5 := e5 _ _ hap
    obtain ⟨L, xs, hLv, hL, hLx, Ld, Lw⟩ : ∃ L xs, (valV skv (plKey p)).getD (.ref z) = .ref L ∧ H5 L = some (.lst xs) ∧ Paired (StAt H5) xs (f p) ∧ L ≠ d ∧ L ≠ w := by
      rcases hget p with ⟨h1, h2⟩ | ⟨l, xs, h1, h2, h3, h4⟩
      · refine ⟨z, [], by rw [h1]; rfl, hz5, by rw [h2]; exact .nil, fun e => ?_, fun e => ?_⟩
        · obtain ⟨kvs, k1, _⟩ := hcame
          rw [← e, hz] at k1
          cases k1
        · rw [← e, hz] at hw4; cases hw4
      · exact ⟨l, xs, by rw [h1]; rfl, e45 _ _ h2, L2.Paired.mapP h4 fun _ _ y => y.same e45, ne_of_none h2 hd, ne_of_none h2 w0⟩
    refine ⟨valV skv (plKey p), DGet.t (e45 _ _ hsd) hap5, ?_⟩
    rw [hLv]
    refine ⟨L, rfl, ⟨_, SqL.of hL⟩, ?_⟩
    refine for_list (xs := xs) (fun (j : Nat) σ H' => ∃ (o6 o7 o8 : Option V) (ws' : List V), σ = [some (.ref F), some (.ref b0), some (.ref d), some (.ref w), some (.int ((i : Int) + 1)), some (.ref ap), o6, o7, o8] ∧ Same H H' ∧ Tk H5 H' ∧ H' L = some (.lst xs) ∧ CameAt H' d (visit u p came ((f p).take j)) ∧ H' w = some (.lst ws') ∧ Paired (PlAt H') ws' (keysOf (visit u p came ((f p).take j))))
      ⟨o6, o7, o8, ws, rfl, e45, Tk.refl _, hL, hcame5, hw5, hws5⟩ (fun j σ H' _ ⟨_, _, _, _, _, _, _, h, _⟩ => SqL.of h) ?_ ?_
    · rintro j x σ H6 hx ⟨o6, o7, o8, ws', rfl, e6, tk6, hL6, hcame6, hw6, hws6⟩
      obtain ⟨s, hs, hsx⟩ := K3.Paired.get hLx hx
      have hsm : s ∈ f p := List.mem_of_getElem? hs
      obtain ⟨sc1, sc2⟩ := hS.cell p s hsm
      have hok6 : CameOk m n (visit u p came ((f p).take j)) := hok.visit fun t ht => hS.place p t (List.mem_of_mem_take ht)
      obtain ⟨a, vg, vcc, rfl, ha, hvg, hvcc⟩ := hsx.tk tk6
      obtain ⟨ag, rfl, hag⟩ := hvg
      refine ⟨a, _, rfl, SqT.of ha, rfl, _, _, rfl, _, _, rfl, _, _, rfl, rfl, ?_⟩
      have htake : (f p).take (j + 1) = (f p).take j ++ [s] := by rw [List.take_add_one, hs]; rfl
      obtain ⟨kvs, hkv, hkp⟩ := hcame6
      have lk := came_len hkp
      have ll := hok6.len
      generalize hcm : visit u p came ((f p).take j) = cm at hkp hws6 hok6 lk ll
      have next : visit u p came ((f p).take (j + 1)) = visit1 u p cm s := by rw [htake, visit_snoc, hcm]
      have stay : visit1 u p cm s = cm → ∃ (o6 o7 o8 : Option V) (ws' : List V), [some (V.ref F), some (.ref b0), some (.ref d), some (.ref w), some (.int ((i : Int) + 1)), some (.ref ap), some (.ref ag), some vcc, some (.int (sgn s.up))] = [some (.ref F), some (.ref b0), some (.ref d), some (.ref w), some (.int ((i : Int) + 1)), some (.ref ap), o6, o7, o8] ∧ Same H H6 ∧ Tk H5 H6 ∧ H6 L = some (.lst xs) ∧ CameAt H6 d (visit u p came ((f p).take (j + 1))) ∧ H6 w = some (.lst ws') ∧ Paired (PlAt H6) ws' (keysOf (visit u p came ((f p).take (j + 1)))) := fun e => by
        rw [next, e]
        exact ⟨_, _, _, ws', rfl, e6, tk6, hL6, ⟨kvs, hkv, hkp⟩, hw6, hws6⟩
      refine w_ifR (fun b H' => H' = H6 ∧ b = decide (s.to ∉ keysOf cm ∧ (s.up = true ∨ 0 < at2 u s.c.1 s.c.2))) (fun QB kQ => ?_) (fun H' hR => ?_) (fun H' hR => ?_)
      · walk_at "go"
        refine ⟨_, rfl, _, rfl, d, valV kvs (plKey s.to), rfl, DGet.t hkv hag, ?_⟩
        rcases came_get hkp s.to with ⟨hn, hv⟩ | ⟨i', o, v, h1, h2, h3, h4⟩
        · rw [hv]
          refine ⟨true, rfl, ?_⟩
          walk_at "go"
          cases hup : s.up with
          | true =>
            rw [show decide (sgn true > 0) = true from rfl]
            walk_at "go"
            exact kQ _ _ ⟨rfl, (decide_eq_true (by rw [hup]; exact ⟨hn, .inl rfl⟩)).symm⟩
          | false =>
            rw [show decide (sgn false > 0) = false from rfl]
            walk_at "go"
            refine ⟨F, _, dx, _, _, rfl, e6 _ _ hob, T.cl_Flow, T.n_Flow_numbers, rfl, ?_⟩
            walk_at "go"
            refine ⟨np, vcc, rs, u, m, n, s.c.1, s.c.2, rfl, (htab.same e6).gt, hrect, hvcc, sc1, sc2, ?_⟩
            walk_at "go"
            refine kQ _ _ ⟨rfl, decide_eq_decide.mpr ?_⟩
            constructor
            · exact fun z => ⟨hn, .inr z⟩
            · rintro ⟨_, z | z⟩
              · rw [hup] at z; cases z
              · exact z
        · rw [h3]
          refine ⟨false, rfl, ?_⟩
          walk_at "go"
          refine kQ _ _ ⟨rfl, (decide_eq_false fun z => z.1 ?_).symm⟩
          unfold keysOf
          exact List.mem_map.mpr ⟨_, List.mem_of_getElem? h1, rfl⟩
      · obtain ⟨rfl, hc⟩ := hR
        have hc := of_decide_eq_true hc.symm
        have hn : valV kvs (plKey s.to) = none := by
          rcases came_get hkp s.to with ⟨_, hv⟩ | ⟨i', o, v, h1, h2, h3, h4⟩
          · exact hv
          · refine absurd ?_ hc.1
            unfold keysOf
            exact List.mem_map.mpr ⟨_, List.mem_of_getElem? h1, rfl⟩
        have hv1 : visit1 u p cm s = cm ++ [(s.to, some ⟨p, s.c, s.up⟩)] := by
          unfold visit1
          rw [if_pos hc]
        have hks : keysOf (cm ++ [(s.to, some ⟨p, s.c, s.up⟩)]) = keysOf cm ++ [s.to] := by
          unfold keysOf
          rw [List.map_append]
          rfl
        refine w_seq ?_
        refine w_tup (w_cons (w_var rfl (w_cons (w_var rfl (w_cons (w_var rfl (w_nil ⟨by show 3 ≤ sizeLine; decide, fun t ht => ?_⟩)))))))
        have e7 := Same.new ht (.tup [V.ref ap, vcc, .int (sgn s.up)])
        have h7 : (upd H' t (.tup [V.ref ap, vcc, .int (sgn s.up)])) t = some (.tup [V.ref ap, vcc, .int (sgn s.up)]) := upd_same
        generalize upd H' t (.tup [V.ref ap, vcc, .int (sgn s.up)]) = H7 at e7 h7 ⊢
        refine ⟨_, rfl, _, rfl, d, _, rfl, DPut.t (e7 _ _ hkv) (e7 _ _ hag) (Nat.lt_of_le_of_lt (show kvs.length ≤ 200 by omega) (by decide)), ?_⟩
        rw [put_new hn]
        have tk8 : Tk H7 (upd H7 d (.dT (kvs ++ [(plKey s.to, .ref t)]))) := Tk.upd (e7 _ _ hkv) fun xs e => by cases e
        have hd8 : (upd H7 d (.dT (kvs ++ [(plKey s.to, .ref t)]))) d = some (.dT (kvs ++ [(plKey s.to, .ref t)])) := upd_same
        have hw8 : (upd H7 d (.dT (kvs ++ [(plKey s.to, .ref t)]))) w = some (.lst ws') := by rw [upd_ne dw.symm]; exact e7 _ _ hw6
        have hL8 : (upd H7 d (.dT (kvs ++ [(plKey s.to, .ref t)]))) L = some (.lst xs) := by rw [upd_ne Ld]; exact e7 _ _ hL6
        have e8 : Same H (upd H7 d (.dT (kvs ++ [(plKey s.to, .ref t)]))) := (e6.trans e7).mut hd
        generalize upd H7 d (.dT (kvs ++ [(plKey s.to, .ref t)])) = H8 at tk8 hd8 hw8 hL8 e8 ⊢
        walk_at "go"
        refine ⟨_, rfl, .inl ⟨rfl, _, SqL.of hw8⟩, ?_⟩
        walk_at "go"
        have lws' : ws'.length = cm.length := by rw [hws6.length]; unfold keysOf; rw [List.length_map]
        refine ⟨w, ws', _, rfl, rfl, hw8, Nat.lt_of_le_of_lt (show ws'.length ≤ 200 by omega) (by decide), ?_⟩
        have tk9 : Tk H8 (upd H8 w (.lst (ws' ++ [.ref ag]))) := Tk.upd hw8 fun xs e => by cases e
        have tk69 := (Tk.of e7).trans (tk8.trans tk9)
        rw [next, hv1]
        refine ⟨_, _, _, ws' ++ [.ref ag], rfl, e8.mut w0, tk6.trans tk69, by rw [upd_ne Lw]; exact hL8, ⟨_, by rw [upd_ne dw]; exact hd8, K3.Paired.app (L2.Paired.mapP hkp fun _ _ y => y.tk tk69) (.cons ⟨rfl, ?_⟩ .nil)⟩, upd_same, ?_⟩
        · exact ⟨t, .ref ap, vcc, rfl, (tk8.trans tk9) _ _ h7, ⟨ap, rfl, (tk6.trans tk69) _ _ hap5⟩, hvcc.tk tk69⟩
        · rw [hks]
          exact K3.Paired.app (L2.Paired.mapP hws6 fun _ _ y => PlAt.tk tk69 y) (.cons ⟨ag, rfl, tk69 _ _ hag⟩ .nil)
      · obtain ⟨rfl, hc⟩ := hR
        have hc := of_decide_eq_false hc.symm
        refine w_next ?_
        refine stay ?_
        unfold visit1
        rw [if_neg hc]
    · rintro σ H6 ⟨o6, o7, o8, ws', rfl, e6, tk6, hL6, hcame6, hw6, hws6⟩
      rw [hLx.length, List.take_length] at hcame6 hws6
      have hok6 : CameOk m n (visit u p came (f p)) := hok.visit fun t ht => hS.place p t ht
      obtain ⟨more, hmore⟩ := visit_pre (u := u) (p := p) (ss := f p) (came := came)
      refine ⟨⟨i + 1, _, _, _, _, visit u p came (f p), ws', rfl, e6, hcame6, hw6, hws6, hok6, by rw [hmore, List.length_append]; omega, ?_⟩, ?_⟩
      · rw [← hb]
        obtain ⟨k, hk⟩ : ∃ k, m + n + 1 - i = k + 1 := ⟨m + n - i, by omega⟩
        rw [hk, show m + n + 1 - (i + 1) = k by omega]
        show _ = bfs u f (k + 1) i came
        unfold bfs
        rw [hp]
        cases k <;> rfl
      · show m + n + 1 - ((i : Int) + 1).toNat < m + n + 1 - ((i : Int)).toNat
        omega
  · rw [decide_eq_false ci]
    walk_at "go"
    obtain rfl : i = came.length := by omega
    have : bfs u f (m + n + 1 - came.length) came.length came = came := by
      obtain ⟨k, hk⟩ : ∃ k, m + n + 1 - came.length = k + 1 := ⟨m + n - came.length, by omega⟩
      rw [hk]
      unfold bfs
      rw [List.getElem?_eq_none (Nat.le_refl _)]
    rw [this] at hb
    rw [hb] at hcame
    exact q d H4 e4 hd hcame
end
end K3
end F4_part
section F5_part
set_option Elab.async false
set_option linter.all false
set_option maxRecDepth 100000
set_option maxHeartbeats 1000000
set_option pp.deepTerms.threshold 5
open PySem PySem.Spec PyProof.Rows L2
/-- go on as far as nothing is open -/
local macro_rules | `(tactic| walk_at "go") => `(tactic| repeat (first
  | with_reducible refine w_seq ?_ | with_reducible refine w_next ?_ | with_reducible refine w_set ?_ | with_reducible refine w_drop ?_ | with_reducible refine w_ret ?_ | with_reducible refine w_retN ?_
  | with_reducible refine w_if ?_ | ((with_reducible refine' w_var ?hv ?_); (case hv => exact rfl)) | with_reducible refine w_c ?_ | with_reducible refine w_nil ?_ | with_reducible refine w_cons ?_ | with_reducible refine w_op ?_ | with_reducible refine w_un ?_
  | with_reducible refine w_test ?_ | with_reducible refine w_tB ?_ | with_reducible refine w_not ?_ | with_reducible refine w_and ?_ | with_reducible refine w_or ?_ | with_reducible refine w_bl ?_
  | with_reducible refine w_andV ?_ | with_reducible refine w_orV ?_ | with_reducible refine w_notV ?_ | with_reducible refine w_ifE ?_ | with_reducible refine w_chain ?_ | with_reducible refine w_i0 ?_
  | with_reducible refine w_call ?_ | with_reducible refine w_callS ?_ | with_reducible refine w_cB ?_ | with_reducible refine w_tup ?_ | with_reducible refine w_lst ?_ | with_reducible refine w_fldV ?_
  | with_reducible refine w_neF ?_ | with_reducible refine w_neT ?_ | with_reducible refine w_notN ?_ | with_reducible refine w_isN ?_ | with_reducible refine w_gname ?_ | with_reducible refine w_gsub ?_ | with_reducible refine w_asg ?_ | with_reducible refine w_sl ?_ | with_reducible refine w_noP ?_ | with_reducible refine w_int1 ?_ | with_reducible refine w_part ?_ | with_reducible refine w_yes ?_ | with_reducible refine w_nT ?_ | with_reducible refine w_nF ?_ | with_reducible refine w_iteT ?_ | with_reducible refine w_iteF ?_))
namespace K3
abbrev Way := List ((Nat × Nat) × Bool)
def WayAt (H : Hp) (v : V) (q : (Nat × Nat) × Bool) : Prop := ∃ a vc, v = .ref a ∧ H a = some (.tup [vc, .int (sgn q.2)]) ∧ CellAt H vc q.1
theorem WayAt.tk {H H' : Hp} (e : Tk H H') {v : V} {q : (Nat × Nat) × Bool} (h : WayAt H v q) : WayAt H' v q := let ⟨a, vc, h1, h2, h3⟩ := h; ⟨a, vc, h1, e _ _ h2, h3.tk e⟩
def lookC (came : Came) (p : Pl) : Option Stp := (came.find? fun q => decide (q.1 = p)).bind (·.2)
def wayI (came : Came) : Nat → Option Stp → Way
  | 0, _ => []
  | _ + 1, none => []
  | k + 1, some s => (s.c, s.up) :: wayI came k (lookC came s.to)
def wayF (came : Came) (g : Pl) : Way := wayI came (came.length + 1) (lookC came g)
/-- each step in came leads back to a place that came ahead -/
def Tree (came : Came) : Prop := ∀ (i : Nat) (p : Pl) (s : Stp), came[i]? = some (p, some s) → ∃ (j : Nat) (o : Option Stp), j < i ∧ came[j]? = some (s.to, o)
theorem look_at {came : Came} (nd : (keysOf came).Nodup) {i : Nat} {p : Pl} {o : Option Stp} (h : came[i]? = some (p, o)) : lookC came p = o := by
  unfold lookC
  induction came generalizing i with
  | nil => simp at h
  | cons q came ih =>
    obtain ⟨n1, n2⟩ := List.nodup_cons.mp nd
    cases i with
    | zero =>
      have e : q = (p, o) := by simpa using h
      subst e
      rw [List.find?_cons_of_pos (by simp)]
      rfl
    | succ i =>
      have h : came[i]? = some (p, o) := by simpa using h
      have ne : q.1 ≠ p := fun e => n1 (by show q.1 ∈ _; rw [e]; exact List.mem_map.mpr ⟨_, List.mem_of_getElem? h, rfl⟩)
      rw [List.find?_cons_of_neg (by simpa using ne)]
      exact ih n2 h
theorem way_fuel {came : Came} (nd : (keysOf came).Nodup) (ht : Tree came) : ∀ (i : Nat) {p : Pl} {o : Option Stp} {k k' : Nat}, came[i]? = some (p, o) → i < k → i < k' → wayI came k o = wayI came k' o := by
  intro i
  induction i using Nat.strongRecOn with
  | _ i ih =>
    intro p o k k' h hk hk'
    obtain ⟨k, rfl⟩ : ∃ j, k = j + 1 := ⟨k - 1, by omega⟩
    obtain ⟨k', rfl⟩ : ∃ j, k' = j + 1 := ⟨k' - 1, by omega⟩
    cases o with
    | none => rfl
    | some s =>
      obtain ⟨j, o, hj, hj2⟩ := ht i p s h
      show _ :: _ = _ :: _
      rw [look_at nd hj2, ih j hj hj2 (by omega) (show j < k' by omega)]
theorem came_at {H : Hp} {kvs : List (List L2.Key × V)} {came : Came} (hp : Paired (CE H) kvs came) (nd : (keysOf came).Nodup) {i : Nat} {p : Pl} {o : Option Stp} (h : came[i]? = some (p, o)) : ∃ v, valV kvs (plKey p) = some v ∧ CEv H v o := by
  rcases came_get hp p with ⟨h1, _⟩ | ⟨i', o', v, h1, h2, h3, h4⟩
  · exact absurd (List.mem_map.mpr ⟨_, List.mem_of_getElem? h, rfl⟩) h1
  · have e1 := look_at nd h
    have e2 := look_at nd h1
    rw [e1] at e2
    rw [e2]
    exact ⟨v, h3, h4⟩
def spWay (K : PySem.W.Frag) : Sp := fun vs H Q _ => ∃ (d : Addr) (v : V) (came : Came) (g : Pl), vs = [.ref d, v] ∧ CameAt H d came ∧ PlAt H v g ∧ (keysOf came).Nodup ∧ Tree came ∧ came.length ≤ 1000 ∧ g ∈ keysOf came ∧
  ∀ w H' ws, Same H H' → H w = none → H' w = some (.lst ws) → Paired (WayAt H') ws (wayF came g) → Q (.ref w) H'
def WtInv (H : Hp) (came : Came) (d ag w : Addr) (g : Pl) (k : Nat) (σ : L2.St) (H' : Hp) : Prop := ∃ (i : Nat) (p : Pl) (o : Option Stp) (v : V) (o4 o5 o6 : Option V) (ws : List V) (acc : Way), k = i + (if o.isSome then 1 else 0) ∧ σ = [some (.ref d), some (.ref ag), some (.ref w), some v, o4, o5, o6] ∧ Same H H' ∧ H' w = some (.lst ws) ∧ Paired (WayAt H') ws acc ∧ came[i]? = some (p, o) ∧ CEv H' v o ∧ acc ++ wayI came (i + 1) o = wayF came g ∧ acc.length + i ≤ came.length
section
variable {P : Program} {w : World} {K : PySem.W.Frag} {mg : Str → Option Value} {base : Heap}
theorem sc_way_to : FnScope ["came", "goal", "way", "step", "place", "cell", "sign"] ["came", "goal"] (defScope s_way_to) := ⟨rfl, rfl, rfl, by decide +kernel, rfl, by decide +kernel, by decide +kernel⟩
theorem ok_way_to (T : Tx K mg) : Ok P w K mg base 1 (He.ga K "way_to") ["came", "goal"] (spWay K) := by
  obtain ⟨fd, F⟩ := T.f_way_to
  refine ⟨fd, F.ok (k := 0) sc_way_to (fun vs H Q E h => ?_) (fun cdv A outer s_ H vs Q E hr h => ?_), F.bindsN fun _ _ _ _ _ _ us hl => match us, hl with | [_, _], _ => rfl, F.kp⟩
  · obtain ⟨d, v, came, g, rfl, ⟨kvs, hkv, hkp⟩, ⟨ag, rfl, hag⟩, nd, tree, len, hg, q⟩ := h
    rfl
  obtain ⟨d, v, came, g, rfl, ⟨kvs, hkv, hkp⟩, ⟨ag, rfl, hag⟩, nd, tree, len, hg, q⟩ := h
  have hu65 := K3.Room.units65 hr
  have hu64 := Nat.lt_of_succ_lt hu65
  have hu0 := Nat.lt_of_le_of_lt (Nat.le_add_right _ 65) hu65
  have hu1 := Nat.lt_of_le_of_lt (Nat.add_le_add_left (show 1 ≤ 65 by decide) _) hu65
  refine ⟨_, pss_cons (ps_set (i := 2) sc_way_to.nd rfl (Or.inl rfl) (pe_lst pa_nil))
      (pss_cons (ps_set (i := 3) sc_way_to.nd rfl (Or.inl rfl) (pe_dget hu1 (pv 0) (pv 1) (fun _ _ => rfl)))
      (pss_cons (ps_while (passes_of rfl) (pt_cmp (pc_notN (pv 3))) (pss_cons (ps_asg (pv 3) (pg_tup (by rfl) (pgs_cons (pg_name (i := 4) sc_way_to.nd rfl (Or.inl rfl)) (pgs_cons (pg_name (i := 5) sc_way_to.nd rfl (Or.inl rfl)) (pgs_cons (pg_name (i := 6) sc_way_to.nd rfl (Or.inl rfl)) pgs_nil)))))
      (pss_cons (ps_expr (pe_bm PySem.F.plainAttrs_list PySem.F.slot_list_append PySem.F.type_list_append mt_append (pv 2) (pa_cons (pe_tup (pa_cons (pv 5) (pa_cons (pv 6) pa_nil))) pa_nil)))
      (pss_one (ps_set (i := 3) sc_way_to.nd rfl (Or.inl rfl) (pe_dget hu1 (pv 0) (pv 4) (fun _ _ => rfl)))))))
      (pss_one (ps_ret (pv 2))))), ?_⟩
  walk_at "go"
  refine ⟨Nat.zero_le _, fun w hw => ?_⟩
  have e1 := Same.new hw (.lst [])
  have h1 : (upd H w (.lst [])) w = some (.lst []) := upd_same
  generalize upd H w (.lst []) = H1 at e1 h1 ⊢
  obtain ⟨i0, o0, hi0⟩ : ∃ i o, came[i]? = some (g, o) := by
    obtain ⟨⟨p, o⟩, hq, rfl⟩ := List.mem_map.mp hg
    obtain ⟨i, hi⟩ := List.getElem?_of_mem hq
    exact ⟨i, o, hi⟩
  obtain ⟨v0, hv0, hc0⟩ := came_at hkp nd hi0
  have hil : i0 < came.length := (List.getElem?_eq_some_iff.mp hi0).1
  walk_at "go"
  refine ⟨_, rfl, _, rfl, d, v0, rfl, by rw [← hv0]; exact DGet.t (e1 _ _ hkv) (e1 _ _ hag), ?_⟩
  walk_at "go"
  refine ⟨WtInv H came d ag w g, ⟨_, i0, g, o0, v0, none, none, none, [], [], rfl, rfl, e1, h1, .nil, hi0, hc0.tk (Tk.of e1), ?_, by show 0 + i0 ≤ came.length; omega⟩, ?_⟩
  · show wayI came (i0 + 1) o0 = wayI came (came.length + 1) (lookC came g)
    rw [look_at nd hi0]
    exact way_fuel nd tree i0 hi0 (Nat.lt_succ_self _) (by omega)
  rintro k σ H2 ⟨i, p, o, v, o4, o5, o6, ws, acc, rfl, rfl, e2, hw2, hws, hi, hc, hacc, hlen⟩
  walk_at "go"
  cases o with
  | none =>
    obtain rfl : v = .non := hc
    rw [show (!decide ((V.non : V) = V.non)) = false from rfl]
    walk_at "go"
    have e : acc = wayF came g := by rw [← hacc]; exact (List.append_nil _).symm
    rw [e] at hws
    exact q w H2 ws e2 hw hw2 hws
  | some s =>
    obtain ⟨a, vg, vc, rfl, ha, ⟨ag2, rfl, hag2⟩, hvc⟩ := hc
    rw [show (!decide (V.ref a = V.non)) = true by rw [decide_eq_false (fun z => by cases z)]; rfl]
    refine iteT ?_
    refine ⟨fun σ' H' => ∃ m', m' < i + 1 ∧ WtInv H came d ag w g m' σ' H', fun _ _ h => h, ?_⟩
    walk_at "go"
    refine ⟨a, _, rfl, SqT.of ha, rfl, _, _, rfl, _, _, rfl, _, _, rfl, rfl, ?_⟩
    walk_at "go"
    refine ⟨_, rfl, .inl ⟨rfl, _, SqL.of hw2⟩, ?_⟩
    walk_at "go"
    refine ⟨(by show 2 ≤ sizeLine; decide), fun t ht => ?_⟩
    have e3 := Same.new ht (.tup [vc, .int (sgn s.up)])
    have h3 : (upd H2 t (.tup [vc, .int (sgn s.up)])) t = some (.tup [vc, .int (sgn s.up)]) := upd_same
    generalize upd H2 t (.tup [vc, .int (sgn s.up)]) = H3 at e3 h3 ⊢
    have hw3 := e3 _ _ hw2
    have lws := hws.length
    refine ⟨w, ws, _, rfl, rfl, hw3, Nat.lt_of_le_of_lt (show ws.length ≤ 1000 by omega) (by decide), ?_⟩
    have tk4 : Tk H3 (upd H3 w (.lst (ws ++ [.ref t]))) := Tk.upd hw3 fun xs e => by cases e
    have e4 : Same H (upd H3 w (.lst (ws ++ [.ref t]))) := (e2.trans e3).mut hw
    have tk24 := (Tk.of e3).trans tk4
    have h4 : (upd H3 w (.lst (ws ++ [.ref t]))) w = some (.lst (ws ++ [.ref t])) := upd_same
    generalize upd H3 w (.lst (ws ++ [.ref t])) = H4 at tk4 e4 tk24 h4 ⊢
    obtain ⟨j, o', hj, hj2⟩ := tree i p s hi
    obtain ⟨v', hv', hc'⟩ := came_at hkp nd hj2
    walk_at "go"
    refine ⟨_, rfl, _, rfl, d, v', rfl, by rw [← hv']; exact DGet.t (e4 _ _ hkv) (tk24 _ _ hag2), ?_⟩
    refine ⟨_, ?_, j, s.to, o', v', _, _, _, _, acc ++ [(s.c, s.up)], rfl, rfl, e4, h4, K3.Paired.app (L2.Paired.mapP hws fun _ _ y => y.tk tk24) (.cons ⟨t, vc, rfl, tk4 _ _ h3, hvc.tk tk24⟩ .nil), hj2, hc'.tk (Tk.of e4), ?_, by rw [List.length_append]; show acc.length + 1 + j ≤ _; omega⟩
    · split <;> omega
    · rw [← hacc, List.append_assoc]
      congr 1
      show (s.c, s.up) :: wayI came (j + 1) o' = (s.c, s.up) :: wayI came i (lookC came s.to)
      rw [look_at nd hj2, way_fuel nd tree j hj2 (Nat.lt_succ_self _) hj]
end
end K3
end F5_part
section F6_part
set_option Elab.async false
set_option linter.all false
set_option maxRecDepth 100000
set_option maxHeartbeats 1000000
set_option pp.deepTerms.threshold 5
open PySem PySem.Spec PyProof.Rows L2
/-- go on as far as nothing is open -/
local macro_rules | `(tactic| walk_at "go") => `(tactic| repeat (first
  | with_reducible refine w_seq ?_ | with_reducible refine w_next ?_ | with_reducible refine w_set ?_ | with_reducible refine w_drop ?_ | with_reducible refine w_ret ?_ | with_reducible refine w_retN ?_
  | with_reducible refine w_if ?_ | ((with_reducible refine' w_var ?hv ?_); (case hv => exact rfl)) | with_reducible refine w_c ?_ | with_reducible refine w_nil ?_ | with_reducible refine w_cons ?_ | with_reducible refine w_op ?_ | with_reducible refine w_un ?_
  | with_reducible refine w_test ?_ | with_reducible refine w_tB ?_ | with_reducible refine w_not ?_ | with_reducible refine w_and ?_ | with_reducible refine w_or ?_ | with_reducible refine w_bl ?_
  | with_reducible refine w_andV ?_ | with_reducible refine w_orV ?_ | with_reducible refine w_notV ?_ | with_reducible refine w_ifE ?_ | with_reducible refine w_chain ?_ | with_reducible refine w_i0 ?_
  | with_reducible refine w_call ?_ | with_reducible refine w_callS ?_ | with_reducible refine w_cB ?_ | with_reducible refine w_tup ?_ | with_reducible refine w_lst ?_ | with_reducible refine w_fldV ?_
  | with_reducible refine w_neF ?_ | with_reducible refine w_neT ?_ | with_reducible refine w_notN ?_ | with_reducible refine w_isN ?_ | with_reducible refine w_gname ?_ | with_reducible refine w_gsub ?_ | with_reducible refine w_asg ?_ | with_reducible refine w_sl ?_ | with_reducible refine w_noP ?_ | with_reducible refine w_int1 ?_ | with_reducible refine w_part ?_ | with_reducible refine w_yes ?_ | with_reducible refine w_nT ?_ | with_reducible refine w_nF ?_ | with_reducible refine w_iteT ?_ | with_reducible refine w_iteF ?_))
namespace K3
/-! ### what a search finds -/
def res (u : List (List Int)) (s : Stp) : Prop := s.up = true ∨ 0 < at2 u s.c.1 s.c.2
structure WOk (m n : Nat) (u : List (List Int)) (f : Pl → List Stp) (start : Pl) (came : Came) : Prop where
  ok : CameOk m n came
  zero : came[0]? = some (start, none)
  step : ∀ (i : Nat) (p : Pl) (s : Stp), came[i]? = some (p, some s) → (∃ (j : Nat) (o : Option Stp), j < i ∧ came[j]? = some (s.to, o)) ∧ res u s ∧ (⟨p, s.c, s.up⟩ : Stp) ∈ f s.to
  first : ∀ (i : Nat) (p : Pl), came[i]? = some (p, none) → i = 0
theorem WOk.tree {m n : Nat} {u : List (List Int)} {f : Pl → List Stp} {start : Pl} {came : Came} (h : WOk m n u f start came) : Tree came := fun i p s e => (h.step i p s e).1
theorem pre_at {α : Type} {l k : List α} {i : Nat} {x : α} (h : l[i]? = some x) : (l ++ k)[i]? = some x := by
  rw [List.getElem?_append_left (List.getElem?_eq_some_iff.mp h).1]
  exact h
theorem visit1_ok {m n : Nat} {u : List (List Int)} {f : Pl → List Stp} {start p : Pl} {came : Came} {i : Nat} {o : Option Stp} {s : Stp} (h : WOk m n u f start came) (hi : came[i]? = some (p, o)) (hs : s ∈ f p) (hp : s.to.2 < (if s.to.1 then m else n)) :
    WOk m n u f start (visit1 u p came s) ∧ (res u s → s.to ∈ keysOf (visit1 u p came s)) := by
  by_cases c : s.to ∉ keysOf came ∧ (s.up = true ∨ 0 < at2 u s.c.1 s.c.2)
  · have e : visit1 u p came s = came ++ [(s.to, some ⟨p, s.c, s.up⟩)] := by unfold visit1; rw [if_pos c]
    have ok := h.ok.visit1 (u := u) (p := p) hp
    rw [e] at ok ⊢
    have last : ∀ (j : Nat) (x : Pl × Option Stp), (came ++ [(s.to, some ⟨p, s.c, s.up⟩)])[j]? = some x → came[j]? = some x ∨ (j = came.length ∧ x = (s.to, some ⟨p, s.c, s.up⟩)) := by
      intro j x hx
      by_cases q : j < came.length
      · rw [List.getElem?_append_left q] at hx
        exact .inl hx
      · rw [List.getElem?_append_right (by omega)] at hx
        have : j - came.length = 0 := by
          have := (List.getElem?_eq_some_iff.mp hx).1
          simp at this
          omega
        rw [this] at hx
        exact .inr ⟨by omega, (Option.some.inj hx).symm⟩
    refine ⟨⟨ok, pre_at h.zero, fun j q t hj => ?_, fun j q hj => ?_⟩, fun _ => ?_⟩
    · rcases last j _ hj with hj | ⟨rfl, hx⟩
      · obtain ⟨⟨j', o', h1, h2⟩, h3, h4⟩ := h.step j q t hj
        exact ⟨⟨j', o', h1, pre_at h2⟩, h3, h4⟩
      · cases hx
        exact ⟨⟨i, o, (List.getElem?_eq_some_iff.mp hi).1, pre_at hi⟩, c.2, hs⟩
    · rcases last j _ hj with hj | ⟨rfl, hx⟩
      · exact h.first j q hj
      · cases hx
    · unfold keysOf
      rw [List.map_append]
      exact List.mem_append_right _ (List.mem_singleton.mpr rfl)
  · have e : visit1 u p came s = came := by unfold visit1; rw [if_neg c]
    rw [e]
    refine ⟨h, fun r => ?_⟩
    by_cases k : s.to ∈ keysOf came
    · exact k
    · exact absurd ⟨k, r⟩ c
theorem visit_ok {m n : Nat} {u : List (List Int)} {f : Pl → List Stp} {start p : Pl} {i : Nat} {o : Option Stp} (hS : StepsOk m n f) : ∀ {ss : List Stp} {came : Came}, WOk m n u f start came → came[i]? = some (p, o) → (∀ s ∈ ss, s ∈ f p) →
    WOk m n u f start (visit u p came ss) ∧ ∀ s ∈ ss, res u s → s.to ∈ keysOf (visit u p came ss)
  | [], came, h, _, _ => ⟨h, fun s hs => (by cases hs)⟩
  | s :: ss, came, h, hi, hm => by
    have hs := hm s (List.mem_cons_self ..)
    obtain ⟨h1, h2⟩ := visit1_ok h hi hs (hS.place p s hs)
    obtain ⟨m1, e1⟩ := visit1_pre (u := u) (p := p) (came := came) (s := s)
    obtain ⟨m2, e2⟩ := visit_pre (u := u) (p := p) (ss := ss) (came := visit1 u p came s)
    obtain ⟨h3, h4⟩ := visit_ok hS (ss := ss) h1 (by rw [e1]; exact pre_at hi) fun t ht => hm t (List.mem_cons_of_mem _ ht)
    refine ⟨h3, fun t ht r => ?_⟩
    rcases List.mem_cons.mp ht with rfl | ht
    · show t.to ∈ keysOf (visit u p (visit1 u p came t) ss)
      rw [e2]
      unfold keysOf
      rw [List.map_append]
      exact List.mem_append_left _ (h2 r)
    · exact h4 t ht r
theorem bfs_ok {m n : Nat} {u : List (List Int)} {f : Pl → List Stp} {start : Pl} (hS : StepsOk m n f) : ∀ (k i : Nat) (came : Came), WOk m n u f start came → i ≤ came.length → m + n < k + i → (∀ (j : Nat) (p : Pl) (o : Option Stp), j < i → came[j]? = some (p, o) → ∀ s ∈ f p, res u s → s.to ∈ keysOf came) →
    WOk m n u f start (bfs u f k i came) ∧ ∀ p ∈ keysOf (bfs u f k i came), ∀ s ∈ f p, res u s → s.to ∈ keysOf (bfs u f k i came)
  | 0, i, came, h, hi, hk, _ => by
    have := h.ok.len
    omega
  | k + 1, i, came, h, hi, hk, hc => by
    unfold bfs
    cases e : came[i]? with
    | none =>
      show WOk m n u f start came ∧ ∀ p ∈ keysOf came, ∀ s ∈ f p, res u s → s.to ∈ keysOf came
      refine ⟨h, fun p hp s hs r => ?_⟩
      obtain ⟨⟨q, o⟩, hq, rfl⟩ := List.mem_map.mp hp
      obtain ⟨j, hj⟩ := List.getElem?_of_mem hq
      have jl := (List.getElem?_eq_some_iff.mp hj).1
      have := List.getElem?_eq_none_iff.mp e
      exact hc j q o (by omega) hj s hs r
    | some q =>
      obtain ⟨p, o⟩ := q
      obtain ⟨h1, h2⟩ := visit_ok hS h e (ss := f p) fun s hs => hs
      obtain ⟨more, em⟩ := visit_pre (u := u) (p := p) (ss := f p) (came := came)
      have il := (List.getElem?_eq_some_iff.mp e).1
      refine bfs_ok hS k (i + 1) _ h1 (by rw [em, List.length_append]; omega) (by omega) fun j q o' hj hq s hs r => ?_
      by_cases z : j = i
      · subst z
        rw [em, pre_at e] at hq
        cases hq
        exact h2 s hs r
      · have jl : j < came.length := by omega
        rw [em, List.getElem?_append_left jl] at hq
        have := hc j q o' (by omega) hq s hs r
        rw [em]
        unfold keysOf
        rw [List.map_append]
        exact List.mem_append_left _ this
theorem ways_ok {m n : Nat} {u : List (List Int)} {f : Pl → List Stp} {start : Pl} (hS : StepsOk m n f) (hst : start.2 < (if start.1 then m else n)) :
    WOk m n u f start (waysF u f (m + n + 1) start) ∧ ∀ p ∈ keysOf (waysF u f (m + n + 1) start), ∀ s ∈ f p, res u s → s.to ∈ keysOf (waysF u f (m + n + 1) start) := by
  have h0 : WOk m n u f start [(start, none)] := by
    refine ⟨⟨by simp [keysOf], fun p hp => by rw [List.mem_singleton.mp hp]; exact hst⟩, rfl, fun i p s h => ?_, fun i p h => ?_⟩
    · cases i with
      | zero => cases h
      | succ i => simp at h
    · cases i with
      | zero => rfl
      | succ i => simp at h
  exact bfs_ok hS _ 0 _ h0 (Nat.zero_le _) (by omega) fun j p o hj => absurd hj (Nat.not_lt_zero _)
/-! ### the way found -/
/-- a way from start to p along residual steps -/
inductive Path (u : List (List Int)) (f : Pl → List Stp) (start : Pl) : Pl → Way → Prop
  | nil : Path u f start start []
  | step {p : Pl} {s : Stp} {w : Way} : s ∈ f p → res u s → Path u f start p w → Path u f start s.to ((s.c, s.up) :: w)
theorem way_path {m n : Nat} {u : List (List Int)} {f : Pl → List Stp} {start : Pl} {came : Came} (h : WOk m n u f start came) : ∀ (i k : Nat) (p : Pl) (o : Option Stp), came[i]? = some (p, o) → i < k → Path u f start p (wayI came k o) := by
  intro i
  induction i using Nat.strongRecOn with
  | _ i ih =>
    intro k p o hi hk
    obtain ⟨k, rfl⟩ : ∃ j, k = j + 1 := ⟨k - 1, by omega⟩
    cases o with
    | none =>
      have := h.first i p hi
      subst this
      rw [h.zero] at hi
      cases hi
      exact .nil
    | some s =>
      obtain ⟨⟨j, o', hj, hj2⟩, hr, hm⟩ := h.step i p s hi
      show Path u f start p ((s.c, s.up) :: wayI came k (lookC came s.to))
      rw [look_at h.ok.nd hj2]
      exact Path.step (s := ⟨p, s.c, s.up⟩) hm hr (ih j hj k s.to o' hj2 (by omega))
theorem wayF_path {m n : Nat} {u : List (List Int)} {f : Pl → List Stp} {start g : Pl} {came : Came} (h : WOk m n u f start came) (hg : g ∈ keysOf came) : Path u f start g (wayF came g) := by
  obtain ⟨⟨p, o⟩, hq, rfl⟩ := List.mem_map.mp hg
  obtain ⟨i, hi⟩ := List.getElem?_of_mem hq
  unfold wayF
  rw [look_at h.ok.nd hi]
  have := (List.getElem?_eq_some_iff.mp hi).1
  exact way_path h i _ _ o hi (by omega)
theorem path_res {u : List (List Int)} {f : Pl → List Stp} {start p : Pl} {w : Way} (h : Path u f start p w) : ∀ q ∈ w, q.2 = false → 0 < at2 u q.1.1 q.1.2 := by
  induction h with
  | nil => intro q hq; cases hq
  | step hs hr _ ih =>
    intro q hq e
    rcases List.mem_cons.mp hq with rfl | hq
    · rcases hr with hr | hr
      · rw [hr] at e; cases e
      · exact hr
    · exact ih q hq e
end K3
end F6_part
section F7_part
set_option Elab.async false
set_option linter.all false
set_option maxRecDepth 100000
set_option maxHeartbeats 1000000
set_option pp.deepTerms.threshold 5
open PySem PySem.Spec PyProof.Rows L2
/-- go on as far as nothing is open -/
local macro_rules | `(tactic| walk_at "go") => `(tactic| repeat (first
  | with_reducible refine w_seq ?_ | with_reducible refine w_next ?_ | with_reducible refine w_set ?_ | with_reducible refine w_drop ?_ | with_reducible refine w_ret ?_ | with_reducible refine w_retN ?_
  | with_reducible refine w_if ?_ | ((with_reducible refine' w_var ?hv ?_); (case hv => exact rfl)) | with_reducible refine w_c ?_ | with_reducible refine w_nil ?_ | with_reducible refine w_cons ?_ | with_reducible refine w_op ?_ | with_reducible refine w_un ?_
  | with_reducible refine w_test ?_ | with_reducible refine w_tB ?_ | with_reducible refine w_not ?_ | with_reducible refine w_and ?_ | with_reducible refine w_or ?_ | with_reducible refine w_bl ?_
  | with_reducible refine w_andV ?_ | with_reducible refine w_orV ?_ | with_reducible refine w_notV ?_ | with_reducible refine w_ifE ?_ | with_reducible refine w_chain ?_ | with_reducible refine w_i0 ?_
  | with_reducible refine w_call ?_ | with_reducible refine w_callS ?_ | with_reducible refine w_cB ?_ | with_reducible refine w_tup ?_ | with_reducible refine w_lst ?_ | with_reducible refine w_fldV ?_
  | with_reducible refine w_neF ?_ | with_reducible refine w_neT ?_ | with_reducible refine w_notN ?_ | with_reducible refine w_isN ?_ | with_reducible refine w_gname ?_ | with_reducible refine w_gsub ?_ | with_reducible refine w_asg ?_ | with_reducible refine w_sl ?_ | with_reducible refine w_noP ?_ | with_reducible refine w_int1 ?_ | with_reducible refine w_part ?_ | with_reducible refine w_yes ?_ | with_reducible refine w_nT ?_ | with_reducible refine w_nF ?_ | with_reducible refine w_iteT ?_ | with_reducible refine w_iteF ?_))
namespace L2
open PySem PySem.Spec PyProof.Rows
def rGetN (K : PySem.W.Frag) : V → V → Hp → VK → Prop := fun x y H Q => ∃ (p : Addr) (xs : List V) (j : Nat) (v : V), x = .ref p ∧ y = .int (j : Int) ∧ SqL K H p xs ∧ xs[j]? = some v ∧ Q v H
theorem get_listN {X : Cx} : PGet X (rGetN X.K) := by
  intro pins s σ H x y xv yv Q I rx ry ⟨p, xs, j, v, e1, e2, hq, hv, q⟩
  subst e1
  subst e2
  cases rx
  obtain ⟨t, rfl⟩ := ry
  obtain ⟨its, r, pl, hz⟩ := I.list hq
  obtain ⟨w', ew, rw'⟩ := r.get hv
  have hl := r.length
  have hj := (List.getElem?_eq_some_iff.mp hv).1
  have hn := line63
  exact wpAny_getItem_list pl.isList (by omega) (by omega) (by simpa using ew) ⟨v, H, I, rw', q⟩
theorem w_augS {K : PySem.W.Frag} {to ti te : TE} {tip : TIp} {D : L2.Ends} {σ : L2.St} {H : Hp} (h : to σ H fun o H1 => ti σ H1 fun i H2 => rGetN K o i H2 fun x H3 => te σ H3 fun y H4 => tip x y H4 fun z H5 => rSetL o i z H5 fun H6 => D.nx σ H6) : tAugS to ti te (rGetN K) tip rSetL D σ H := h
end L2
namespace K3
def lentF (u : List (List Int)) (w : Way) : List Int := (w.filter fun q => !q.2).map fun q => at2 u q.1.1 q.1.2
def amountF (left : Int) (ls : List Int) : Int := ls.foldl (fun a b => if b < a then b else a) left
theorem amount_min : ∀ (ls : List Int) (left : Int), amountF left ls ∈ left :: ls ∧ ∀ y ∈ left :: ls, amountF left ls ≤ y
  | [], left => ⟨List.mem_singleton.mpr rfl, fun y hy => by rw [List.mem_singleton.mp hy]; exact Int.le_refl _⟩
  | b :: ls, left => by
    obtain ⟨h1, h2⟩ := amount_min ls (if b < left then b else left)
    show amountF (if b < left then b else left) ls ∈ _ ∧ ∀ y ∈ _, amountF (if b < left then b else left) ls ≤ y
    have h3 := h2 _ (List.mem_cons_self ..)
    refine ⟨?_, fun y hy => ?_⟩
    · rcases List.mem_cons.mp h1 with e | e
      · rw [e]
        split
        · exact List.mem_cons_of_mem _ (List.mem_cons_self ..)
        · exact List.mem_cons_self ..
      · exact List.mem_cons_of_mem _ (List.mem_cons_of_mem _ e)
    · rcases List.mem_cons.mp hy with rfl | hy
      · split at h3 <;> rename_i c
        · rw [if_pos c]; omega
        · rw [if_neg c]; omega
      · rcases List.mem_cons.mp hy with rfl | hy
        · split at h3 <;> rename_i c
          · rw [if_pos c]; omega
          · rw [if_neg c]; omega
        · exact h2 y (List.mem_cons_of_mem _ hy)
theorem amount_is {left x : Int} {ls : List Int} (h1 : x ∈ left :: ls) (h2 : ∀ y ∈ left :: ls, x ≤ y) : x = amountF left ls := by
  obtain ⟨h3, h4⟩ := amount_min ls left
  have := h2 _ h3
  have := h4 _ h1
  omega
def addAt (u : List (List Int)) (c : Nat × Nat) (x : Int) : List (List Int) := u.set c.1 ((u.getD c.1 []).set c.2 (at2 u c.1 c.2 + x))
def applyF (u : List (List Int)) (w : Way) (a : Int) : List (List Int) := w.foldl (fun u q => addAt u q.1 (sgn q.2 * a)) u
def pushF (f : Pl → List Stp) (N : Nat) (start goal : Pl) : Nat → Int → List (List Int) → List (List Int) × Int
  | 0, left, u => (u, left)
  | k + 1, left, u =>
    if left ≤ 0 then (u, left) else
    let came := waysF u f N start
    if goal ∈ keysOf came then
      let w := wayF came goal
      let a := amountF left (lentF u w)
      pushF f N start goal k (left - a) (applyF u w a)
    else (u, left)
theorem lent_pos {u : List (List Int)} {w : Way} (h : ∀ q ∈ w, q.2 = false → 0 < at2 u q.1.1 q.1.2) : ∀ x ∈ lentF u w, 0 < x := by
  intro x hx
  obtain ⟨q, hq, rfl⟩ := List.mem_map.mp hx
  obtain ⟨h1, h2⟩ := List.mem_filter.mp hq
  exact h q h1 (by simpa using h2)
theorem amount_pos {left : Int} {ls : List Int} (h0 : 0 < left) (h : ∀ x ∈ ls, 0 < x) : 0 < amountF left ls ∧ amountF left ls ≤ left := by
  obtain ⟨h3, h4⟩ := amount_min ls left
  refine ⟨?_, h4 _ (List.mem_cons_self ..)⟩
  rcases List.mem_cons.mp h3 with e | e
  · omega
  · exact h _ e
theorem addAt_len {u : List (List Int)} {c : Nat × Nat} {x : Int} {m n : Nat} (h : Rect u m n) : Rect (addAt u c x) m n := by
  unfold addAt
  refine ⟨by rw [List.length_set]; exact h.1, fun r hr => ?_⟩
  by_cases hc : c.1 < u.length
  · rcases List.mem_or_eq_of_mem_set hr with z | z
    · exact h.2 r z
    · rw [z, List.length_set, List.getD_eq_getElem?_getD, List.getElem?_eq_getElem hc]
      exact h.2 _ (List.getElem_mem hc)
  · rw [List.set_eq_of_length_le (by omega)] at hr
    exact h.2 r hr
theorem applyF_rect {m n : Nat} {a : Int} : ∀ {w : Way} {u : List (List Int)}, Rect u m n → Rect (applyF u w a) m n
  | [], _, h => h
  | q :: w, u, h => applyF_rect (w := w) (addAt_len h)
theorem push_fuel {m n : Nat} {f : Pl → List Stp} {start goal : Pl} (hS : StepsOk m n f) (hst : start.2 < (if start.1 then m else n)) : ∀ (k k' : Nat) (left : Int) (u : List (List Int)), left.toNat < k → left.toNat < k' → pushF f (m + n + 1) start goal k left u = pushF f (m + n + 1) start goal k' left u := by
  intro k
  induction k with
  | zero => intro k' left u h; omega
  | succ k ih =>
    intro k' left u h h'
    obtain ⟨k', rfl⟩ : ∃ j, k' = j + 1 := ⟨k' - 1, by omega⟩
    unfold pushF
    by_cases c : left ≤ 0
    · rw [if_pos c, if_pos c]
    · rw [if_neg c, if_neg c]
      simp only
      by_cases g : goal ∈ keysOf (waysF u f (m + n + 1) start)
      · rw [if_pos g, if_pos g]
        obtain ⟨w1, _⟩ := ways_ok (u := u) hS hst
        obtain ⟨a1, a2⟩ := amount_pos (left := left) (by omega) (lent_pos (path_res (wayF_path w1 g)))
        exact ih k' _ _ (by omega) (by omega)
      · rw [if_neg g, if_neg g]
theorem FlowAt.put {K : PySem.W.Frag} {H : Hp} {F : Addr} {c0 : Nat × Nat} {np : Addr} {rs : List Addr} {u : List (List Int)} {m n : Nat} {f : Pl → List Stp} (h : FlowAt K H F c0 np rs u m n f) {c : Nat × Nat} {a : Addr} {r : List Int} (ha : rs[c.1]? = some a) (hr : u[c.1]? = some r) (x : Int) :
    FlowAt K (upd H a (.lst ((r.set c.2 (at2 u c.1 c.2 + x)).map V.int))) F c0 np rs (addAt u c x) m n f ∧ Tk H (upd H a (.lst ((r.set c.2 (at2 u c.1 c.2 + x)).map V.int))) := by
  obtain ⟨⟨dx, vc, d, kvs, h1, h2, h3, h4⟩, h5, h6, h7, h8⟩ := h
  obtain ⟨r', hr', hx⟩ := K3.Paired.get h5.rows ha
  obtain rfl : r = r' := Option.some.inj (hr.symm.trans hr')
  have hx : H a = some (.lst (r.map V.int)) := hx
  have am : a ∈ rs := List.mem_of_getElem? ha
  have tk : Tk H (upd H a (.lst ((r.set c.2 (at2 u c.1 c.2 + x)).map V.int))) := Tk.upd hx fun xs e => by cases e
  have e : addAt u c x = u.set c.1 (r.set c.2 (at2 u c.1 c.2 + x)) := by
    unfold addAt
    rw [List.getD_eq_getElem?_getD, hr]
    rfl
  refine ⟨⟨⟨dx, vc, d, kvs, ?_, h2.tk tk, ?_, fun p => (h4 p).imp id fun ⟨l, xs, a1, a2, a3, a4⟩ => ⟨l, xs, a1, (by rw [upd_ne (fun z => a3 (by rw [z]; exact am))]; exact a2), a3, L2.Paired.mapP a4 fun _ _ z => z.tk tk⟩⟩, ⟨?_, ?_⟩, addAt_len h6, h7, h8⟩, tk⟩
  · rw [upd_ne (fun z => by rw [z, hx] at h1; cases h1)]; exact h1
  · rw [upd_ne (fun z => by rw [z, hx] at h3; cases h3)]; exact h3
  · rw [upd_ne (fun z => h8 (by rw [z]; exact am))]; exact h5.at_
  · rw [e]
    refine paired_set h5.rows ha upd_same fun k b row ne hb z => ?_
    show upd H a _ b = _
    rw [upd_ne (fun e => ne (nodup_at h7 (by rw [e] at hb; exact hb) ha))]
    exact z
def spPushed (K : PySem.W.Frag) : Sp := fun vs H Q _ => ∃ (F : Addr) (v1 v2 : V) (c : Nat × Nat) (np : Addr) (rs : List Addr) (u : List (List Int)) (m n : Nat) (f : Pl → List Stp) (start goal : Pl) (most : Int), vs = [.ref F, v1, v2, .int most] ∧ FlowAt K H F c np rs u m n f ∧ StepsOk m n f ∧ m ≤ 60 ∧ n ≤ 60 ∧ PlAt H v1 start ∧ PlAt H v2 goal ∧ start.2 < (if start.1 then m else n) ∧ 0 ≤ most ∧
  ∀ H', BM rs H H' → Tk H H' → FlowAt K H' F c np rs (pushF f (m + n + 1) start goal (most.toNat + 1) most u).1 m n f → Q (.int (most - (pushF f (m + n + 1) start goal (most.toNat + 1) most u).2)) H'
def PuInv (K : PySem.W.Frag) (H : Hp) (F : Addr) (v1 v2 : V) (most : Int) (c : Nat × Nat) (np : Addr) (rs : List Addr) (u0 : List (List Int)) (m n : Nat) (f : Pl → List Stp) (start goal : Pl) (k : Nat) (σ : L2.St) (H' : Hp) : Prop :=
  ∃ (left : Int) (u : List (List Int)) (o5 o6 o7 o8 o9 o10 o11 o12 : Option V), k = left.toNat ∧ σ = [some (.ref F), some v1, some v2, some (.int most), some (.int left), o5, o6, o7, o8, o9, o10, o11, o12] ∧ BM rs H H' ∧ Tk H H' ∧ FlowAt K H' F c np rs u m n f ∧ 0 ≤ left ∧ pushF f (m + n + 1) start goal (left.toNat + 1) left u = pushF f (m + n + 1) start goal (most.toNat + 1) most u0
theorem way_len {H : Hp} {ws : List V} {w : Way} (h : Paired (WayAt H) ws w) : ws.length = w.length := h.length
theorem wayI_len {came : Came} : ∀ (k : Nat) (o : Option Stp), (wayI came k o).length ≤ k
  | 0, _ => Nat.le_refl 0
  | k + 1, none => Nat.zero_le _
  | k + 1, some s => by
    show (wayI came k _).length + 1 ≤ k + 1
    have := wayI_len (came := came) k (lookC came s.to)
    omega
theorem way_cells {m n : Nat} {u : List (List Int)} {f : Pl → List Stp} {start p : Pl} {w : Way} (hS : StepsOk m n f) (h : Path u f start p w) : ∀ q ∈ w, q.1.1 < m ∧ q.1.2 < n := by
  induction h with
  | nil => intro q hq; cases hq
  | step hs _ _ ih =>
    intro q hq
    rcases List.mem_cons.mp hq with rfl | hq
    · exact hS.cell _ _ hs
    · exact ih q hq
section
variable {P : Program} {w : World} {K : PySem.W.Frag} {mg : Str → Option Value} {base : Heap}
theorem sc_pushed : FnScope ["flow", "start", "goal", "most", "left", "came", "way", "cell", "sign", "lent", "amount", "row", "column"] ["flow", "start", "goal", "most"] (defScope s_pushed) := ⟨rfl, rfl, rfl, by decide +kernel, rfl, by decide +kernel, by decide +kernel⟩
theorem ok_pushed (T : Tx K mg) : Ok P w K mg base 3 (He.ga K "pushed") ["flow", "start", "goal", "most"] (spPushed K) := by
  obtain ⟨fd, F⟩ := T.f_pushed
  have Onumber_at := ok_number_at (P := P) (w := w) (base := base) T
  have Oway_to := ok_way_to (P := P) (w := w) (base := base) T
  have Oways_from := ok_ways_from (P := P) (w := w) (base := base) T
  refine ⟨fd, F.ok (k := 2) sc_pushed (fun vs H Q E h => ?_) (fun cdv A outer s_ H vs Q E hr h => ?_), F.bindsN fun _ _ _ _ _ _ us hl => match us, hl with | [_, _, _, _], _ => rfl, F.kp⟩
  · obtain ⟨F, v1, v2, c, np, rs, u0, m, n, f, start, goal, most, rfl, hF, hS, m60, n60, hv1, hv2, hst, h0, q⟩ := h
    rfl
  obtain ⟨F, v1, v2, c, np, rs, u0, m, n, f, start, goal, most, rfl, hF, hS, m60, n60, hv1, hv2, hst, h0, q⟩ := h
  have hu65 := K3.Room.units65 hr
  have hu64 := Nat.lt_of_succ_lt hu65
  have hu0 := Nat.lt_of_le_of_lt (Nat.le_add_right _ 65) hu65
  have hu1 := Nat.lt_of_le_of_lt (Nat.add_le_add_left (show 1 ≤ 65 by decide) _) hu65
  have rnumber_at : Room 1 _ := hr.mono (by decide)
  have rway_to : Room 1 _ := hr.mono (by decide)
  have rways_from : Room 2 _ := hr.mono (by decide)
  refine ⟨_, pss_cons (ps_set (i := 4) sc_pushed.nd rfl (Or.inl rfl) (pv 3))
      (pss_cons (ps_while (passes_of rfl) (pt_cmpR op_gt (pv 4) pe_int (nomark _)) (pss_cons (ps_set (i := 5) sc_pushed.nd rfl (Or.inl rfl) (pe_f Oways_from rways_from T.g_ways_from (pa_cons (pv 0) (pa_cons (pv 1) pa_nil))))
      (pss_cons (ps_if (pt_cmp (pc_dnotin hu1 (pv 2) (pv 5))) (pss_one (ps_ret (pe_op op_sub (pv 3) (pv 4)))) pss_nil)
      (pss_cons (ps_set (i := 6) sc_pushed.nd rfl (Or.inl rfl) (pe_f Oway_to rway_to T.g_way_to (pa_cons (pv 5) (pa_cons (pv 2) pa_nil))))
      (pss_cons (by exact ps_setLc (i := 9) (own := [("cell", 7), ("sign", 8)]) (g := gTup K 2 (gCons (gName 7) (gCons (gName 8) gNil))) (tt := (tTest (tOp (rI0 fun i j => .bl (decide (i < j))) (tVar 8) (tC (.int 0))))) (te := (tCall (spNum K) [] E0 (tCons (tFld K (tVar 0) "numbers") (tCons (tVar 7) tNil)))) (by rfl) sc_pushed.nd rfl rfl (by rfl) (pi_list (pv 6)) (blkOk_by (own := [("cell", 7), ("sign", 8)]) (N := ["flow", "start", "goal", "most", "left", "came", "way", "cell", "sign", "lent", "amount", "row", "column"]) (sc := defScope s_pushed) (by decide +kernel)) (fun _ _ _ _ _ => (pg_tup (by rfl) (pgs_cons (pg_name (i := 7) sc_pushed.nd rfl (Or.inl rfl)) (pgs_cons (pg_name (i := 8) sc_pushed.nd rfl (Or.inl rfl)) pgs_nil)))) (fun _ _ _ _ _ => (pts_one (pt_cmpR op_lt (pv 8) pe_int (nomark _)))) (fun _ _ _ _ _ => (pe_f Onumber_at rnumber_at T.g_number_at (pa_cons (pe_fld (pv 0) rfl) (pa_cons (pv 7) pa_nil)))))
      (pss_cons (ps_set (i := 10) sc_pushed.nd rfl (Or.inl rfl) (pe_callB (cr_min (by rfl)) (by rfl) T.z_min (by decide +kernel) (pa_cons (pe_op op_cat (pe_lst (pa_cons (pv 4) pa_nil)) (pv 9)) pa_nil)))
      (pss_cons (ps_for (passes_of rfl) (by rfl) (pi_list (pv 6)) (pg_tup (by rfl) (pgs_cons (pg_name (i := 7) sc_pushed.nd rfl (Or.inl rfl)) (pgs_cons (pg_name (i := 8) sc_pushed.nd rfl (Or.inl rfl)) pgs_nil))) (pss_cons (ps_asg (pv 7) (pg_tup (by rfl) (pgs_cons (pg_name (i := 11) sc_pushed.nd rfl (Or.inl rfl)) (pgs_cons (pg_name (i := 12) sc_pushed.nd rfl (Or.inl rfl)) pgs_nil))))
      (pss_one (ps_augS (pe_ix ix_list (pe_fld (pv 0) rfl) (pv 11) (fun _ _ => rfl)) (pv 12) get_listN (pe_op op_mul (pv 8) (pv 10)) ip_add set_list))))
      (pss_one (ps_aug (i := 4) sc_pushed.nd rfl (Or.inl rfl) (pv 10) ip_sub)))))))))
      (pss_one (ps_ret (pv 3)))), ?_⟩
  walk_at "go"
  refine ⟨PuInv K H F v1 v2 most c np rs u0 m n f start goal, ⟨_, most, u0, _, _, _, _, _, _, _, _, rfl, rfl, BM.refl _ _, Tk.refl _, hF, h0, rfl⟩, ?_⟩
  rintro k σ H1 ⟨left, u, o5, o6, o7, o8, o9, o10, o11, o12, rfl, rfl, b1, tk1, hF1, hl, hp⟩
  generalize hR : pushF f (m + n + 1) start goal (most.toNat + 1) most u0 = R at hp q
  walk_at "go"
  by_cases cl : left > 0
  · rw [decide_eq_true cl]
    refine iteT ?_
    refine ⟨fun σ' H' => ∃ m', m' < left.toNat ∧ PuInv K H F v1 v2 most c np rs u0 m n f start goal m' σ' H', fun _ _ h => h, ?_⟩
    obtain ⟨w1, w2⟩ := ways_ok (u := u) hS hst
    walk_at "go"
    refine ⟨F, v1, c, np, rs, u, m, n, f, start, rfl, hF1, hS, m60, n60, hv1.tk tk1, hst, fun d H2 e2 hd hcame => ?_⟩
    have hF2 := hF1.same e2
    have tk2 := tk1.trans (Tk.of e2)
    have b2 := b1.trans (BM.of e2)
    have hclen := w1.ok.len
    have hp' := hp
    unfold pushF at hp
    rw [if_neg (by omega)] at hp
    simp only at hp
    generalize hcm : waysF u f (m + n + 1) start = came at hcame w1 w2 hclen hp
    obtain ⟨kvs, hkv, hkp⟩ := id hcame
    obtain ⟨a2, rfl, ha2⟩ := hv2.tk tk2
    walk_at "go"
    refine ⟨_, rfl, _, rfl, d, valV kvs (plKey goal), rfl, DGet.t hkv ha2, ?_⟩
    rcases came_get hkp goal with ⟨hn, hv⟩ | ⟨i', o, v, k1, k2, k3, k4⟩
    · rw [hv]
      refine ⟨true, rfl, ?_⟩
      walk_at "go"
      rw [if_neg hn] at hp
      have := q H2 b2 tk2 (by rw [← hp]; exact hF2)
      rw [← hp] at this
      exact this
    · rw [k3]
      refine ⟨false, rfl, ?_⟩
      have hg : goal ∈ keysOf came := List.mem_map.mpr ⟨_, List.mem_of_getElem? k1, rfl⟩
      rw [if_pos hg] at hp
      have path := wayF_path w1 hg
      walk_at "go"
      refine ⟨d, .ref a2, came, goal, rfl, hcame, ⟨a2, rfl, ha2⟩, w1.ok.nd, w1.tree, by omega, hg, fun w H3 ws e3 hw0 hw3 hws => ?_⟩
      have lw := way_len hws
      have lw2 : (wayF came goal).length ≤ 200 := by
        have := wayI_len (came := came) (came.length + 1) (lookC came goal)
        unfold wayF
        omega
      have cells := way_cells hS path
      have pos := lent_pos (path_res path)
      generalize wayF came goal = way at hws lw lw2 cells pos path hp
      have hF3 := hF2.same e3
      walk_at "go"
      refine lcAt_open ?_
      refine list_open ?_
      walk_at "go"
      refine ⟨w, rfl, ⟨_, SqL.of hw3⟩, fun D hD => ?_⟩
      refine lc_list (xs := ws) (fun i H' => Same H3 H' ∧ H' D = some (.lst ((lentF u (way.take i)).map V.int))) ⟨Same.new hD _, upd_same⟩ (fun i H' _ z => SqL.of (z.1 _ _ hw3)) ?_ ?_
      · rintro i x H4 hx ⟨e4, hD4⟩
        obtain ⟨y, hy, hyx⟩ := K3.Paired.get hws hx
        obtain ⟨a, vc, rfl, ha, hvc⟩ := hyx.tk (Tk.of e4)
        refine ⟨a, _, rfl, SqT.of ha, rfl, _, _, rfl, _, _, rfl, rfl, ?_⟩
        refine ⟨rfl, ?_⟩
        have htk : lentF u (way.take (i + 1)) = lentF u (way.take i) ++ (if y.2 = true then [] else [at2 u y.1.1 y.1.2]) := by
          unfold lentF
          rw [List.take_add_one, hy, List.filter_append, List.map_append]
          congr 1
          cases h : y.2 <;> simp [h]
        walk_at "go"
        cases hup : y.2 with
        | true =>
          rw [hup, if_pos rfl, List.append_nil] at htk
          rw [show decide (sgn true < 0) = false from rfl]
          walk_at "go"
          exact ⟨e4, by rw [htk]; exact hD4⟩
        | false =>
          rw [hup, if_neg (by decide)] at htk
          rw [show decide (sgn false < 0) = true from rfl]
          walk_at "go"
          obtain ⟨c1, c2⟩ := cells y (List.mem_of_getElem? hy)
          obtain ⟨⟨dx, vc0, sd, skv, hob, _⟩, htab, hrect, _, _⟩ := hF3.same e4
          refine ⟨F, _, dx, _, _, rfl, hob, T.cl_Flow, T.n_Flow_numbers, rfl, ?_⟩
          walk_at "go"
          refine ⟨np, vc, rs, u, m, n, y.1.1, y.1.2, rfl, htab.gt, hrect, hvc, c1, c2, ?_⟩
          refine ⟨_, hD4, Nat.lt_of_le_of_lt (show _ ≤ 200 from ?_) (by decide), e4.mut hD, ?_⟩
          · unfold lentF
            rw [List.length_map, List.length_map]
            refine Nat.le_trans (List.length_filter_le _ _) ?_
            rw [List.length_take]
            omega
          · rw [upd_same, htk, List.map_append]
            rfl
      · rintro H4 ⟨e4, hD4⟩
        rw [lw, List.take_length] at hD4
        have ll : (lentF u way).length ≤ 200 := by
          unfold lentF
          rw [List.length_map]
          exact Nat.le_trans (List.length_filter_le _ _) lw2
        walk_at "go"
        refine ⟨(by show 1 ≤ sizeLine; decide), fun l5 hl5 => ?_⟩
        have e5 := Same.new hl5 (.lst [V.int left])
        walk_at "go"
        refine ⟨l5, D, _, _, rfl, rfl, upd_same, e5 _ _ hD4, Nat.le_trans (show _ ≤ 201 by rw [List.length_map]; simp; omega) (by decide), fun l6 hl6 => ?_⟩
        have e6 := Same.new hl6 (.lst ([V.int left] ++ (lentF u way).map V.int))
        refine ⟨l6, left :: lentF u way, rfl, SqL.of upd_same, by simp, fun am h1 h2 => ?_⟩
        obtain rfl := amount_is h1 h2
        have e46 := e4.trans (e5.trans e6)
        generalize upd (upd H4 l5 (.lst [V.int left])) l6 (.lst ([V.int left] ++ (lentF u way).map V.int)) = H6 at e46 ⊢
        obtain ⟨ap1, ap2⟩ := amount_pos (left := left) (by omega) pos
        generalize amountF left (lentF u way) = am at ap1 ap2 hp h1 h2
        have hF6 := hF3.same e46
        have hw6 := e46 _ _ hw3
        have hws6 := L2.Paired.mapP hws fun _ _ y => y.tk (Tk.of e46)
        walk_at "go"
        refine list_open ?_
        walk_at "go"
        refine ⟨w, rfl, ⟨_, SqL.of hw6⟩, ?_⟩
        have wrs : w ∉ rs := fun z => by
          obtain ⟨r, hr⟩ := paired_has hF2.tab.rows z
          have hr : H2 w = some _ := hr
          rw [hw0] at hr
          cases hr
        have b6 := b2.trans (BM.of (M := rs) (e3.trans e46))
        have tk6 := tk2.trans (Tk.of (e3.trans e46))
        refine for_list (xs := ws) (fun i σ H' => ∃ (o7 o8 o11 o12 : Option V), σ = [some (.ref F), some v1, some (.ref a2), some (.int most), some (.int left), some (.ref d), some (.ref w), o7, o8, some (.ref D), some (.int am), o11, o12] ∧ BM rs H6 H' ∧ Tk H6 H' ∧ FlowAt K H' F c np rs (applyF u (way.take i) am) m n f) ?_ ?_ ?_ ?_
        · exact ⟨_, _, _, _, rfl, BM.refl _ _, Tk.refl _, hF6⟩
        · rintro i σ H' hi ⟨_, _, _, _, _, b, _, _⟩
          exact SqL.of (b.at hw6 wrs)
        · rintro i x σ H7 hx ⟨o7, o8, o11, o12, rfl, b7, tk7, hF7⟩
          obtain ⟨y, hy, hyx⟩ := K3.Paired.get hws6 hx
          obtain ⟨a, vc, rfl, ha, ac, rfl, hac⟩ := hyx.tk tk7
          obtain ⟨c1, c2⟩ := cells y (List.mem_of_getElem? hy)
          refine ⟨a, _, rfl, SqT.of ha, rfl, _, _, rfl, _, _, rfl, rfl, ?_⟩
          walk_at "go"
          refine ⟨ac, _, rfl, SqT.of hac, rfl, _, _, rfl, _, _, rfl, rfl, ?_⟩
          have rectU : Rect (applyF u (way.take i) am) m n := hF7.rect
          obtain ⟨ra, r, hra, hr, hrx⟩ := row_of hF7.tab (i := y.1.1) (by rw [rectU.1]; exact c1)
          have lr : r.length = n := rectU.2 r (List.mem_of_getElem? hr)
          have hrg : r.getD y.1.2 0 = at2 (applyF u (way.take i) am) y.1.1 y.1.2 := (at2_of hr).symm
          have put := hF7.put (c := y.1) hra hr (sgn y.2 * am)
          obtain ⟨⟨dx, vc0, sd, skv, hob, _⟩, htab, hrect, _, _⟩ := id hF7
          dsimp only
          refine w_augS ?_
          walk_at "go"
          refine ⟨F, _, dx, _, _, rfl, hob, T.cl_Flow, T.n_Flow_numbers, rfl, ?_⟩
          walk_at "go"
          refine w_ixL htab.at_ (ref_at hra) ?_
          walk_at "go"
          have hat : (r.map V.int)[y.1.2]? = some (.int (r.getD y.1.2 0)) := by
            rw [List.getElem?_map, List.getElem?_eq_getElem (by omega), List.getD_eq_getElem?_getD, List.getElem?_eq_getElem (by omega)]
            rfl
          refine ⟨ra, _, y.1.2, _, rfl, rfl, SqL.of hrx, hat, ?_⟩
          walk_at "go"
          refine w_i (.inl (by cases y.2 <;> decide)) ?_
          refine ⟨_, _, rfl, rfl, ?_⟩
          refine w_setL hrx (j := y.1.2) ?_ ?_
          · unfold ixN
            rw [if_pos (by omega), if_pos (by rw [List.length_map]; omega)]
            simp
          rw [hrg, ← List.map_set]
          refine ⟨_, _, _, _, rfl, b7.trans (BM.upd (List.mem_of_getElem? hra) _), tk7.trans put.2, ?_⟩
          have : applyF u (way.take (i + 1)) am = addAt (applyF u (way.take i) am) y.1 (sgn y.2 * am) := by
            unfold applyF
            rw [List.take_add_one, hy, List.foldl_append]
            rfl
          rw [this]
          exact put.1
        · rintro σ H7 ⟨o7, o8, o11, o12, rfl, b7, tk7, hF7⟩
          rw [lw, List.take_length] at hF7
          walk_at "go"
          refine ⟨_, rfl, ?_⟩
          walk_at "go"
          refine ⟨_, _, rfl, rfl, ?_⟩
          refine ⟨_, ?_, left - am, applyF u way am, _, _, _, _, _, _, _, _, rfl, rfl, b6.trans b7, tk6.trans tk7, hF7, by omega, ?_⟩
          · omega
          · rw [hR, ← hp]
            exact push_fuel hS hst _ _ _ _ (Nat.lt_succ_self _) (by omega)
  · rw [decide_eq_false cl]
    walk_at "go"
    obtain rfl : left = 0 := by omega
    have := q H1 b1 tk1
    rw [← hp] at this
    have := this hF1
    rw [show (pushF f (m + n + 1) start goal ((0 : Int).toNat + 1) 0 u).2 = 0 from rfl, Int.sub_zero] at this
    exact this
end
end K3
end F7_part
section F8_part
set_option Elab.async false
set_option linter.all false
set_option maxRecDepth 100000
set_option maxHeartbeats 1000000
set_option pp.deepTerms.threshold 5
open PySem PySem.Spec PyProof.Rows L2
/-- go on as far as nothing is open -/
local macro_rules | `(tactic| walk_at "go") => `(tactic| repeat (first
  | with_reducible refine w_seq ?_ | with_reducible refine w_next ?_ | with_reducible refine w_set ?_ | with_reducible refine w_drop ?_ | with_reducible refine w_ret ?_ | with_reducible refine w_retN ?_
  | with_reducible refine w_if ?_ | ((with_reducible refine' w_var ?hv ?_); (case hv => exact rfl)) | with_reducible refine w_c ?_ | with_reducible refine w_nil ?_ | with_reducible refine w_cons ?_ | with_reducible refine w_op ?_ | with_reducible refine w_un ?_
  | with_reducible refine w_test ?_ | with_reducible refine w_tB ?_ | with_reducible refine w_not ?_ | with_reducible refine w_and ?_ | with_reducible refine w_or ?_ | with_reducible refine w_bl ?_
  | with_reducible refine w_andV ?_ | with_reducible refine w_orV ?_ | with_reducible refine w_notV ?_ | with_reducible refine w_ifE ?_ | with_reducible refine w_chain ?_ | with_reducible refine w_i0 ?_
  | with_reducible refine w_call ?_ | with_reducible refine w_callS ?_ | with_reducible refine w_cB ?_ | with_reducible refine w_tup ?_ | with_reducible refine w_lst ?_ | with_reducible refine w_fldV ?_
  | with_reducible refine w_neF ?_ | with_reducible refine w_neT ?_ | with_reducible refine w_notN ?_ | with_reducible refine w_isN ?_ | with_reducible refine w_gname ?_ | with_reducible refine w_gsub ?_ | with_reducible refine w_asg ?_ | with_reducible refine w_sl ?_ | with_reducible refine w_noP ?_ | with_reducible refine w_int1 ?_ | with_reducible refine w_part ?_ | with_reducible refine w_yes ?_ | with_reducible refine w_nT ?_ | with_reducible refine w_nF ?_ | with_reducible refine w_iteT ?_ | with_reducible refine w_iteF ?_))
namespace K3
/-! ### flows -/
theorem steps_ok {m n : Nat} {cs : List (Nat × Nat)} (hm : 1 ≤ m) (hn : 1 ≤ n) (h : ∀ c ∈ cs, c.1 < m ∧ c.2 < n) (hl : cs.length ≤ 100) : StepsOk m n (stepsF m n cs) := by
  have arcs : ∀ c ∈ cs, (arcF m n c).1.2 < (if (arcF m n c).1.1 then m else n) ∧ (arcF m n c).2.2 < (if (arcF m n c).2.1 then m else n) := by
    intro c hc
    obtain ⟨h1, h2⟩ := h c hc
    unfold arcF
    split
    · exact ⟨by simpa using h1, by simpa using h2⟩
    · exact ⟨by simpa using h2, by simpa using h1⟩
  have each : ∀ p, ∀ s ∈ stepsF m n cs p, ∃ c ∈ cs, s.c = c ∧ (s.to = (arcF m n c).2 ∨ s.to = (arcF m n c).1) := by
    intro p s hs
    unfold stepsF at hs
    obtain ⟨c, hc, e⟩ := List.mem_filterMap.mp hs
    refine ⟨c, hc, ?_⟩
    split at e
    · cases e; exact ⟨rfl, .inl rfl⟩
    · split at e
      · cases e; exact ⟨rfl, .inr rfl⟩
      · cases e
  refine ⟨fun p => Nat.le_trans (steps_len m n cs p) hl, fun p s hs => ?_, fun p s hs => ?_⟩
  · obtain ⟨c, hc, e, _⟩ := each p s hs
    rw [e]
    exact h c hc
  · obtain ⟨c, hc, _, e | e⟩ := each p s hs
    · rw [e]; exact (arcs c hc).2
    · rw [e]; exact (arcs c hc).1
theorem arc_place {m n : Nat} {c : Nat × Nat} (h1 : c.1 < m) (h2 : c.2 < n) : (arcF m n c).1.2 < (if (arcF m n c).1.1 then m else n) ∧ (arcF m n c).2.2 < (if (arcF m n c).2.1 then m else n) := by
  unfold arcF
  split
  · exact ⟨by simpa using h1, by simpa using h2⟩
  · exact ⟨by simpa using h2, by simpa using h1⟩
def othersF (cs : List (Nat × Nat)) (c : Nat × Nat) : List (Nat × Nat) := cs.filter fun k => !decide (k = c)
def runF (m n : Nat) (cs : List (Nat × Nat)) (t : List (List Int)) (c : Nat × Nat) (s g : Pl) (most : Int) : List (List Int) × Int := pushF (stepsF m n (othersF cs c)) (m + n + 1) s g (most.toNat + 1) most t
def leastF (m n : Nat) (cs : List (Nat × Nat)) (t : List (List Int)) (c : Nat × Nat) : List (List Int) :=
  addAt (runF m n cs t c (arcF m n c).1 (arcF m n c).2 (at2 t c.1 c.2)).1 c (-(at2 t c.1 c.2 - (runF m n cs t c (arcF m n c).1 (arcF m n c).2 (at2 t c.1 c.2)).2))
def roomF (m n : Nat) (t : List (List Int)) (c : Nat × Nat) : Int := at2 t (m - 1) (n - 1) - at2 t c.1 c.2
def mostF (m n : Nat) (cs : List (Nat × Nat)) (t : List (List Int)) (c : Nat × Nat) : List (List Int) :=
  addAt (runF m n cs t c (arcF m n c).2 (arcF m n c).1 (roomF m n t c)).1 c (roomF m n t c - (runF m n cs t c (arcF m n c).2 (arcF m n c).1 (roomF m n t c)).2)
theorem Same.mutX {B H : Hp} {x : Addr} {o : HO} (e : Same B H) (h : B x = none) : Same B (upd H x o) := e.mut h
def spFlow (K : PySem.W.Frag) : Sp := fun vs H Q _ => ∃ (x dx g h : Addr) (v : V) (rs : List Addr) (t : List (List Int)) (m n : Nat) (ws : List V) (cs : List (Nat × Nat)) (c : Nat × Nat) (B : Hp), vs = [.ref x, .ref g, .ref h, v] ∧ Same B H ∧ B x = none ∧ GT K B g rs t ∧ Rect t m n ∧ 1 ≤ m ∧ 1 ≤ n ∧ m ≤ 60 ∧ n ≤ 60 ∧
  B h = some (.lst ws) ∧ Paired (CellAt B) ws cs ∧ cs.length ≤ 100 ∧ CellAt B v c ∧ H x = some (.ins (He.ga K "Flow") dx []) ∧
  ∀ H' np rs', Same B H' → FlowAt K H' x c np rs' t m n (stepsF m n (othersF cs c)) → B np = none → (∀ r ∈ rs', B r = none) → Q .non H'
def spNow (K : PySem.W.Frag) : Sp := fun vs H Q _ => ∃ (F : Addr) (c : Nat × Nat) (np : Addr) (rs : List Addr) (u : List (List Int)) (m n : Nat) (f : Pl → List Stp), vs = [.ref F] ∧ FlowAt K H F c np rs u m n f ∧ c.1 < m ∧ c.2 < n ∧ Q (.int (at2 u c.1 c.2)) H
def spChange (K : PySem.W.Frag) : Sp := fun vs H Q _ => ∃ (F : Addr) (c : Nat × Nat) (np : Addr) (rs : List Addr) (u : List (List Int)) (m n : Nat) (f : Pl → List Stp) (x : Int), vs = [.ref F, .int x] ∧ FlowAt K H F c np rs u m n f ∧ c.1 < m ∧ c.2 < n ∧
  ∀ H', BM rs H H' → Tk H H' → FlowAt K H' F c np rs (addAt u c x) m n f → Q .non H'
section
variable {P : Program} {w : World} {K : PySem.W.Frag} {mg : Str → Option Value} {base : Heap}
theorem sc_Flow : FnScope ["self", "grid", "hidden", "cell", "row", "other"] ["self", "grid", "hidden", "cell"] (defScope s_Flow_init) := ⟨rfl, rfl, rfl, by decide +kernel, rfl, by decide +kernel, by decide +kernel⟩
theorem ok_Flow (T : Tx K mg) : Ok P w K mg base 4 (He.ma K (He.ga K "Flow") "__init__") ["self", "grid", "hidden", "cell"] (spFlow K) := by
  obtain ⟨fd, F⟩ := T.f_Flow_init
  have Osteps_of := ok_steps_of (P := P) (w := w) (base := base) T
  refine ⟨fd, F.ok (k := 3) sc_Flow (fun vs H Q E h => ?_) (fun cdv A outer s_ H vs Q E hr h => ?_), F.bindsN fun _ _ _ _ _ _ us hl => match us, hl with | [_, _, _, _], _ => rfl, F.kp⟩
  · obtain ⟨x, dx, g, h, v, rs, t, m, n, ws, cs, c, B, rfl, _⟩ := h
    rfl
  obtain ⟨x, dx, g, h, v, rs, t, m, n, ws, cs, c, B, rfl, e0, hx0, ht, hR, m1, n1, m60, n60, hh, hw, hlen, hv, hx, q⟩ := h
  have hu65 := K3.Room.units65 hr
  have hu64 := Nat.lt_of_succ_lt hu65
  have rsteps_of : Room 3 _ := hr.mono (by decide)
  refine ⟨_, pss_cons (ps_fld (pv 0) (pv 3) rfl)
      (pss_cons (ps_fld (pv 0) (by exact pe_lc (own := [("row", 4)]) (g := gName 4) (tt := tYes) (te := (tCB (fun xs H Q => ∃ p ys, xs = [V.ref p] ∧ (SqL K H p ys ∨ SqT K H p ys) ∧ ∀ l, H l = none → Q (.ref l) (upd H l (.lst ys))) (tCons (tVar 4) tNil))) (by rfl) sc_Flow.nd (pi_seq (pv 1)) (blkOk_by (own := [("row", 4)]) (N := ["self", "grid", "hidden", "cell", "row", "other"]) (sc := defScope s_Flow_init) (by decide +kernel)) (fun _ _ _ _ _ => (pg_name (i := 4) sc_Flow.nd rfl (Or.inl rfl))) (fun _ _ _ _ _ => pts_nil) (fun _ _ _ _ _ => (pe_callTy call_list_of (by rfl) T.z_list (by decide +kernel) (pa_cons (pv 4) pa_nil)))) rfl)
      (pss_one (ps_fld (pv 0) (pe_f Osteps_of rsteps_of T.g_steps_of (pa_cons (pv 1) (pa_cons (by exact pe_lc (own := [("other", 5)]) (g := gName 5) (tt := (tTest (tOp (rNeD K) (tVar 5) (tVar 3)))) (te := (tVar 5)) (by rfl) sc_Flow.nd (pi_list (pv 2)) (blkOk_by (own := [("other", 5)]) (N := ["self", "grid", "hidden", "cell", "row", "other"]) (sc := defScope s_Flow_init) (by decide +kernel)) (fun _ _ _ _ _ => (pg_name (i := 5) sc_Flow.nd rfl (Or.inl rfl))) (fun _ _ _ _ _ => (pts_one (pt_cmpR (op_neD hu64) (pv 5) (pv 3) (nomark _)))) (fun _ _ _ _ _ => (pv 5))) pa_nil))) rfl))), ?_⟩
  have lm : t.length = m := hR.1
  have lw := hw.length
  walk_at "go"
  refine ⟨_, rfl, _, rfl, x, _, dx, _, rfl, hx, T.cl_Flow, T.n_Flow_cell, by decide, ?_⟩
  have e1 : Same B (upd H x (.ins (He.ga K "Flow") dx [("cell", v)])) := e0.mut hx0
  have hx1 : (upd H x (.ins (He.ga K "Flow") dx [("cell", v)])) x = some (.ins (He.ga K "Flow") dx [("cell", v)]) := upd_same
  rw [show putF ("cell" : Str) v ([] : List (Str × V)) = ([(("cell" : Str), v)] : List (Str × V)) from rfl]
  generalize upd H x (.ins (He.ga K "Flow") dx [("cell", v)]) = H1 at e1 hx1 ⊢
  dsimp only
  refine w_seq ?_
  refine lcAt_open (seqI_open ?_)
  walk_at "go"
  have ht1 := ht.same e1
  obtain ⟨bg, hgb⟩ := ht1.at_
  refine ⟨g, bg, rfl, ⟨_, hgb⟩, fun D hD => ?_⟩
  refine rows_newE (fun r => r) hgb ht1.rows (by omega) hD (fun x => rfl) ?_ ?_
  · intro b r H2 e2 hr hb Q q
    walk_at "go"
    refine ⟨b, _, rfl, hb.either, fun l hl => ?_⟩
    exact q l _ hl (Same.new hl _) upd_same
  intro H2 rs' e2 hT2 nd2 fr2
  rw [List.map_id'] at hT2
  have hx2 := e2 _ _ hx1
  refine ⟨_, rfl, x, _, dx, _, rfl, hx2, T.cl_Flow, T.n_Flow_numbers, by show 1 < 1000; decide, ?_⟩
  have Dx : D ≠ x := fun z => by rw [z, hx1] at hD; cases hD
  have rx : ∀ r ∈ rs', r ≠ x := fun r hr z => by
    have := (fr2 r hr).1
    rw [z, hx1] at this
    cases this
  have hx3 : (upd H2 x (.ins (He.ga K "Flow") dx [("cell", v), ("numbers", .ref D)])) x = some (.ins (He.ga K "Flow") dx [("cell", v), ("numbers", .ref D)]) := upd_same
  have e3 : Same B (upd H2 x (.ins (He.ga K "Flow") dx [("cell", v), ("numbers", .ref D)])) := (e1.trans e2).mut hx0
  have hT3 : Tab (upd H2 x (.ins (He.ga K "Flow") dx [("cell", v), ("numbers", .ref D)])) D rs' t := by
    refine ⟨by rw [upd_ne Dx]; exact hT2.at_, paired_up hT2.rows fun r row hr z => ?_⟩
    show upd H2 x _ r = _
    rw [upd_ne (rx r hr)]
    exact z
  rw [show putF ("numbers" : Str) (.ref D) ([(("cell" : Str), v)] : List (Str × V)) = ([(("cell" : Str), v), (("numbers" : Str), V.ref D)] : List (Str × V)) from rfl]
  generalize upd H2 x (.ins (He.ga K "Flow") dx [("cell", v), ("numbers", .ref D)]) = H3 at e3 hx3 hT3 ⊢
  dsimp only
  refine w_call (w_cons (w_var rfl (w_cons (lcAt_open (list_open (w_var rfl ?_))))))
  have hw3 := L2.Paired.mapP hw fun _ _ z => CellAt.same e3 z
  refine ⟨h, rfl, ⟨_, SqL.of (e3 _ _ hh)⟩, fun D2 hD2 => ?_⟩
  refine cells_keep (fun k => !decide (k = c)) (e3 _ _ hh) hw3 (by omega) hD2 (fun x => rfl) ?_ ?_ ?_
  · intro vk k H4 e4 hk hvk Q q
    walk_at "go"
    refine ⟨cellD k, cellD c, cell_dp hvk, cell_dp (hv.same (e3.trans e4)), cell_shaped _, cell_shaped _, ?_⟩
    rw [cell_eqv]
    exact ⟨_, rfl, q H4 (Same.refl _)⟩
  · intro vk H4 Q q
    walk_at "go"
    exact q
  · intro H4 zs e4 hD4 hz
    walk_at "go"
    have ht4 := ht.same (e3.trans e4)
    have lo : (othersF cs c).length ≤ 100 := Nat.le_trans (List.length_filter_le _ _) hlen
    refine ⟨g, D2, rs, t, m, n, zs, othersF cs c, rfl, ht4, hR, m1, n1, hD4, hz, lo, fun d H5 e5 hd hsteps hfresh => ?_⟩
    have e35 := e4.trans e5
    obtain ⟨kvs, hkv, hget⟩ := hsteps
    refine ⟨_, rfl, x, _, dx, _, rfl, e35 _ _ hx3, T.cl_Flow, T.n_Flow_steps, by show 2 < 1000; decide, ?_⟩
    have hT4 := hT3.same e4
    have hT5 := hT3.same e35
    have dx5 : d ≠ x := fun z => by rw [z, e4 _ _ hx3] at hd; cases hd
    have lnot : ∀ (kvs : List (List L2.Key × V)) (p : Pl) (l : Addr), H5 d = some (.dT kvs) → valV kvs (plKey p) = some (.ref l) → l ∉ rs' := fun kvs p l b1 b2 z => by
      have l0 := hfresh kvs p l b1 b2
      obtain ⟨row, hrow⟩ := paired_has hT4.rows z
      have hrow : H4 l = some _ := hrow
      rw [l0] at hrow
      cases hrow
    show Q .non (upd H5 x (.ins (He.ga K "Flow") dx [("cell", v), ("numbers", .ref D), ("steps", .ref d)]))
    have tk : Tk H5 (upd H5 x (.ins (He.ga K "Flow") dx [("cell", v), ("numbers", .ref D), ("steps", .ref d)])) := Tk.upd (e35 _ _ hx3) fun xs e => by cases e
    refine q _ D rs' ((e3.trans e35).mut hx0) ⟨⟨dx, v, d, kvs, upd_same, (hv.same (e3.trans e35)).tk tk, by rw [upd_ne dx5]; exact hkv, fun p => (hget p).imp id fun ⟨l, xs, a1, a2, a3⟩ => ⟨l, xs, a1, (by rw [upd_ne (fun z => by rw [z, e35 _ _ hx3] at a2; cases a2)]; exact a2), lnot kvs p l hkv a1, L2.Paired.mapP a3 fun _ _ y => y.tk tk⟩⟩, ⟨?_, ?_⟩, hR, nd2, fun z => (fr2 D z).2 rfl⟩ (e1.free hD) (fun r hr => e1.free (fr2 r hr).1)
    · rw [upd_ne Dx]; exact hT5.at_
    · refine paired_up hT5.rows fun r row hr z => ?_
      show upd H5 x _ r = _
      rw [upd_ne (rx r hr)]
      exact z
theorem sc_now : FnScope ["self"] ["self"] (defScope s_Flow_number_now) := ⟨rfl, rfl, rfl, by decide +kernel, rfl, by decide +kernel, by decide +kernel⟩
theorem ok_now (T : Tx K mg) : Ok P w K mg base 2 (He.ma K (He.ga K "Flow") "number_now") ["self"] (spNow K) := by
  obtain ⟨fd, F⟩ := T.f_Flow_number_now
  have Onumber_at := ok_number_at (P := P) (w := w) (base := base) T
  refine ⟨fd, F.ok (k := 1) sc_now (fun vs H Q E h => ?_) (fun cdv A outer s_ H vs Q E hr h => ?_), F.bindsN fun _ _ _ _ _ _ us hl => match us, hl with | [_], _ => rfl, F.kp⟩
  · obtain ⟨F, c, np, rs, u, m, n, f, rfl, _⟩ := h
    rfl
  obtain ⟨F, c, np, rs, u, m, n, f, rfl, hF, c1, c2, q⟩ := h
  refine ⟨_, pss_one (ps_ret (pe_f Onumber_at hr T.g_number_at (pa_cons (pe_fld (pv 0) rfl) (pa_cons (pe_fld (pv 0) rfl) pa_nil)))), ?_⟩
  obtain ⟨⟨dx, vc, d, kvs, hob, hvc, _⟩, htab, hrect, _, _⟩ := hF
  walk_at "go"
  refine ⟨F, _, dx, _, _, rfl, hob, T.cl_Flow, T.n_Flow_numbers, rfl, ?_⟩
  walk_at "go"
  refine ⟨F, _, dx, _, _, rfl, hob, T.cl_Flow, T.n_Flow_cell, rfl, ?_⟩
  walk_at "go"
  exact ⟨np, vc, rs, u, m, n, c.1, c.2, rfl, htab.gt, hrect, hvc, c1, c2, q⟩
theorem sc_change : FnScope ["self", "change", "row", "column"] ["self", "change"] (defScope s_Flow_change) := ⟨rfl, rfl, rfl, by decide +kernel, rfl, by decide +kernel, by decide +kernel⟩
theorem ok_change (T : Tx K mg) : Ok P w K mg base 1 (He.ma K (He.ga K "Flow") "change") ["self", "change"] (spChange K) := by
  obtain ⟨fd, F⟩ := T.f_Flow_change
  refine ⟨fd, F.ok (k := 0) sc_change (fun vs H Q E h => ?_) (fun cdv A outer s_ H vs Q E hr h => ?_), F.bindsN fun _ _ _ _ _ _ us hl => match us, hl with | [_, _], _ => rfl, F.kp⟩
  · obtain ⟨F, c, np, rs, u, m, n, f, x, rfl, _⟩ := h
    rfl
  obtain ⟨F, c, np, rs, u, m, n, f, x, rfl, hF, c1, c2, q⟩ := h
  refine ⟨_, pss_cons (ps_asg (pe_fld (pv 0) rfl) (pg_tup (by rfl) (pgs_cons (pg_name (i := 2) sc_change.nd rfl (Or.inl rfl)) (pgs_cons (pg_name (i := 3) sc_change.nd rfl (Or.inl rfl)) pgs_nil))))
    (pss_one (ps_augS (pe_ix ix_list (pe_fld (pv 0) rfl) (pv 2) (fun _ _ => rfl)) (pv 3) get_listN (pv 1) ip_add set_list)), ?_⟩
  obtain ⟨ra, r, hra, hr', hrx⟩ := row_of hF.tab (i := c.1) (by rw [hF.rect.1]; exact c1)
  have lr : r.length = n := hF.rect.2 r (List.mem_of_getElem? hr')
  have hrg : r.getD c.2 0 = at2 u c.1 c.2 := (at2_of hr').symm
  have put := hF.put (c := c) hra hr' x
  obtain ⟨⟨dx, vc, d, kvs, hob, ⟨ac, rfl, hac⟩, _⟩, htab, hrect, _, _⟩ := hF
  walk_at "go"
  refine ⟨F, _, dx, _, _, rfl, hob, T.cl_Flow, T.n_Flow_cell, rfl, ?_⟩
  refine ⟨ac, _, rfl, SqT.of hac, rfl, _, _, rfl, _, _, rfl, rfl, ?_⟩
  dsimp only
  refine w_augS ?_
  walk_at "go"
  refine ⟨F, _, dx, _, _, rfl, hob, T.cl_Flow, T.n_Flow_numbers, rfl, ?_⟩
  walk_at "go"
  refine w_ixL htab.at_ (ref_at hra) ?_
  walk_at "go"
  have hat : (r.map V.int)[c.2]? = some (.int (r.getD c.2 0)) := by
    rw [List.getElem?_map, List.getElem?_eq_getElem (by omega), List.getD_eq_getElem?_getD, List.getElem?_eq_getElem (by omega)]
    rfl
  refine ⟨ra, _, c.2, _, rfl, rfl, SqL.of hrx, hat, ?_⟩
  walk_at "go"
  refine ⟨_, _, rfl, rfl, ?_⟩
  refine w_setL hrx (j := c.2) ?_ ?_
  · unfold ixN
    rw [if_pos (by omega), if_pos (by rw [List.length_map]; omega)]
    simp
  rw [hrg, ← List.map_set]
  exact q _ (BM.upd (List.mem_of_getElem? hra) _) put.2 put.1
end
end K3
end F8_part
section F9_part
set_option Elab.async false
set_option linter.all false
set_option maxRecDepth 100000
set_option maxHeartbeats 1000000
set_option pp.deepTerms.threshold 5
open PySem PySem.Spec PyProof.Rows L2
/-- go on as far as nothing is open -/
local macro_rules | `(tactic| walk_at "go") => `(tactic| repeat (first
  | with_reducible refine w_seq ?_ | with_reducible refine w_next ?_ | with_reducible refine w_set ?_ | with_reducible refine w_drop ?_ | with_reducible refine w_ret ?_ | with_reducible refine w_retN ?_
  | with_reducible refine w_if ?_ | ((with_reducible refine' w_var ?hv ?_); (case hv => exact rfl)) | with_reducible refine w_c ?_ | with_reducible refine w_nil ?_ | with_reducible refine w_cons ?_ | with_reducible refine w_op ?_ | with_reducible refine w_un ?_
  | with_reducible refine w_test ?_ | with_reducible refine w_tB ?_ | with_reducible refine w_not ?_ | with_reducible refine w_and ?_ | with_reducible refine w_or ?_ | with_reducible refine w_bl ?_
  | with_reducible refine w_andV ?_ | with_reducible refine w_orV ?_ | with_reducible refine w_notV ?_ | with_reducible refine w_ifE ?_ | with_reducible refine w_chain ?_ | with_reducible refine w_i0 ?_
  | with_reducible refine w_call ?_ | with_reducible refine w_callS ?_ | with_reducible refine w_cB ?_ | with_reducible refine w_tup ?_ | with_reducible refine w_lst ?_ | with_reducible refine w_fldV ?_
  | with_reducible refine w_neF ?_ | with_reducible refine w_neT ?_ | with_reducible refine w_notN ?_ | with_reducible refine w_isN ?_ | with_reducible refine w_gname ?_ | with_reducible refine w_gsub ?_ | with_reducible refine w_asg ?_ | with_reducible refine w_sl ?_ | with_reducible refine w_noP ?_ | with_reducible refine w_int1 ?_ | with_reducible refine w_part ?_ | with_reducible refine w_yes ?_ | with_reducible refine w_nT ?_ | with_reducible refine w_nF ?_ | with_reducible refine w_iteT ?_ | with_reducible refine w_iteF ?_))
namespace L2
open PySem PySem.Spec PyProof.Rows
section
variable {X : Cx} {k : Nat} {f C : Addr} {ps : List Str} {sp : Sp} {x m : Str} {o e : Expr} {es : List Expr} {p apos pos : Pos} {t : TA} {ta : TE}
theorem pe_mk (O : Ok X.prog X.w X.K X.mg X.base k f ps sp) (M : Mk X.K C f) (hr : Room (k + 1) X.A) (hm : X.mg x = some (.ref C)) (ha : PA X (e :: es) t) (hg : Gl X x := by rfl) (hdb : (x == ("__debug__" : Str)) = false := by decide)
    (he : starEach (e :: es) X.env = (false, eval e X.env) :: starEach es X.env := by rfl) (hpl : (backTo pos (starEach es X.env)).any (·.1) = false := by rfl) : PE X (.Call (.Name x p) (e :: es) [] pos) (tMake C sp [] E0 t) := by
  obtain ⟨fd, F, b, kp⟩ := O.run
  exact pe_make M F hr hg hm b .nil passL ha hdb he hpl
theorem pe_mth {pl : Sem Bool} (he : PE X o ta) (c : Cls X.K C) (O : Ok X.prog X.w X.K X.mg X.base k f ps sp) (hm : Meth X.K C m f) (hr : Room k X.A) (ha : PA X (e :: es) t)
    (hst : starEach (e :: es) X.env = (false, eval e X.env) :: starEach es X.env := by rfl) (hpl : (backTo pos (starEach es X.env)).any (·.1) = false := by rfl)
    (ht : eval (.Call (.Attribute o m apos) (e :: es) [] pos) X.env = (do
      let ov ← eval o X.env
      standAt apos.atName
      let (f, first) ← holding [ov] (getMethod ov m pl)
      callWith pos f first (backTo pos (starEach (e :: es) X.env)) (backToKw pos (keywordEach [] X.env))) := by rfl) :
    PE X (.Call (.Attribute o m apos) (e :: es) [] pos) (tMeth C m sp [] E0 ta t) := by
  obtain ⟨fd, F, b, kp⟩ := O.run
  exact pe_meth (pl := pl) he c hm F hr b .nil passL ha hst hpl ht
theorem pe_mth0 {pl : Sem Bool} (he : PE X o ta) (c : Cls X.K C) (O : Ok X.prog X.w X.K X.mg X.base k f ps sp) (hm : Meth X.K C m f) (hr : Room k X.A)
    (ht : eval (.Call (.Attribute o m apos) [] [] pos) X.env = (do
      let ov ← eval o X.env
      standAt apos.atName
      let (f, first) ← holding [ov] (getMethod ov m pl)
      callWith pos f first (backTo pos (starEach [] X.env)) (backToKw pos (keywordEach [] X.env))) := by rfl) :
    PE X (.Call (.Attribute o m apos) [] [] pos) (tMeth C m sp [] E0 ta tNil) := by
  obtain ⟨fd, F, b, kp⟩ := O.run
  exact pe_meth0 (pl := pl) he c hm F hr b .nil passL ht
theorem w_make {sp : Sp} {σ : L2.St} {H : Hp} {Q : VK} {E : XK} (h : t σ H fun vs H1 => ∀ x dx, H1 x = none → H1 dx = none → dx ≠ x → sp (.ref x :: (vs ++ [])) (upd (upd H1 dx (.own x)) x (.ins C dx [])) (fun v H2 => v = .non ∧ Q (.ref x) H2) E) : tMake C sp [] E t σ H Q := h
theorem w_meth {sp : Sp} {σ : L2.St} {H : Hp} {Q : VK} {E : XK} (h : ta σ H fun x H1 => ∃ a dx fs, x = .ref a ∧ H1 a = some (.ins C dx fs) ∧ fs.lookup m = none ∧ t σ H1 fun vs H2 => sp (x :: (vs ++ [])) H2 Q E) : tMeth C m sp [] E ta t σ H Q := h
end
end L2
namespace K3
theorem same_newM {rs : List Addr} {H H1 H2 : Hp} (h0 : ∀ r ∈ rs, H r = none) (e : Same H H1) (b : BM rs H1 H2) : Same H H2 := fun c o h => b.at (e _ _ h) fun z => by rw [h0 c z] at h; cases h
/-- what is handed to a flow -/
structure Asked (K : PySem.W.Frag) (H : Hp) (g h : Addr) (v : V) (rs : List Addr) (t : List (List Int)) (m n : Nat) (ws : List V) (cs : List (Nat × Nat)) (c : Nat × Nat) : Prop where
  tab : GT K H g rs t
  rect : Rect t m n
  m1 : 1 ≤ m
  n1 : 1 ≤ n
  m60 : m ≤ 60
  n60 : n ≤ 60
  at_ : H h = some (.lst ws)
  cells : Paired (CellAt H) ws cs
  len : cs.length ≤ 100
  inn : ∀ k ∈ cs, k.1 < m ∧ k.2 < n
  cell : CellAt H v c
  c1 : c.1 < m
  c2 : c.2 < n
  num : 0 ≤ at2 t c.1 c.2
  room : 0 ≤ roomF m n t c
theorem Asked.same {K : PySem.W.Frag} {H H' : Hp} {g h : Addr} {v : V} {rs : List Addr} {t : List (List Int)} {m n : Nat} {ws : List V} {cs : List (Nat × Nat)} {c : Nat × Nat} (a : Asked K H g h v rs t m n ws cs c) (e : Same H H') : Asked K H' g h v rs t m n ws cs c :=
  ⟨a.tab.same e, a.rect, a.m1, a.n1, a.m60, a.n60, e _ _ a.at_, L2.Paired.mapP a.cells fun _ _ z => z.same e, a.len, a.inn, a.cell.same e, a.c1, a.c2, a.num, a.room⟩
def spEnd (G : Nat → Nat → List (Nat × Nat) → List (List Int) → Nat × Nat → List (List Int)) (K : PySem.W.Frag) : Sp := fun vs H Q _ => ∃ (g h : Addr) (v : V) (rs : List Addr) (t : List (List Int)) (m n : Nat) (ws : List V) (cs : List (Nat × Nat)) (c : Nat × Nat), vs = [.ref g, .ref h, v] ∧ Asked K H g h v rs t m n ws cs c ∧
  ∀ F H' np rs', Same H H' → FlowAt K H' F c np rs' (G m n cs t c) m n (stepsF m n (othersF cs c)) → H np = none → (∀ r ∈ rs', H r = none) → Q (.ref F) H'
abbrev spLeast := spEnd leastF
abbrev spMost := spEnd mostF
section
variable {P : Program} {w : World} {K : PySem.W.Frag} {mg : Str → Option Value} {base : Heap}
theorem sc_least_flow : FnScope ["grid", "hidden", "cell", "flow", "start", "goal"] ["grid", "hidden", "cell"] (defScope s_least_flow) := ⟨rfl, rfl, rfl, by decide +kernel, rfl, by decide +kernel, by decide +kernel⟩
theorem ok_least_flow (T : Tx K mg) : Ok P w K mg base 7 (He.ga K "least_flow") ["grid", "hidden", "cell"] (spLeast K) := by
  obtain ⟨fd, F⟩ := T.f_least_flow
  have Opushed := ok_pushed (P := P) (w := w) (base := base) T
  have Oarc_of := ok_arc_of (P := P) (w := w) (base := base) T
  refine ⟨fd, F.ok (k := 6) sc_least_flow (fun vs H Q E h => ?_) (fun cdv A outer s_ H vs Q E hr h => ?_), F.bindsN fun _ _ _ _ _ _ us hl => match us, hl with | [_, _, _], _ => rfl, F.kp⟩
  · obtain ⟨g, h, v, rs, t, m, n, ws, cs, c, rfl, A0, q⟩ := h
    rfl
  obtain ⟨g, h, v, rs, t, m, n, ws, cs, c, rfl, A0, q⟩ := h
  have hu65 := K3.Room.units65 hr
  have hu64 := Nat.lt_of_succ_lt hu65
  have hu0 := Nat.lt_of_le_of_lt (Nat.le_add_right _ 65) hu65
  have hu1 := Nat.lt_of_le_of_lt (Nat.add_le_add_left (show 1 ≤ 65 by decide) _) hu65
  have rpushed : Room 3 _ := hr.mono (by decide)
  have rarc_of : Room 2 _ := hr.mono (by decide)
  refine ⟨_, pss_cons (ps_set (i := 3) sc_least_flow.nd rfl (Or.inl rfl) (pe_mk (ok_Flow T) T.mk_Flow (hr.mono (by decide)) T.g_Flow (pa_cons (pv 0) (pa_cons (pv 1) (pa_cons (pv 2) pa_nil)))))
      (pss_cons (ps_asg (pe_f Oarc_of rarc_of T.g_arc_of (pa_cons (pv 0) (pa_cons (pv 2) pa_nil))) (pg_tup (by rfl) (pgs_cons (pg_name (i := 4) sc_least_flow.nd rfl (Or.inl rfl)) (pgs_cons (pg_name (i := 5) sc_least_flow.nd rfl (Or.inl rfl)) pgs_nil))))
      (pss_cons (ps_expr (pe_mth (pv 3) T.cl_Flow (ok_change T) T.m_Flow_change (hr.mono (by decide)) (pa_cons (pe_un un_neg (pe_f Opushed rpushed T.g_pushed (pa_cons (pv 3) (pa_cons (pv 4) (pa_cons (pv 5) (pa_cons (pe_mth0 (pv 3) T.cl_Flow (ok_now T) T.m_Flow_number_now (hr.mono (by decide))) pa_nil)))))) pa_nil)))
      (pss_one (ps_ret (pv 3))))), ?_⟩
  have A1 := A0
  walk_at "go"
  refine w_make ?_
  walk_at "go"
  refine fun F dx hF hdx hne => ?_
  have eA : Same H (upd (upd H dx (.own F)) F (.ins (He.ga K "Flow") dx [])) := (Same.new hdx _).trans (Same.new (by rw [upd_ne hne.symm]; exact hF) _)
  refine ⟨F, dx, g, h, v, rs, t, m, n, ws, cs, c, H, rfl, eA, hF, A0.tab, A0.rect, A0.m1, A0.n1, A0.m60, A0.n60, A0.at_, A0.cells, A0.len, A0.cell, upd_same, fun H1 np rs' e1 fl1 np0 rs0 => ⟨rfl, ?_⟩⟩
  have hS : StepsOk m n (stepsF m n (othersF cs c)) := steps_ok A0.m1 A0.n1 (fun k hk => A0.inn k (List.mem_filter.mp hk).1) (Nat.le_trans (List.length_filter_le _ _) A0.len)
  obtain ⟨pl1, pl2⟩ := arc_place (m := m) (n := n) A0.c1 A0.c2
  have B1 := A0.same e1
  walk_at "go"
  refine ⟨g, v, rs, t, m, n, c, rfl, B1.tab, A0.rect, A0.m1, A0.n1, B1.cell, fun a H2 w1 w2 e2 ha p1 p2 => ?_⟩
  refine ⟨a, _, rfl, SqT.of ha, rfl, _, _, rfl, _, _, rfl, rfl, ?_⟩
  have fl2 := fl1.same e2
  obtain ⟨⟨dx2, vc2, d2, kvs2, hob2, _⟩, _, _, _, _⟩ := id fl2
  have B2 := B1.same e2
  dsimp only
  refine w_seq (w_drop (w_meth ?_))
  refine w_var rfl ?_
  refine ⟨F, _, _, rfl, hob2, rfl, ?_⟩
  refine w_cons (w_un (w_call (w_cons (w_var rfl (w_cons (w_var rfl (w_cons (w_var rfl (w_cons (w_meth ?_))))))))))
  refine w_var rfl ⟨F, _, _, rfl, hob2, rfl, w_nil ?_⟩
  refine ⟨F, c, np, rs', t, m, n, _, rfl, fl2, A0.c1, A0.c2, w_nil ?_⟩
  refine ⟨F, w1, w2, c, np, rs', t, m, n, _, (arcF m n c).1, (arcF m n c).2, at2 t c.1 c.2, rfl, fl2, hS, A0.m60, A0.n60, p1, p2, pl1, A0.num, fun H3 b3 tk3 fl3 => ?_⟩
  refine ⟨_, rfl, w_nil ?_⟩
  refine ⟨F, c, np, rs', _, m, n, _, _, rfl, fl3, A0.c1, A0.c2, fun H4 b4 tk4 fl4 => ?_⟩
  walk_at "go"
  exact q F H4 np rs' (same_newM rs0 (e1.trans e2) (b3.trans b4)) fl4 np0 rs0
theorem sc_most_flow : FnScope ["grid", "hidden", "cell", "flow", "start", "goal"] ["grid", "hidden", "cell"] (defScope s_most_flow) := ⟨rfl, rfl, rfl, by decide +kernel, rfl, by decide +kernel, by decide +kernel⟩
theorem ok_most_flow (T : Tx K mg) : Ok P w K mg base 7 (He.ga K "most_flow") ["grid", "hidden", "cell"] (spMost K) := by
  obtain ⟨fd, F⟩ := T.f_most_flow
  have Opushed := ok_pushed (P := P) (w := w) (base := base) T
  have Onumber_at := ok_number_at (P := P) (w := w) (base := base) T
  have Olast_cell := ok_last_cell (P := P) (w := w) (base := base) T
  have Oarc_of := ok_arc_of (P := P) (w := w) (base := base) T
  refine ⟨fd, F.ok (k := 6) sc_most_flow (fun vs H Q E h => ?_) (fun cdv A outer s_ H vs Q E hr h => ?_), F.bindsN fun _ _ _ _ _ _ us hl => match us, hl with | [_, _, _], _ => rfl, F.kp⟩
  · obtain ⟨g, h, v, rs, t, m, n, ws, cs, c, rfl, A0, q⟩ := h
    rfl
  obtain ⟨g, h, v, rs, t, m, n, ws, cs, c, rfl, A0, q⟩ := h
  have hu65 := K3.Room.units65 hr
  have hu64 := Nat.lt_of_succ_lt hu65
  have hu0 := Nat.lt_of_le_of_lt (Nat.le_add_right _ 65) hu65
  have hu1 := Nat.lt_of_le_of_lt (Nat.add_le_add_left (show 1 ≤ 65 by decide) _) hu65
  have rpushed : Room 3 _ := hr.mono (by decide)
  have rnumber_at : Room 1 _ := hr.mono (by decide)
  have rlast_cell : Room 1 _ := hr.mono (by decide)
  have rarc_of : Room 2 _ := hr.mono (by decide)
  refine ⟨_, pss_cons (ps_set (i := 3) sc_most_flow.nd rfl (Or.inl rfl) (pe_mk (ok_Flow T) T.mk_Flow (hr.mono (by decide)) T.g_Flow (pa_cons (pv 0) (pa_cons (pv 1) (pa_cons (pv 2) pa_nil)))))
      (pss_cons (ps_asg (pe_f Oarc_of rarc_of T.g_arc_of (pa_cons (pv 0) (pa_cons (pv 2) pa_nil))) (pg_tup (by rfl) (pgs_cons (pg_name (i := 4) sc_most_flow.nd rfl (Or.inl rfl)) (pgs_cons (pg_name (i := 5) sc_most_flow.nd rfl (Or.inl rfl)) pgs_nil))))
      (pss_cons (ps_expr (pe_mth (pv 3) T.cl_Flow (ok_change T) T.m_Flow_change (hr.mono (by decide)) (pa_cons (pe_f Opushed rpushed T.g_pushed (pa_cons (pv 3) (pa_cons (pv 5) (pa_cons (pv 4) (pa_cons (pe_op op_sub (pe_f Onumber_at rnumber_at T.g_number_at (pa_cons (pv 0) (pa_cons (pe_f Olast_cell rlast_cell T.g_last_cell (pa_cons (pv 0) pa_nil)) pa_nil))) (pe_mth0 (pv 3) T.cl_Flow (ok_now T) T.m_Flow_number_now (hr.mono (by decide)))) pa_nil))))) pa_nil)))
      (pss_one (ps_ret (pv 3))))), ?_⟩
  have A1 := A0
  walk_at "go"
  refine w_make ?_
  walk_at "go"
  refine fun F dx hF hdx hne => ?_
  have eA : Same H (upd (upd H dx (.own F)) F (.ins (He.ga K "Flow") dx [])) := (Same.new hdx _).trans (Same.new (by rw [upd_ne hne.symm]; exact hF) _)
  refine ⟨F, dx, g, h, v, rs, t, m, n, ws, cs, c, H, rfl, eA, hF, A0.tab, A0.rect, A0.m1, A0.n1, A0.m60, A0.n60, A0.at_, A0.cells, A0.len, A0.cell, upd_same, fun H1 np rs' e1 fl1 np0 rs0 => ⟨rfl, ?_⟩⟩
  have hS : StepsOk m n (stepsF m n (othersF cs c)) := steps_ok A0.m1 A0.n1 (fun k hk => A0.inn k (List.mem_filter.mp hk).1) (Nat.le_trans (List.length_filter_le _ _) A0.len)
  obtain ⟨pl1, pl2⟩ := arc_place (m := m) (n := n) A0.c1 A0.c2
  have B1 := A0.same e1
  walk_at "go"
  refine ⟨g, v, rs, t, m, n, c, rfl, B1.tab, A0.rect, A0.m1, A0.n1, B1.cell, fun a H2 w1 w2 e2 ha p1 p2 => ?_⟩
  refine ⟨a, _, rfl, SqT.of ha, rfl, _, _, rfl, _, _, rfl, rfl, ?_⟩
  have fl2 := fl1.same e2
  obtain ⟨⟨dx2, vc2, d2, kvs2, hob2, _⟩, _, _, _, _⟩ := id fl2
  have B2 := B1.same e2
  dsimp only
  refine w_seq (w_drop (w_meth ?_))
  refine w_var rfl ?_
  refine ⟨F, _, _, rfl, hob2, rfl, ?_⟩
  refine w_cons (w_call (w_cons (w_var rfl (w_cons (w_var rfl (w_cons (w_var rfl (w_cons (w_op (w_call (w_cons (w_var rfl (w_cons (w_call (w_cons (w_var rfl (w_nil ?_)))))))))))))))))
  refine ⟨g, rs, t, m, n, rfl, B2.tab, A0.rect, A0.m1, A0.n1, fun al H5 e5 hal => w_nil ?_⟩
  have m1 := A0.m1
  have n1 := A0.n1
  refine ⟨g, .ref al, rs, t, m, n, m - 1, n - 1, rfl, (B2.same e5).tab, A0.rect, hal, by omega, by omega, ?_⟩
  have fl5 := fl2.same e5
  have hob5 := e5 _ _ hob2
  refine w_meth (w_var rfl ⟨F, _, _, rfl, hob5, rfl, w_nil ?_⟩)
  refine ⟨F, c, np, rs', t, m, n, _, rfl, fl5, A0.c1, A0.c2, w_i0 (w_nil ?_)⟩
  refine ⟨F, w2, w1, c, np, rs', t, m, n, _, (arcF m n c).2, (arcF m n c).1, roomF m n t c, rfl, fl5, hS, A0.m60, A0.n60, p2.same e5, p1.same e5, pl2, A0.room, fun H3 b3 tk3 fl3 => w_nil ?_⟩
  refine ⟨F, c, np, rs', _, m, n, _, _, rfl, fl3, A0.c1, A0.c2, fun H4 b4 tk4 fl4 => ?_⟩
  walk_at "go"
  exact q F H4 np rs' (same_newM rs0 (e1.trans (e2.trans e5)) (b3.trans b4)) fl4 np0 rs0
end
end K3
end F9_part
section F10_part
set_option Elab.async false
set_option linter.all false
set_option maxRecDepth 100000
set_option maxHeartbeats 1000000
set_option pp.deepTerms.threshold 5
open PySem PySem.Spec PyProof.Rows L2
/-- go on as far as nothing is open -/
local macro_rules | `(tactic| walk_at "go") => `(tactic| repeat (first
  | with_reducible refine w_seq ?_ | with_reducible refine w_next ?_ | with_reducible refine w_set ?_ | with_reducible refine w_drop ?_ | with_reducible refine w_ret ?_ | with_reducible refine w_retN ?_
  | with_reducible refine w_if ?_ | ((with_reducible refine' w_var ?hv ?_); (case hv => exact rfl)) | with_reducible refine w_c ?_ | with_reducible refine w_nil ?_ | with_reducible refine w_cons ?_ | with_reducible refine w_op ?_ | with_reducible refine w_un ?_
  | with_reducible refine w_test ?_ | with_reducible refine w_tB ?_ | with_reducible refine w_not ?_ | with_reducible refine w_and ?_ | with_reducible refine w_or ?_ | with_reducible refine w_bl ?_
  | with_reducible refine w_andV ?_ | with_reducible refine w_orV ?_ | with_reducible refine w_notV ?_ | with_reducible refine w_ifE ?_ | with_reducible refine w_chain ?_ | with_reducible refine w_i0 ?_
  | with_reducible refine w_call ?_ | with_reducible refine w_callS ?_ | with_reducible refine w_cB ?_ | with_reducible refine w_tup ?_ | with_reducible refine w_lst ?_ | with_reducible refine w_fldV ?_
  | with_reducible refine w_neF ?_ | with_reducible refine w_neT ?_ | with_reducible refine w_notN ?_ | with_reducible refine w_isN ?_ | with_reducible refine w_gname ?_ | with_reducible refine w_gsub ?_ | with_reducible refine w_asg ?_ | with_reducible refine w_sl ?_ | with_reducible refine w_noP ?_ | with_reducible refine w_int1 ?_ | with_reducible refine w_part ?_ | with_reducible refine w_yes ?_ | with_reducible refine w_nT ?_ | with_reducible refine w_nF ?_ | with_reducible refine w_iteT ?_ | with_reducible refine w_iteF ?_))
namespace L2
open PySem PySem.Spec PyProof.Rows
/-- a def whose last parameters are handed in by name, and its promise -/
structure OkK (P : Program) (w : World) (K : PySem.W.Frag) (mg : Str → Option Value) (base : Heap) (k : Nat) (f : Addr) (ps : List Str) (n : Nat) (ks : List Str) (sp : Sp) : Prop where
  run : ∃ fd, FnOk P w K mg base (L2.CX P w) k f fd ps sp ∧ KBn K fd ps n ks (fun us ws => us ++ ws) (fun vs zs => vs ++ zs) ∧ PySem.W.keepIn K (.ref f) = true
theorem kb_of {K : PySem.W.Frag} {x qual : Str} {params : Arguments} {body : List Stmt} {scope : Scope} {f : Addr} {fd : FuncData} {ps ks : List Str} {n : Nat} (F : FunD K x qual params body scope [] [] f fd)
    (h : ∀ (kV doc pm : Value) (an : Option Addr) (cdv ct : Value) (us ws : List Value), us.length = n → ws.length = ks.length → bindArgs (PySem.W.fnOf x qual params body scope .none kV doc pm an cdv ct) ⟨us, ks.zip ws⟩ = pure (ps.zip (us ++ ws))) : KBn K fd ps n ks (fun us ws => us ++ ws) (fun vs zs => vs ++ zs) := by
  obtain ⟨oc, od, dV, kV, doc, pm, an, cdv, ct, osl, rfl, lk, hcd, hD, hK⟩ := F.ex
  rcases hD with ⟨_, rfl⟩ | ⟨e, _⟩
  · exact ⟨fun s us ws _ h1 h2 => .of_eq (h kV doc pm an cdv ct us ws h1 h2), fun a b => a.append b⟩
  · exact absurd rfl e
section
variable {X : Cx} {k n : Nat} {f : Addr} {ps ks : List Str} {sp : Sp} {x : Str} {e : Expr} {es : List Expr} {kws : List Keyword} {p pos : Pos} {t tk : TA}
theorem pe_fK (O : OkK X.prog X.w X.K X.mg X.base k f ps n ks sp) (hr : Room k X.A) (hm : X.mg x = some (.ref f)) (ha : PA X (e :: es) t) (hkw : PK X kws tk) (hg : Gl X x := by rfl) (hall : (backToKw pos (keywordEach kws X.env)).all (·.1.isSome) = true := by rfl)
    (hks : (backToKw pos (keywordEach kws X.env)).filterMap (·.1) = ks := by rfl) (hdb : (x == ("__debug__" : Str)) = false := by decide) (he : starEach (e :: es) X.env = (false, eval e X.env) :: starEach es X.env := by rfl)
    (hpl : ((backTo pos (starEach (e :: es) X.env)).any (·.1) || (backToKw pos (keywordEach kws X.env)).any (·.1.isNone)) = false := by rfl) : PE X (.Call (.Name x p) (e :: es) kws pos) (tCallN n ks.length sp (fun vs zs => vs ++ zs) E0 t tk) := by
  obtain ⟨fd, F, b, kp⟩ := O.run
  exact pe_callN F hr hg hm kp b passL ha hkw hall hks hdb he hpl
theorem w_callN {σ : L2.St} {H : Hp} {Q : VK} {E : XK} {m : Nat} (h : t σ H fun vs H1 => tk σ H1 fun zs H2 => vs.length = n ∧ zs.length = m ∧ sp (vs ++ zs) H2 Q E) : tCallN n m sp (fun vs zs => vs ++ zs) E t tk σ H Q := h
end
end L2
namespace K3
def spShown (K : PySem.W.Frag) : Sp := fun vs H Q _ => ∃ (g l : Addr) (v : V) (rs : List Addr) (t : List (List Int)) (m n : Nat) (ws : List V) (cs : List (Nat × Nat)) (c : Nat × Nat), vs = [.ref g, .ref l, v] ∧ GT K H g rs t ∧ Rect t m n ∧ m ≤ 60 ∧ n ≤ 60 ∧ H l = some (.lst ws) ∧ Paired (CellAt H) ws cs ∧ cs.length ≤ 100 ∧ (∀ k ∈ cs, k.1 < m ∧ k.2 < n) ∧ CellAt H v c ∧ c ∈ cs ∧ Q .non H
def spReach (K : PySem.W.Frag) : Sp := fun vs H Q _ => ∃ (g : Addr) (hv v : V) (rs : List Addr) (t : List (List Int)) (m n : Nat) (hs : List (Nat × Nat)) (c : Nat × Nat), vs = [.ref g, hv, v] ∧ GT K H g rs t ∧ Rect t m n ∧ 1 ≤ m ∧ 1 ≤ n ∧ m ≤ 60 ∧ n ≤ 60 ∧ HidIn K H hv hs m n ∧ CellAt H v c ∧ c ∈ hs ∧ 0 ≤ at2 t c.1 c.2 ∧ 0 ≤ roomF m n t c ∧
  ∀ hs' a H' np1 rs1 np2 rs2, (∀ k, k ∈ hs' ↔ k ∈ hs) → Srt hs' → Same H H' → H a = none → H' a = some (.tup [.int (at2 (leastF m n hs' t c) c.1 c.2), .int (at2 (mostF m n hs' t c) c.1 c.2), .ref np1, .ref np2]) →
    Tab H' np1 rs1 (leastF m n hs' t c) → Rect (leastF m n hs' t c) m n → Tab H' np2 rs2 (mostF m n hs' t c) → Rect (mostF m n hs' t c) m n → H np1 = none → (∀ r ∈ rs1, H r = none) → H np2 = none → (∀ r ∈ rs2, H r = none) → np1 ∉ rs1 → np2 ∉ rs1 → (∀ r ∈ rs2, r ∉ rs1) → Q (.ref a) H'
section
variable {P : Program} {w : World} {K : PySem.W.Frag} {mg : Str → Option Value} {base : Heap}
theorem sc_refuse_shown : FnScope ["grid", "hidden", "cell"] ["grid", "hidden", "cell"] (defScope s_refuse_shown) := ⟨rfl, rfl, rfl, by decide +kernel, rfl, by decide +kernel, by decide +kernel⟩
theorem ok_refuse_shown (T : Tx K mg) : Ok P w K mg base 2 (He.ga K "refuse_shown") ["grid", "hidden", "cell"] (spShown K) := by
  obtain ⟨fd, F⟩ := T.f_refuse_shown
  have Orefuse_no_cell := ok_refuse_no_cell (P := P) (w := w) (base := base) T
  refine ⟨fd, F.ok (k := 1) sc_refuse_shown (fun vs H Q E h => ?_) (fun cdv A outer s_ H vs Q E hr h => ?_), F.bindsN fun _ _ _ _ _ _ us hl => match us, hl with | [_, _, _], _ => rfl, F.kp⟩
  · obtain ⟨g, l, v, rs, t, m, n, ws, cs, c, rfl, ht, hR, m60, n60, hl, hw, hlen, hb, hv, hc, q⟩ := h
    rfl
  obtain ⟨g, l, v, rs, t, m, n, ws, cs, c, rfl, ht, hR, m60, n60, hl, hw, hlen, hb, hv, hc, q⟩ := h
  have hu65 := K3.Room.units65 hr
  have hu64 := Nat.lt_of_succ_lt hu65
  have hu0 := Nat.lt_of_le_of_lt (Nat.le_add_right _ 65) hu65
  have hu1 := Nat.lt_of_le_of_lt (Nat.add_le_add_left (show 1 ≤ 65 by decide) _) hu65
  have rrefuse_no_cell : Room 1 _ := hr.mono (by decide)
  refine ⟨_, pss_cons (ps_expr (pe_f Orefuse_no_cell rrefuse_no_cell T.g_refuse_no_cell (pa_cons (pv 0) (pa_cons (pv 2) pa_nil))))
      (pss_one (ps_if (pt_cmpR (op_notInC hu65) (pv 2) (pv 1) (by rfl)) (pss_one ps_dead) pss_nil)), ?_⟩
  obtain ⟨c1, c2⟩ := hb c hc
  walk_at "go"
  refine ⟨g, v, rs, t, m, n, c.1, c.2, rfl, ht, hR, hv, c1, c2, ?_⟩
  walk_at "go"
  refine ⟨l, ws, cs, c, hv, rfl, .inl (SqL.of hl), hw, by omega, fun k hk => by have := hb k hk; omega, ⟨by omega, by omega⟩, ?_⟩
  rw [decide_eq_true hc]
  walk_at "go"
  exact q
theorem sc_reach : FnScope ["grid", "hidden", "cell", "cells", "least", "most"] ["grid", "hidden", "cell"] (defScope s_reach) := ⟨rfl, rfl, rfl, by decide +kernel, rfl, by decide +kernel, by decide +kernel⟩
theorem ok_reach (T : Tx K mg) : OkK P w K mg base 8 (He.ga K "reach") ["grid", "hidden", "cell"] 2 ["cell"] (spReach K) := by
  obtain ⟨fd, F⟩ := T.f_reach
  have Oread_hidden := ok_read_hidden (P := P) (w := w) (base := base) T
  have Orefuse_shown := ok_refuse_shown (P := P) (w := w) (base := base) T
  have Oleast_flow := ok_least_flow (P := P) (w := w) (base := base) T
  have Omost_flow := ok_most_flow (P := P) (w := w) (base := base) T
  refine ⟨fd, F.ok (k := 7) sc_reach (fun vs H Q E h => ?_) (fun cdv A outer s_ H vs Q E hr h => ?_), kb_of F fun _ _ _ _ _ _ us ws h1 h2 => match us, ws, h1, h2 with | [_, _], [_], _, _ => rfl, F.kp⟩
  · obtain ⟨g, hv, v, rs, t, m, n, hs, c, rfl, _⟩ := h
    rfl
  obtain ⟨g, hv, v, rs, t, m, n, hs, c, rfl, ht, hR, m1, n1, m60, n60, hh, hv', hc, h0, hrm, q⟩ := h
  have rread_hidden : Room 2 _ := hr.mono (by decide)
  have rrefuse_shown : Room 2 _ := hr.mono (by decide)
  have rleast_flow : Room 7 _ := hr.mono (by decide)
  have rmost_flow : Room 7 _ := hr.mono (by decide)
  refine ⟨_, pss_cons (ps_set (i := 3) sc_reach.nd rfl (Or.inl rfl) (pe_f Oread_hidden rread_hidden T.g_read_hidden (pa_cons (pv 0) (pa_cons (pv 1) pa_nil))))
      (pss_cons (ps_expr (pe_f Orefuse_shown rrefuse_shown T.g_refuse_shown (pa_cons (pv 0) (pa_cons (pv 3) (pa_cons (pv 2) pa_nil)))))
      (pss_cons (ps_set (i := 4) sc_reach.nd rfl (Or.inl rfl) (pe_f Oleast_flow rleast_flow T.g_least_flow (pa_cons (pv 0) (pa_cons (pv 3) (pa_cons (pv 2) pa_nil)))))
      (pss_cons (ps_set (i := 5) sc_reach.nd rfl (Or.inl rfl) (pe_f Omost_flow rmost_flow T.g_most_flow (pa_cons (pv 0) (pa_cons (pv 3) (pa_cons (pv 2) pa_nil)))))
      (pss_one (ps_ret (pe_tup (pa_cons (pe_mth0 (pv 4) T.cl_Flow (ok_now T) T.m_Flow_number_now (hr.mono (by decide))) (pa_cons (pe_mth0 (pv 5) T.cl_Flow (ok_now T) T.m_Flow_number_now (hr.mono (by decide))) (pa_cons (pe_fld (pv 4) rfl) (pa_cons (pe_fld (pv 5) rfl) pa_nil)))))))))), ?_⟩
  walk_at "go"
  refine ⟨g, hv, rs, t, m, n, hs, rfl, ht, hR, m1, n1, m60, n60, hh, fun l H1 ws cs e1 h1 hw1 hcs lcs srt => ?_⟩
  have inn : ∀ k ∈ cs, k.1 < m ∧ k.2 < n := fun k hk => by
    obtain ⟨p, wp, _, _, _, hmem, _⟩ := hh
    have := drop_mem m1 n1 (hmem k ((hcs k).mp hk))
    exact ⟨this.1, this.2.1⟩
  have hc' : c ∈ cs := (hcs c).mpr hc
  obtain ⟨c1, c2⟩ := inn c hc'
  have A1 : Asked K H1 g l v rs t m n ws cs c := ⟨ht.same e1, hR, m1, n1, m60, n60, h1, hw1, lcs, inn, hv'.same e1, c1, c2, h0, hrm⟩
  walk_at "go"
  refine ⟨g, l, v, rs, t, m, n, ws, cs, c, rfl, A1.tab, hR, m60, n60, h1, hw1, lcs, inn, A1.cell, hc', ?_⟩
  walk_at "go"
  refine ⟨g, l, v, rs, t, m, n, ws, cs, c, rfl, A1, fun F1 H2 np1 rs1 e2 fl1 np10 rs10 => ?_⟩
  have A2 := A1.same e2
  walk_at "go"
  refine ⟨g, l, v, rs, t, m, n, ws, cs, c, rfl, A2, fun F2 H3 np2 rs2 e3 fl2 np20 rs20 => ?_⟩
  have fl1' := fl1.same e3
  obtain ⟨⟨dx1, vc1, d1, kvs1, hob1, hvc1, _⟩, htab1, hrect1, hnd1, hne1⟩ := id fl1'
  obtain ⟨⟨dx2, vc2, d2, kvs2, hob2, hvc2, _⟩, htab2, hrect2, hnd2, hne2⟩ := id fl2
  refine w_tup (w_cons (w_meth (w_var rfl ⟨F1, _, _, rfl, hob1, rfl, w_nil ?_⟩)))
  refine ⟨F1, c, np1, rs1, _, m, n, _, rfl, fl1', c1, c2, ?_⟩
  refine w_cons (w_meth (w_var rfl ⟨F2, _, _, rfl, hob2, rfl, w_nil ?_⟩))
  refine ⟨F2, c, np2, rs2, _, m, n, _, rfl, fl2, c1, c2, ?_⟩
  refine w_cons (w_fldV (w_var rfl ⟨F1, _, dx1, _, _, rfl, hob1, T.cl_Flow, T.n_Flow_numbers, rfl, ?_⟩))
  refine w_cons (w_fldV (w_var rfl ⟨F2, _, dx2, _, _, rfl, hob2, T.cl_Flow, T.n_Flow_numbers, rfl, w_nil ?_⟩))
  refine ⟨(by show 4 ≤ sizeLine; decide), fun a ha => ?_⟩
  have e4 := Same.new ha (.tup [.int (at2 (leastF m n cs t c) c.1 c.2), .int (at2 (mostF m n cs t c) c.1 c.2), V.ref np1, V.ref np2])
  have n12 : ∀ r ∈ rs1, H2 r ≠ none := fun r hr z => by
    obtain ⟨row, hrow⟩ := paired_has fl1.tab.rows hr
    have hrow : H2 r = some _ := hrow
    rw [z] at hrow
    cases hrow
  refine q cs a _ np1 rs1 np2 rs2 hcs srt ((e1.trans (e2.trans e3)).trans e4) ((e1.trans (e2.trans e3)).free ha) upd_same (htab1.same e4) hrect1 (htab2.same e4) hrect2 (e1.free np10) (fun r hr => e1.free (rs10 r hr)) ((e1.trans e2).free np20) (fun r hr => (e1.trans e2).free (rs20 r hr)) hne1 (fun z => n12 _ z np20) fun r hr z => n12 r z (rs20 r hr)
end
end K3
end F10_part
section N1_part
set_option Elab.async false
set_option linter.all false
set_option maxRecDepth 100000
set_option maxHeartbeats 1000000
set_option pp.deepTerms.threshold 5
open PySem PySem.Spec PyProof.Rows L2
/-- go on as far as nothing is open -/
local macro_rules | `(tactic| walk_at "go") => `(tactic| repeat (first
  | with_reducible refine w_seq ?_ | with_reducible refine w_next ?_ | with_reducible refine w_set ?_ | with_reducible refine w_drop ?_ | with_reducible refine w_ret ?_ | with_reducible refine w_retN ?_
  | with_reducible refine w_if ?_ | ((with_reducible refine' w_var ?hv ?_); (case hv => exact rfl)) | with_reducible refine w_c ?_ | with_reducible refine w_nil ?_ | with_reducible refine w_cons ?_ | with_reducible refine w_op ?_ | with_reducible refine w_un ?_
  | with_reducible refine w_test ?_ | with_reducible refine w_tB ?_ | with_reducible refine w_not ?_ | with_reducible refine w_and ?_ | with_reducible refine w_or ?_ | with_reducible refine w_bl ?_
  | with_reducible refine w_andV ?_ | with_reducible refine w_orV ?_ | with_reducible refine w_notV ?_ | with_reducible refine w_ifE ?_ | with_reducible refine w_chain ?_ | with_reducible refine w_i0 ?_
  | with_reducible refine w_call ?_ | with_reducible refine w_callS ?_ | with_reducible refine w_cB ?_ | with_reducible refine w_tup ?_ | with_reducible refine w_lst ?_ | with_reducible refine w_fldV ?_
  | with_reducible refine w_neF ?_ | with_reducible refine w_neT ?_ | with_reducible refine w_notN ?_ | with_reducible refine w_isN ?_ | with_reducible refine w_gname ?_ | with_reducible refine w_gsub ?_ | with_reducible refine w_asg ?_ | with_reducible refine w_sl ?_ | with_reducible refine w_noP ?_ | with_reducible refine w_int1 ?_ | with_reducible refine w_part ?_ | with_reducible refine w_yes ?_ | with_reducible refine w_nT ?_ | with_reducible refine w_nF ?_ | with_reducible refine w_iteT ?_ | with_reducible refine w_iteF ?_))
namespace K3
/-! ### sums -/
def S (n : Nat) (f : Nat → Int) : Int := ((List.range n).map f).sum
theorem S_zero (f : Nat → Int) : S 0 f = 0 := rfl
theorem S_succ (n : Nat) (f : Nat → Int) : S (n + 1) f = S n f + f n := by
  unfold S
  rw [List.range_succ, List.map_append, List.sum_append]
  simp
theorem S_congr {n : Nat} {f g : Nat → Int} (h : ∀ i < n, f i = g i) : S n f = S n g := by
  induction n with
  | zero => rfl
  | succ n ih => rw [S_succ, S_succ, ih fun i hi => h i (by omega), h n (by omega)]
theorem S_add (n : Nat) (f g : Nat → Int) : S n (fun i => f i + g i) = S n f + S n g := by
  induction n with
  | zero => rfl
  | succ n ih => rw [S_succ, S_succ, S_succ, ih]; omega
theorem S_mul (n : Nat) (a : Int) (f : Nat → Int) : S n (fun i => a * f i) = a * S n f := by
  induction n with
  | zero => rw [S_zero, S_zero, Int.mul_zero]
  | succ n ih => rw [S_succ, S_succ, ih, Int.mul_add]
theorem S_nul {n : Nat} {f : Nat → Int} (h : ∀ i < n, f i = 0) : S n f = 0 := by
  induction n with
  | zero => rfl
  | succ n ih => rw [S_succ, ih fun i hi => h i (by omega), h n (by omega)]; rfl
theorem S_swap (m n : Nat) (f : Nat → Nat → Int) : S m (fun i => S n fun j => f i j) = S n fun j => S m fun i => f i j := by
  induction m with
  | zero => rw [S_zero]; exact (S_nul fun j _ => rfl).symm
  | succ m ih =>
    rw [S_succ, ih, ← S_add]
    exact S_congr fun j _ => (S_succ m fun i => f i j).symm
theorem S_le {n : Nat} {f : Nat → Int} (h : ∀ i < n, f i ≤ 0) : S n f ≤ 0 := by
  induction n with
  | zero => exact Int.le_refl 0
  | succ n ih =>
    rw [S_succ]
    have := ih fun i hi => h i (by omega)
    have := h n (by omega)
    omega
theorem S_one {n k : Nat} {f : Nat → Int} (hk : k < n) (h : ∀ i < n, i ≠ k → f i ≤ 0) : S n f ≤ f k := by
  induction n with
  | zero => omega
  | succ n ih =>
    rw [S_succ]
    by_cases c : k = n
    · subst c
      have := S_le (n := k) (f := f) fun i hi => h i (by omega) (by omega)
      omega
    · have := ih (by omega) fun i hi ne => h i (by omega) ne
      have := h n (by omega) (fun z => c z.symm)
      omega
/-! ### what comes in and goes out -/
def sg (m n i j : Nat) : Int := if decide (i = m - 1) = decide (j = n - 1) then 1 else -1
def chi (a b : Pl) : Int := if a = b then 1 else 0
def net (m n : Nat) (d : Nat → Nat → Int) (p : Pl) : Int := if p.1 then S n fun j => sg m n p.2 j * d p.2 j else -(S m fun i => sg m n i p.2 * d i p.2)
theorem arc_sg (m n : Nat) (c : Nat × Nat) (q : Pl → Int) : q (arcF m n c).1 - q (arcF m n c).2 = sg m n c.1 c.2 * (q (true, c.1) - q (false, c.2)) := by
  unfold arcF sg
  split
  · show q (true, c.1) - q (false, c.2) = _
    omega
  · show q (false, c.2) - q (true, c.1) = _
    omega
/-- nothing is left over at any cut -/
theorem cut_zero {m n : Nat} {d : Nat → Nat → Int} (h : ∀ p : Pl, p.2 < (if p.1 then m else n) → net m n d p = 0) (q : Pl → Int) : S m (fun i => S n fun j => d i j * (q (arcF m n (i, j)).1 - q (arcF m n (i, j)).2)) = 0 := by
  have e : S m (fun i => S n fun j => d i j * (q (arcF m n (i, j)).1 - q (arcF m n (i, j)).2)) = S m (fun i => q (true, i) * S n fun j => sg m n i j * d i j) + S m (fun i => S n fun j => -(q (false, j)) * (sg m n i j * d i j)) := by
    rw [← S_add]
    refine S_congr fun i _ => ?_
    rw [← S_mul, ← S_add]
    refine S_congr fun j _ => ?_
    rw [arc_sg]
    show d i j * (sg m n i j * (q (true, i) - q (false, j))) = q (true, i) * (sg m n i j * d i j) + -(q (false, j)) * (sg m n i j * d i j)
    generalize sg m n i j = s
    generalize q (true, i) = a
    generalize q (false, j) = b
    rw [Int.mul_sub, Int.mul_sub, Int.neg_mul, ← Int.sub_eq_add_neg]
    rw [show d i j * (s * a) = a * (s * d i j) by rw [Int.mul_comm s a, ← Int.mul_assoc, Int.mul_comm (d i j) a, Int.mul_assoc, Int.mul_comm (d i j) s]]
    rw [show d i j * (s * b) = b * (s * d i j) by rw [Int.mul_comm s b, ← Int.mul_assoc, Int.mul_comm (d i j) b, Int.mul_assoc, Int.mul_comm (d i j) s]]
  rw [e, S_swap m n]
  have r1 : S m (fun i => q (true, i) * S n fun j => sg m n i j * d i j) = 0 := S_nul fun i hi => by
    have := h (true, i) (by simpa using hi)
    have : S n (fun j => sg m n i j * d i j) = 0 := this
    rw [this, Int.mul_zero]
  have r2 : S n (fun j => S m fun i => -(q (false, j)) * (sg m n i j * d i j)) = 0 := S_nul fun j hj => by
    rw [S_mul]
    have := h (false, j) (by simpa using hj)
    have : -(S m fun i => sg m n i j * d i j) = 0 := this
    rw [show S m (fun i => sg m n i j * d i j) = 0 by omega, Int.mul_zero]
  rw [r1, r2]
  rfl
/-- if all but one arc that cross go the one way with nothing, the one does not go the other -/
theorem cut_sign {m n : Nat} {d : Nat → Nat → Int} (h : ∀ p : Pl, p.2 < (if p.1 then m else n) → net m n d p = 0) (q : Pl → Int) {c : Nat × Nat} (c1 : c.1 < m) (c2 : c.2 < n)
    (ho : ∀ i < m, ∀ j < n, (i, j) ≠ c → d i j * (q (arcF m n (i, j)).1 - q (arcF m n (i, j)).2) ≤ 0) : 0 ≤ d c.1 c.2 * (q (arcF m n c).1 - q (arcF m n c).2) := by
  have z := cut_zero h q
  have one := S_one (n := m) (k := c.1) (f := fun i => S n fun j => d i j * (q (arcF m n (i, j)).1 - q (arcF m n (i, j)).2)) c1 fun i hi ne => S_le fun j hj => ho i hi j hj fun e => ne (by rw [← e])
  have two := S_one (n := n) (k := c.2) (f := fun j => d c.1 j * (q (arcF m n (c.1, j)).1 - q (arcF m n (c.1, j)).2)) c2 fun j hj ne => ho c.1 c1 j hj fun e => ne (by rw [← e])
  rw [z] at one
  have two' : S n (fun j => d c.1 j * (q (arcF m n (c.1, j)).1 - q (arcF m n (c.1, j)).2)) ≤ d c.1 c.2 * (q (arcF m n c).1 - q (arcF m n c).2) := two
  exact Int.le_trans one two'
end K3
end N1_part
section N2_part
set_option Elab.async false
set_option linter.all false
set_option maxRecDepth 100000
set_option maxHeartbeats 1000000
set_option pp.deepTerms.threshold 5
open PySem PySem.Spec PyProof.Rows L2
/-- go on as far as nothing is open -/
local macro_rules | `(tactic| walk_at "go") => `(tactic| repeat (first
  | with_reducible refine w_seq ?_ | with_reducible refine w_next ?_ | with_reducible refine w_set ?_ | with_reducible refine w_drop ?_ | with_reducible refine w_ret ?_ | with_reducible refine w_retN ?_
  | with_reducible refine w_if ?_ | ((with_reducible refine' w_var ?hv ?_); (case hv => exact rfl)) | with_reducible refine w_c ?_ | with_reducible refine w_nil ?_ | with_reducible refine w_cons ?_ | with_reducible refine w_op ?_ | with_reducible refine w_un ?_
  | with_reducible refine w_test ?_ | with_reducible refine w_tB ?_ | with_reducible refine w_not ?_ | with_reducible refine w_and ?_ | with_reducible refine w_or ?_ | with_reducible refine w_bl ?_
  | with_reducible refine w_andV ?_ | with_reducible refine w_orV ?_ | with_reducible refine w_notV ?_ | with_reducible refine w_ifE ?_ | with_reducible refine w_chain ?_ | with_reducible refine w_i0 ?_
  | with_reducible refine w_call ?_ | with_reducible refine w_callS ?_ | with_reducible refine w_cB ?_ | with_reducible refine w_tup ?_ | with_reducible refine w_lst ?_ | with_reducible refine w_fldV ?_
  | with_reducible refine w_neF ?_ | with_reducible refine w_neT ?_ | with_reducible refine w_notN ?_ | with_reducible refine w_isN ?_ | with_reducible refine w_gname ?_ | with_reducible refine w_gsub ?_ | with_reducible refine w_asg ?_ | with_reducible refine w_sl ?_ | with_reducible refine w_noP ?_ | with_reducible refine w_int1 ?_ | with_reducible refine w_part ?_ | with_reducible refine w_yes ?_ | with_reducible refine w_nT ?_ | with_reducible refine w_nF ?_ | with_reducible refine w_iteT ?_ | with_reducible refine w_iteF ?_))
namespace K3
abbrev inPl (m n : Nat) (p : Pl) : Prop := p.2 < (if p.1 then m else n)
theorem S_delta {n k : Nat} (a : Int) (hk : k < n) : S n (fun j => if j = k then a else 0) = a := by
  induction n with
  | zero => omega
  | succ n ih =>
    rw [S_succ]
    by_cases c : k = n
    · subst c
      rw [if_pos rfl, S_nul fun i hi => if_neg (by omega)]
      omega
    · rw [ih (by omega), if_neg (fun z => c z.symm)]
      omega
theorem net_delta {m n : Nat} {c : Nat × Nat} (c1 : c.1 < m) (c2 : c.2 < n) (x : Int) (p : Pl) : net m n (fun i j => if (i, j) = c then x else 0) p = x * (chi (arcF m n c).1 p - chi (arcF m n c).2 p) := by
  obtain ⟨b, k⟩ := p
  obtain ⟨i, j⟩ := c
  rw [arc_sg m n (i, j) fun r => chi r (b, k)]
  cases b with
  | true =>
    show S n (fun j' => sg m n k j' * (if (k, j') = (i, j) then x else 0)) = x * (sg m n i j * (chi (true, i) (true, k) - chi (false, j) (true, k)))
    have h0 : chi (false, j) (true, k) = 0 := if_neg (by simp)
    rw [h0]
    by_cases e : k = i
    · subst e
      have h1 : chi (true, k) (true, k) = 1 := if_pos rfl
      rw [h1, S_congr (g := fun j' => if j' = j then sg m n k j * x else 0) fun j' _ => ?_, S_delta _ c2]
      · rw [Int.sub_zero, Int.mul_one, Int.mul_comm]
      · by_cases z : j' = j
        · subst z
          rw [if_pos rfl, if_pos rfl]
        · rw [if_neg z, if_neg (fun w => z (by injection w)), Int.mul_zero]
    · have h1 : chi (true, i) (true, k) = 0 := if_neg (fun w => e (by injection w with _ w; exact w.symm))
      rw [h1, S_nul fun j' _ => by rw [if_neg (fun w => e (by injection w)), Int.mul_zero]]
      simp
  | false =>
    show -(S m fun i' => sg m n i' k * (if (i', k) = (i, j) then x else 0)) = x * (sg m n i j * (chi (true, i) (false, k) - chi (false, j) (false, k)))
    have h0 : chi (true, i) (false, k) = 0 := if_neg (by simp)
    rw [h0]
    by_cases e : k = j
    · subst e
      have h1 : chi (false, k) (false, k) = 1 := if_pos rfl
      rw [h1, S_congr (g := fun i' => if i' = i then sg m n i k * x else 0) fun i' _ => ?_, S_delta _ c1]
      · rw [show (0 : Int) - 1 = -1 from rfl, Int.mul_neg, Int.mul_neg, Int.mul_one, Int.mul_comm]
      · by_cases z : i' = i
        · subst z
          rw [if_pos rfl, if_pos rfl]
        · rw [if_neg z, if_neg (fun w => z (by injection w)), Int.mul_zero]
    · have h1 : chi (false, j) (false, k) = 0 := if_neg (fun w => e (by injection w with _ w; exact w.symm))
      rw [h1, S_nul fun i' _ => by rw [if_neg (fun w => e (by injection w)), Int.mul_zero]]
      simp
theorem net_sum (m n : Nat) (d e : Nat → Nat → Int) (p : Pl) : net m n (fun i j => d i j + e i j) p = net m n d p + net m n e p := by
  unfold net
  split
  · rw [← S_add]
    exact S_congr fun j _ => Int.mul_add ..
  · rw [S_congr (g := fun i => sg m n i p.2 * d i p.2 + sg m n i p.2 * e i p.2) fun i _ => Int.mul_add .., S_add]
    omega
theorem net_congr {m n : Nat} {d e : Nat → Nat → Int} (h : ∀ i < m, ∀ j < n, d i j = e i j) {p : Pl} (hp : inPl m n p) : net m n d p = net m n e p := by
  unfold net
  split
  · rename_i c
    rw [S_congr fun j hj => by rw [h p.2 (by simpa [inPl, c] using hp) j hj]]
  · rename_i c
    rw [S_congr fun i hi => by rw [h i hi p.2 (by simpa [inPl, c] using hp)]]
theorem at2_add {m n : Nat} {u : List (List Int)} (hu : Rect u m n) {c : Nat × Nat} (c1 : c.1 < m) (c2 : c.2 < n) (x : Int) {i j : Nat} (hi : i < m) (hj : j < n) : at2 (addAt u c x) i j = at2 u i j + (if (i, j) = c then x else 0) := by
  obtain ⟨a, b⟩ := c
  have la : a < u.length := by rw [hu.1]; exact c1
  unfold addAt
  by_cases e : i = a
  · subst e
    have e1 : at2 (u.set i ((u.getD i []).set b (at2 u i b + x))) i j = ((u.getD i []).set b (at2 u i b + x)).getD j 0 := at2_of (by rw [List.getElem?_set_self la])
    show at2 (u.set i ((u.getD i []).set b (at2 u i b + x))) i j = _
    rw [e1]
    have lr : (u.getD i []).length = n := by
      rw [List.getD_eq_getElem?_getD, List.getElem?_eq_getElem la]
      exact hu.2 _ (List.getElem_mem la)
    by_cases z : j = b
    · subst z
      rw [if_pos rfl, List.getD_eq_getElem?_getD, List.getElem?_set_self (by omega)]
      rfl
    · rw [if_neg (fun w => z (by injection w)), List.getD_eq_getElem?_getD, List.getElem?_set_ne (fun w => z w.symm), Int.add_zero]
      rfl
  · rw [if_neg (fun w => e (by injection w)), Int.add_zero]
    have e2 : ∀ r : List Int, (u.set a r).getD i [] = u.getD i [] := fun r => by
      rw [List.getD_eq_getElem?_getD, List.getElem?_set_ne (fun w => e w.symm), ← List.getD_eq_getElem?_getD]
    unfold at2
    show ((u.set a _).getD i []).getD j 0 = _
    rw [e2]
theorem net_addAt {m n : Nat} {u : List (List Int)} (hu : Rect u m n) {c : Nat × Nat} (c1 : c.1 < m) (c2 : c.2 < n) (x : Int) {p : Pl} (hp : inPl m n p) : net m n (at2 (addAt u c x)) p = net m n (at2 u) p + x * (chi (arcF m n c).1 p - chi (arcF m n c).2 p) := by
  rw [net_congr (e := fun i j => at2 u i j + (if (i, j) = c then x else 0)) (fun i hi j hj => at2_add hu c1 c2 x hi hj) hp, net_sum, net_delta c1 c2]
/-! ### ways, with the places that they come to -/
inductive PathP (f : Pl → List Stp) (start : Pl) : Pl → Way → List Pl → Prop
  | nil : PathP f start start [] []
  | step {p : Pl} {s : Stp} {w : Way} {ps : List Pl} : s ∈ f p → PathP f start p w ps → PathP f start s.to ((s.c, s.up) :: w) (s.to :: ps)
theorem way_pathP {m n : Nat} {u : List (List Int)} {f : Pl → List Stp} {start : Pl} {came : Came} (h : WOk m n u f start came) : ∀ (i k : Nat) (p : Pl) (o : Option Stp), came[i]? = some (p, o) → i < k →
    ∃ ps, PathP f start p (wayI came k o) ps ∧ ps.Nodup ∧ ∀ q ∈ ps, ∃ j o', j ≤ i ∧ came[j]? = some (q, o') := by
  intro i
  induction i using Nat.strongRecOn with
  | _ i ih =>
    intro k p o hi hk
    obtain ⟨k, rfl⟩ : ∃ j, k = j + 1 := ⟨k - 1, by omega⟩
    cases o with
    | none =>
      have := h.first i p hi
      subst this
      rw [h.zero] at hi
      cases hi
      exact ⟨[], .nil, List.nodup_nil, fun q hq => (by cases hq)⟩
    | some s =>
      obtain ⟨⟨j, o', hj, hj2⟩, hr, hm⟩ := h.step i p s hi
      obtain ⟨ps, h1, h2, h3⟩ := ih j hj k s.to o' hj2 (by omega)
      refine ⟨p :: ps, ?_, List.nodup_cons.mpr ⟨fun z => ?_, h2⟩, fun q hq => ?_⟩
      · show PathP f start p ((s.c, s.up) :: wayI came k (lookC came s.to)) (p :: ps)
        rw [look_at h.ok.nd hj2]
        exact PathP.step (s := ⟨p, s.c, s.up⟩) hm h1
      · obtain ⟨j', o2, hj', hj3⟩ := h3 p z
        have e1 : (keysOf came)[i]? = some p := by unfold keysOf; rw [List.getElem?_map, hi]; rfl
        have e2 : (keysOf came)[j']? = some p := by unfold keysOf; rw [List.getElem?_map, hj3]; rfl
        have := nodup_at h.ok.nd e1 e2
        omega
      · rcases List.mem_cons.mp hq with rfl | hq
        · exact ⟨i, _, Nat.le_refl _, hi⟩
        · obtain ⟨j', o2, hj', hj3⟩ := h3 q hq
          exact ⟨j', o2, by omega, hj3⟩
theorem wayF_pathP {m n : Nat} {u : List (List Int)} {f : Pl → List Stp} {start g : Pl} {came : Came} (h : WOk m n u f start came) (hg : g ∈ keysOf came) : ∃ ps, PathP f start g (wayF came g) ps ∧ ps.Nodup := by
  obtain ⟨⟨p, o⟩, hq, rfl⟩ := List.mem_map.mp hg
  obtain ⟨i, hi⟩ := List.getElem?_of_mem hq
  unfold wayF
  rw [look_at h.ok.nd hi]
  have := (List.getElem?_eq_some_iff.mp hi).1
  obtain ⟨ps, h1, h2, _⟩ := way_pathP h i (came.length + 1) p o hi (by omega)
  exact ⟨ps, h1, h2⟩
theorem stepsF_mem {m n : Nat} {cs : List (Nat × Nat)} {p : Pl} {s : Stp} (h : s ∈ stepsF m n cs p) : s.c ∈ cs ∧ ((s.up = true ∧ arcF m n s.c = (p, s.to)) ∨ (s.up = false ∧ arcF m n s.c = (s.to, p))) := by
  unfold stepsF at h
  obtain ⟨c, hc, e⟩ := List.mem_filterMap.mp h
  split at e
  · rename_i k
    cases e
    exact ⟨hc, .inl ⟨rfl, by rw [← k]⟩⟩
  · split at e
    · rename_i k
      cases e
      exact ⟨hc, .inr ⟨rfl, by rw [← k]⟩⟩
    · cases e
theorem stepsF_up {m n : Nat} {cs : List (Nat × Nat)} {c : Nat × Nat} (hc : c ∈ cs) : (⟨(arcF m n c).2, c, true⟩ : Stp) ∈ stepsF m n cs (arcF m n c).1 ∧ (⟨(arcF m n c).1, c, false⟩ : Stp) ∈ stepsF m n cs (arcF m n c).2 := by
  unfold stepsF
  refine ⟨List.mem_filterMap.mpr ⟨c, hc, if_pos rfl⟩, List.mem_filterMap.mpr ⟨c, hc, ?_⟩⟩
  rw [if_neg (arc_ne m n c), if_pos rfl]
/-- how often a way goes through a cell forward less backward -/
def cnt (w : Way) (c : Nat × Nat) : Int := (w.map fun q => if q.1 = c then sgn q.2 else 0).sum
theorem applyF_cons (u : List (List Int)) (q : (Nat × Nat) × Bool) (w : Way) (a : Int) : applyF u (q :: w) a = applyF (addAt u q.1 (sgn q.2 * a)) w a := rfl
theorem apply_at {m n : Nat} {a : Int} {i j : Nat} (hi : i < m) (hj : j < n) : ∀ {w : Way} {u : List (List Int)}, Rect u m n → (∀ q ∈ w, q.1.1 < m ∧ q.1.2 < n) → at2 (applyF u w a) i j = at2 u i j + cnt w (i, j) * a
  | [], u, _, _ => by show _ = _ + (0 : Int) * a; rw [Int.zero_mul, Int.add_zero]; rfl
  | q :: w, u, hu, hw => by
    obtain ⟨c1, c2⟩ := hw q (List.mem_cons_self ..)
    rw [applyF_cons, apply_at hi hj (addAt_len hu) fun r hr => hw r (List.mem_cons_of_mem _ hr), at2_add hu c1 c2 _ hi hj]
    have e : cnt (q :: w) (i, j) = (if q.1 = (i, j) then sgn q.2 else 0) + cnt w (i, j) := rfl
    rw [e, Int.add_mul, Int.add_assoc]
    congr 2
    by_cases z : q.1 = (i, j)
    · rw [if_pos z, if_pos z.symm]
    · rw [if_neg z, if_neg (fun w => z w.symm), Int.zero_mul]
theorem apply_net {m n : Nat} {cs : List (Nat × Nat)} {start : Pl} {a : Int} (hb : ∀ c ∈ cs, c.1 < m ∧ c.2 < n) {q : Pl} (hq : inPl m n q) : ∀ {p : Pl} {w : Way} {ps : List Pl}, PathP (stepsF m n cs) start p w ps → ∀ {u : List (List Int)}, Rect u m n →
    net m n (at2 (applyF u w a)) q = net m n (at2 u) q + a * (chi start q - chi p q) := by
  intro p w ps h
  induction h with
  | nil => intro u hu; show net m n (at2 u) q = _; rw [Int.sub_self, Int.mul_zero, Int.add_zero]
  | @step p0 s w ps hs _ ih =>
    intro u hu
    obtain ⟨hc, ho⟩ := stepsF_mem hs
    obtain ⟨c1, c2⟩ := hb _ hc
    rw [applyF_cons, ih (addAt_len hu), net_addAt hu c1 c2 _ hq]
    show net m n (at2 u) q + sgn s.up * a * (chi (arcF m n s.c).1 q - chi (arcF m n s.c).2 q) + a * (chi start q - chi p0 q) = net m n (at2 u) q + a * (chi start q - chi s.to q)
    have e : sgn s.up * a * (chi (arcF m n s.c).1 q - chi (arcF m n s.c).2 q) = a * (chi p0 q - chi s.to q) := by
      rcases ho with ⟨h1, h2⟩ | ⟨h1, h2⟩
      · rw [h1, h2]
        show 1 * a * (chi p0 q - chi s.to q) = _
        rw [Int.one_mul]
      · rw [h1, h2]
        show -1 * a * (chi s.to q - chi p0 q) = _
        rw [Int.mul_sub, Int.mul_sub]
        simp only [Int.neg_mul, Int.one_mul]
        omega
    rw [e, Int.add_assoc, ← Int.mul_add]
    congr 2
    omega
theorem path_down {m n : Nat} {cs : List (Nat × Nat)} {start : Pl} {c : Nat × Nat} : ∀ {p : Pl} {w : Way} {ps : List Pl}, PathP (stepsF m n cs) start p w ps → (c, false) ∈ w → (arcF m n c).1 ∈ ps := by
  intro p w ps h
  induction h with
  | nil => intro z; cases z
  | @step p0 s w ps hs _ ih =>
    intro z
    rcases List.mem_cons.mp z with e | z
    · obtain ⟨hc, ⟨h1, h2⟩ | ⟨h1, h2⟩⟩ := stepsF_mem hs
      · injection e with e1 e2
        rw [← e2] at h1
        cases h1
      · injection e with e1 e2
        rw [e1, h2]
        exact List.mem_cons_self ..
    · exact List.mem_cons_of_mem _ (ih z)
theorem cnt_up {c : Nat × Nat} : ∀ {w : Way}, (c, false) ∉ w → 0 ≤ cnt w c
  | [], _ => Int.le_refl 0
  | q :: w, h => by
    have ih := cnt_up (w := w) fun z => h (List.mem_cons_of_mem _ z)
    have e : cnt (q :: w) c = (if q.1 = c then sgn q.2 else 0) + cnt w c := rfl
    rw [e]
    split
    · rename_i k
      cases hb : q.2 with
      | true => show 0 ≤ 1 + cnt w c; omega
      | false =>
        refine absurd (List.mem_cons.mpr (.inl ?_)) h
        rw [← k, ← hb]
    · omega
theorem cnt_low {m n : Nat} {cs : List (Nat × Nat)} {start : Pl} {c : Nat × Nat} : ∀ {p : Pl} {w : Way} {ps : List Pl}, PathP (stepsF m n cs) start p w ps → ps.Nodup → -1 ≤ cnt w c := by
  intro p w ps h
  induction h with
  | nil => intro _; show (-1 : Int) ≤ 0; decide
  | @step p0 s w ps hs hp ih =>
    intro nd
    obtain ⟨n1, n2⟩ := List.nodup_cons.mp nd
    have i := ih n2
    have e : cnt ((s.c, s.up) :: w) c = (if s.c = c then sgn s.up else 0) + cnt w c := rfl
    rw [e]
    split
    · rename_i k
      cases hb : s.up with
      | true => show -1 ≤ 1 + cnt w c; omega
      | false =>
        show -1 ≤ -1 + cnt w c
        have : (c, false) ∉ w := fun z => by
          have h1 := path_down hp z
          obtain ⟨hc, ⟨k1, k2⟩ | ⟨k1, k2⟩⟩ := stepsF_mem hs
          · rw [hb] at k1; cases k1
          · rw [← k, k2] at h1
            exact n1 h1
        have := cnt_up this
        omega
    · omega
theorem cnt_out {m n : Nat} {cs : List (Nat × Nat)} {start : Pl} {c : Nat × Nat} (hc : c ∉ cs) : ∀ {p : Pl} {w : Way} {ps : List Pl}, PathP (stepsF m n cs) start p w ps → cnt w c = 0 := by
  intro p w ps h
  induction h with
  | nil => rfl
  | @step p0 s w ps hs hp ih =>
    have e : cnt ((s.c, s.up) :: w) c = (if s.c = c then sgn s.up else 0) + cnt w c := rfl
    rw [e, ih, if_neg fun z => hc (by rw [← z]; exact (stepsF_mem hs).1)]
    rfl
theorem path_cells {m n : Nat} {cs : List (Nat × Nat)} {start : Pl} (hb : ∀ c ∈ cs, c.1 < m ∧ c.2 < n) : ∀ {p : Pl} {w : Way} {ps : List Pl}, PathP (stepsF m n cs) start p w ps → ∀ q ∈ w, q.1.1 < m ∧ q.1.2 < n := by
  intro p w ps h
  induction h with
  | nil => intro q hq; cases hq
  | @step p0 s w ps hs hp ih =>
    intro q hq
    rcases List.mem_cons.mp hq with rfl | hq
    · exact hb _ (stepsF_mem hs).1
    · exact ih q hq
end K3
end N2_part
section N3_part
set_option Elab.async false
set_option linter.all false
set_option maxRecDepth 100000
set_option maxHeartbeats 1000000
set_option pp.deepTerms.threshold 5
open PySem PySem.Spec PyProof.Rows L2
/-- go on as far as nothing is open -/
local macro_rules | `(tactic| walk_at "go") => `(tactic| repeat (first
  | with_reducible refine w_seq ?_ | with_reducible refine w_next ?_ | with_reducible refine w_set ?_ | with_reducible refine w_drop ?_ | with_reducible refine w_ret ?_ | with_reducible refine w_retN ?_
  | with_reducible refine w_if ?_ | ((with_reducible refine' w_var ?hv ?_); (case hv => exact rfl)) | with_reducible refine w_c ?_ | with_reducible refine w_nil ?_ | with_reducible refine w_cons ?_ | with_reducible refine w_op ?_ | with_reducible refine w_un ?_
  | with_reducible refine w_test ?_ | with_reducible refine w_tB ?_ | with_reducible refine w_not ?_ | with_reducible refine w_and ?_ | with_reducible refine w_or ?_ | with_reducible refine w_bl ?_
  | with_reducible refine w_andV ?_ | with_reducible refine w_orV ?_ | with_reducible refine w_notV ?_ | with_reducible refine w_ifE ?_ | with_reducible refine w_chain ?_ | with_reducible refine w_i0 ?_
  | with_reducible refine w_call ?_ | with_reducible refine w_callS ?_ | with_reducible refine w_cB ?_ | with_reducible refine w_tup ?_ | with_reducible refine w_lst ?_ | with_reducible refine w_fldV ?_
  | with_reducible refine w_neF ?_ | with_reducible refine w_neT ?_ | with_reducible refine w_notN ?_ | with_reducible refine w_isN ?_ | with_reducible refine w_gname ?_ | with_reducible refine w_gsub ?_ | with_reducible refine w_asg ?_ | with_reducible refine w_sl ?_ | with_reducible refine w_noP ?_ | with_reducible refine w_int1 ?_ | with_reducible refine w_part ?_ | with_reducible refine w_yes ?_ | with_reducible refine w_nT ?_ | with_reducible refine w_nF ?_ | with_reducible refine w_iteT ?_ | with_reducible refine w_iteF ?_))
namespace K3
theorem list_S {l : List Int} : ∀ {k : Nat}, l.length = k + 1 → l.dropLast.sum = S k (fun i => l.getD i 0) ∧ l.getLastD 0 = l.getD k 0 := by
  intro k h
  have ne : l ≠ [] := fun z => by rw [z] at h; cases h
  obtain ⟨xs, x, rfl⟩ : ∃ xs x, l = xs ++ [x] := ⟨l.dropLast, l.getLast ne, (List.dropLast_concat_getLast ne).symm⟩
  have lx : xs.length = k := by simpa using h
  rw [List.dropLast_concat, List.getLastD_concat]
  constructor
  · have e : S k (fun i => (xs ++ [x]).getD i 0) = S k fun i => xs.getD i 0 := S_congr fun i hi => by
      rw [List.getD_eq_getElem?_getD, List.getD_eq_getElem?_getD, List.getElem?_append_left (by omega)]
    rw [e, ← lx]
    exact (sum_getD xs).symm
  · rw [List.getD_eq_getElem?_getD, List.getElem?_append_right (by omega), lx]
    simp
theorem nn_iff {u : List (List Int)} {m n : Nat} (hu : Rect u m n) : (∀ r ∈ u, ∀ x ∈ r, 0 ≤ x) ↔ ∀ i < m, ∀ j < n, 0 ≤ at2 u i j := by
  constructor
  · intro h i hi j hj
    have li : i < u.length := by rw [hu.1]; exact hi
    have e := at2_of (t := u) (i := i) (j := j) (List.getElem?_eq_getElem li)
    rw [e]
    have lj : j < (u[i]).length := by rw [hu.2 _ (List.getElem_mem li)]; exact hj
    rw [List.getD_eq_getElem?_getD, List.getElem?_eq_getElem lj]
    exact h _ (List.getElem_mem li) _ (List.getElem_mem lj)
  · intro h r hr x hx
    obtain ⟨i, hi⟩ := List.getElem?_of_mem hr
    obtain ⟨j, hj⟩ := List.getElem?_of_mem hx
    have li := (List.getElem?_eq_some_iff.mp hi).1
    have lj := (List.getElem?_eq_some_iff.mp hj).1
    have := h i (by rw [← hu.1]; exact li) j (by rw [← hu.2 r hr]; exact lj)
    rw [at2_of hi, List.getD_eq_getElem?_getD, hj] at this
    exact this
theorem line_zero {k : Nat} {l : List Int} {s : Nat → Int} {e : Int} (hl : l.length = k + 1) (he : e = 1 ∨ e = -1) (h1 : ∀ i < k, s i = e) (h2 : s k = -e) : S (k + 1) (fun i => s i * l.getD i 0) = 0 ↔ l.getLastD 0 = l.dropLast.sum := by
  obtain ⟨a, b⟩ := list_S hl
  rw [S_succ, S_congr (g := fun i => e * l.getD i 0) fun i hi => by rw [h1 i hi], S_mul, h2, ← a, ← b]
  generalize l.dropLast.sum = x
  generalize l.getLastD 0 = y
  rcases he with rfl | rfl
  · constructor <;> intro h <;> omega
  · constructor <;> intro h <;> omega
theorem right_net {u : List (List Int)} {m n : Nat} (hu : Rect u m n) (m1 : 1 ≤ m) (n1 : 1 ≤ n) : Right u n ↔ ∀ p, inPl m n p → net m n (at2 u) p = 0 := by
  obtain ⟨m, rfl⟩ : ∃ k, m = k + 1 := ⟨m - 1, by omega⟩
  obtain ⟨n, rfl⟩ : ∃ k, n = k + 1 := ⟨n - 1, by omega⟩
  have rows : ∀ i (r : List Int), u[i]? = some r → (net (m + 1) (n + 1) (at2 u) (true, i) = 0 ↔ r.getLastD 0 = r.dropLast.sum) := by
    intro i r hr
    have lr : r.length = n + 1 := hu.2 r (List.mem_of_getElem? hr)
    show S (n + 1) (fun j => sg (m + 1) (n + 1) i j * at2 u i j) = 0 ↔ _
    rw [S_congr (g := fun j => sg (m + 1) (n + 1) i j * r.getD j 0) fun j _ => by rw [at2_of hr]]
    by_cases c : i = m
    · exact line_zero (e := -1) lr (.inr rfl) (fun j hj => by unfold sg; rw [if_neg]; simp [c]; omega) (by unfold sg; rw [if_pos (by simp [c])]; rfl)
    · exact line_zero (e := 1) lr (.inl rfl) (fun j hj => by unfold sg; rw [if_pos]; simp [c]; omega) (by unfold sg; rw [if_neg (by simp [c])])
  have cols : ∀ j < n + 1, (net (m + 1) (n + 1) (at2 u) (false, j) = 0 ↔ RightCol u j) := by
    intro j hj
    have lc : (colOf u j).length = m + 1 := by unfold colOf; rw [List.length_map, hu.1]
    have e : ∀ i < m + 1, at2 u i j = (colOf u j).getD i 0 := fun i hi => by
      have li : i < u.length := by rw [hu.1]; exact hi
      rw [at2_of (List.getElem?_eq_getElem li)]
      unfold colOf
      rw [List.getD_eq_getElem?_getD, List.getD_eq_getElem?_getD, List.getElem?_map, List.getElem?_eq_getElem li]
      rw [← List.getD_eq_getElem?_getD]
      rfl
    show -(S (m + 1) fun i => sg (m + 1) (n + 1) i j * at2 u i j) = 0 ↔ _
    rw [S_congr (g := fun i => sg (m + 1) (n + 1) i j * (colOf u j).getD i 0) fun i hi => by rw [e i hi]]
    unfold RightCol
    have z : ∀ x : Int, -x = 0 ↔ x = 0 := fun x => by omega
    rw [z]
    by_cases c : j = n
    · exact line_zero (e := -1) lc (.inr rfl) (fun i hi => by unfold sg; rw [if_neg]; simp [c]; omega) (by unfold sg; rw [if_pos (by simp [c])]; rfl)
    · exact line_zero (e := 1) lc (.inl rfl) (fun i hi => by unfold sg; rw [if_pos]; simp [c]; omega) (by unfold sg; rw [if_neg (by simp [c])])
  constructor
  · rintro ⟨h1, h2⟩ ⟨b, k⟩ hp
    cases b with
    | true =>
      have hk : k < u.length := by rw [hu.1]; simpa [inPl] using hp
      exact (rows k _ (List.getElem?_eq_getElem hk)).mpr (h1 _ (List.getElem_mem hk))
    | false =>
      have hk : k < n + 1 := by simpa [inPl] using hp
      exact (cols k hk).mpr (h2 k hk)
  · intro h
    refine ⟨fun r hr => ?_, fun c hc => (cols c hc).mp (h (false, c) (by simpa [inPl] using hc))⟩
    obtain ⟨i, hi⟩ := List.getElem?_of_mem hr
    have li := (List.getElem?_eq_some_iff.mp hi).1
    exact (rows i r hi).mp (h (true, i) (by have := hu.1; simp [inPl]; omega))
theorem push_ok {m n : Nat} {cs : List (Nat × Nat)} {start goal : Pl} (hb : ∀ c ∈ cs, c.1 < m ∧ c.2 < n) (hS : StepsOk m n (stepsF m n cs)) (hst : inPl m n start) : ∀ (k : Nat) (left : Int) (u : List (List Int)), Rect u m n → (∀ i < m, ∀ j < n, 0 ≤ at2 u i j) → 0 ≤ left → left.toNat < k →
    ∀ R, R = pushF (stepsF m n cs) (m + n + 1) start goal k left u → Rect R.1 m n ∧ (∀ i < m, ∀ j < n, 0 ≤ at2 R.1 i j) ∧ (∀ p, inPl m n p → net m n (at2 R.1) p = net m n (at2 u) p + (left - R.2) * (chi start p - chi goal p)) ∧
      (∀ i < m, ∀ j < n, (i, j) ∉ cs → at2 R.1 i j = at2 u i j) ∧ 0 ≤ R.2 ∧ R.2 ≤ left ∧ (R.2 = 0 ∨ goal ∉ keysOf (waysF R.1 (stepsF m n cs) (m + n + 1) start)) := by
  intro k
  induction k with
  | zero => intro left u _ _ _ h; omega
  | succ k ih =>
    intro left u hu hn h0 hk R hR
    unfold pushF at hR
    have self : ∀ left : Int, ∀ p, net m n (at2 u) p = net m n (at2 u) p + (left - left) * (chi start p - chi goal p) := fun left p => by rw [Int.sub_self, Int.zero_mul, Int.add_zero]
    by_cases c : left ≤ 0
    · rw [if_pos c] at hR
      subst hR
      exact ⟨hu, hn, fun p _ => self left p, fun i _ j _ _ => rfl, h0, Int.le_refl _, .inl (show left = 0 by omega)⟩
    · rw [if_neg c] at hR
      simp only at hR
      by_cases g : goal ∈ keysOf (waysF u (stepsF m n cs) (m + n + 1) start)
      · rw [if_pos g] at hR
        obtain ⟨w1, _⟩ := ways_ok (u := u) hS hst
        have pr := path_res (wayF_path w1 g)
        obtain ⟨ps, pp, nd⟩ := wayF_pathP w1 g
        obtain ⟨a1, a2⟩ := amount_pos (left := left) (by omega) (lent_pos pr)
        obtain ⟨_, a3⟩ := amount_min (lentF u (wayF (waysF u (stepsF m n cs) (m + n + 1) start) goal)) left
        generalize wayF (waysF u (stepsF m n cs) (m + n + 1) start) goal = w at hR pr pp a1 a2 a3
        have pc := path_cells hb pp
        have hu2 : Rect (applyF u w (amountF left (lentF u w))) m n := applyF_rect hu
        have hat : ∀ i < m, ∀ j < n, at2 (applyF u w (amountF left (lentF u w))) i j = at2 u i j + cnt w (i, j) * amountF left (lentF u w) := fun i hi j hj => apply_at hi hj hu pc
        have hn2 : ∀ i < m, ∀ j < n, 0 ≤ at2 (applyF u w (amountF left (lentF u w))) i j := fun i hi j hj => by
          rw [hat i hi j hj]
          have h1 := hn i hi j hj
          have h2 := cnt_low (c := (i, j)) pp nd
          by_cases z : 0 ≤ cnt w (i, j)
          · have := Int.mul_nonneg z (Int.le_of_lt a1)
            omega
          · have e : cnt w (i, j) = -1 := by omega
            have hm : ((i, j), false) ∈ w := by
              by_cases y : ((i, j), false) ∈ w
              · exact y
              · exact absurd (cnt_up y) z
            have : at2 u i j ∈ lentF u w := List.mem_map.mpr ⟨((i, j), false), List.mem_filter.mpr ⟨hm, rfl⟩, rfl⟩
            have := a3 _ (List.mem_cons_of_mem _ this)
            rw [e]
            omega
        obtain ⟨r1, r2, r3, r4, r5, r6, r7⟩ := ih (left - amountF left (lentF u w)) (applyF u w (amountF left (lentF u w))) hu2 hn2 (by omega) (by omega) R hR
        refine ⟨r1, r2, fun p hp => ?_, fun i hi j hj hc => ?_, r5, by omega, r7⟩
        · rw [r3 p hp, apply_net hb hp pp hu, Int.add_assoc, ← Int.add_mul]
          congr 2
          omega
        · rw [r4 i hi j hj hc, hat i hi j hj, cnt_out hc pp, Int.zero_mul, Int.add_zero]
      · rw [if_neg g] at hR
        subst hR
        exact ⟨hu, hn, fun p _ => self left p, fun i _ j _ _ => rfl, h0, Int.le_refl _, .inr g⟩
end K3
end N3_part
section N4_part
set_option Elab.async false
set_option linter.all false
set_option maxRecDepth 100000
set_option maxHeartbeats 1000000
set_option pp.deepTerms.threshold 5
open PySem PySem.Spec PyProof.Rows L2
/-- go on as far as nothing is open -/
local macro_rules | `(tactic| walk_at "go") => `(tactic| repeat (first
  | with_reducible refine w_seq ?_ | with_reducible refine w_next ?_ | with_reducible refine w_set ?_ | with_reducible refine w_drop ?_ | with_reducible refine w_ret ?_ | with_reducible refine w_retN ?_
  | with_reducible refine w_if ?_ | ((with_reducible refine' w_var ?hv ?_); (case hv => exact rfl)) | with_reducible refine w_c ?_ | with_reducible refine w_nil ?_ | with_reducible refine w_cons ?_ | with_reducible refine w_op ?_ | with_reducible refine w_un ?_
  | with_reducible refine w_test ?_ | with_reducible refine w_tB ?_ | with_reducible refine w_not ?_ | with_reducible refine w_and ?_ | with_reducible refine w_or ?_ | with_reducible refine w_bl ?_
  | with_reducible refine w_andV ?_ | with_reducible refine w_orV ?_ | with_reducible refine w_notV ?_ | with_reducible refine w_ifE ?_ | with_reducible refine w_chain ?_ | with_reducible refine w_i0 ?_
  | with_reducible refine w_call ?_ | with_reducible refine w_callS ?_ | with_reducible refine w_cB ?_ | with_reducible refine w_tup ?_ | with_reducible refine w_lst ?_ | with_reducible refine w_fldV ?_
  | with_reducible refine w_neF ?_ | with_reducible refine w_neT ?_ | with_reducible refine w_notN ?_ | with_reducible refine w_isN ?_ | with_reducible refine w_gname ?_ | with_reducible refine w_gsub ?_ | with_reducible refine w_asg ?_ | with_reducible refine w_sl ?_ | with_reducible refine w_noP ?_ | with_reducible refine w_int1 ?_ | with_reducible refine w_part ?_ | with_reducible refine w_yes ?_ | with_reducible refine w_nT ?_ | with_reducible refine w_nF ?_ | with_reducible refine w_iteT ?_ | with_reducible refine w_iteF ?_))
namespace K3
/-- what a grid is like -/
structure Grid (t : List (List Int)) (m n : Nat) : Prop where
  rect : Rect t m n
  m1 : 1 ≤ m
  n1 : 1 ≤ n
  nn : ∀ i < m, ∀ j < n, 0 ≤ at2 t i j
  bal : ∀ p, inPl m n p → net m n (at2 t) p = 0
theorem Grid.of {t : List (List Int)} {m n : Nat} (h : Rect t m n) (m1 : 1 ≤ m) (n1 : 1 ≤ n) (nn : ∀ r ∈ t, ∀ x ∈ r, 0 ≤ x) (r : Right t n) : Grid t m n := ⟨h, m1, n1, (nn_iff h).mp nn, (right_net h m1 n1).mp r⟩
theorem fit_grid {t u : List (List Int)} {hs : List (Nat × Nat)} {m n : Nat} (m1 : 1 ≤ m) (n1 : 1 ≤ n) (h : Fit t hs u m n) : Grid u m n := .of h.1 m1 n1 h.2.1 h.2.2.1
theorem S_mono {n k : Nat} {f : Nat → Int} (hk : k < n) (h : ∀ i < n, 0 ≤ f i) : f k ≤ S n f ∧ 0 ≤ S n f := by
  have a := S_one (n := n) (k := k) (f := fun i => if i = k then f i else -(f i)) hk fun i hi ne => by
    rw [if_neg ne]
    have := h i hi
    omega
  have e : S n f + S n (fun i => if i = k then f i else -(f i)) = 2 * f k := by
    rw [← S_add, S_congr (g := fun i => if i = k then 2 * f k else 0) fun i hi => ?_, S_delta _ hk]
    by_cases c : i = k
    · rw [if_pos c, if_pos c, c]
      omega
    · rw [if_neg c, if_neg c]
      omega
  rw [if_pos rfl] at a
  have := h k hk
  exact ⟨by omega, by omega⟩
/-- no number is above the number of all -/
theorem Grid.le_last {t : List (List Int)} {m n : Nat} (h : Grid t m n) {i j : Nat} (hi : i < m) (hj : j < n) : at2 t i j ≤ at2 t (m - 1) (n - 1) := by
  obtain ⟨hr, m1, n1, nn, bal⟩ := h
  obtain ⟨m, rfl⟩ : ∃ k, m = k + 1 := ⟨m - 1, by omega⟩
  obtain ⟨n, rfl⟩ : ∃ k, n = k + 1 := ⟨n - 1, by omega⟩
  rw [Nat.add_sub_cancel, Nat.add_sub_cancel]
  -- the last of a row
  have row : ∀ i < m + 1, at2 t i n = S n fun j => at2 t i j := fun i hi => by
    have b := bal (true, i) (by simpa [inPl] using hi)
    have b : S (n + 1) (fun j => sg (m + 1) (n + 1) i j * at2 t i j) = 0 := b
    rw [S_succ] at b
    by_cases c : i = m
    · have b2 : S n (fun j => sg (m + 1) (n + 1) i j * at2 t i j) = -1 * S n fun j => at2 t i j := (S_congr fun j hj => by (unfold sg; rw [if_neg]; simp [c]; omega)).trans (S_mul n (-1) fun j => at2 t i j)
      rw [b2, show sg (m + 1) (n + 1) i n = 1 by unfold sg; rw [if_pos (by simp [c])]] at b
      omega
    · have b2 : S n (fun j => sg (m + 1) (n + 1) i j * at2 t i j) = 1 * S n fun j => at2 t i j := (S_congr fun j hj => by (unfold sg; rw [if_pos]; simp [c]; omega)).trans (S_mul n 1 fun j => at2 t i j)
      rw [b2, show sg (m + 1) (n + 1) i n = -1 by unfold sg; rw [if_neg (by simp [c])]] at b
      omega
  have last : at2 t m n = S m fun i => at2 t i n := by
    have b := bal (false, n) (by simp [inPl])
    have b : -(S (m + 1) fun i => sg (m + 1) (n + 1) i n * at2 t i n) = 0 := b
    rw [S_succ] at b
    rw [S_congr (g := fun i => -1 * at2 t i n) fun i hi => by (unfold sg; rw [if_neg]; simp; omega), S_mul] at b
    rw [show sg (m + 1) (n + 1) m n = 1 by unfold sg; rw [if_pos (by simp)]] at b
    omega
  have h1 : at2 t i j ≤ at2 t i n := by
    by_cases c : j = n
    · rw [c]; exact Int.le_refl _
    · rw [row i hi]
      exact (S_mono (by omega) fun j' hj' => nn i hi j' (by omega)).1
  have h2 : at2 t i n ≤ at2 t m n := by
    by_cases c : i = m
    · rw [c]; exact Int.le_refl _
    · rw [last]
      exact (S_mono (f := fun i => at2 t i n) (by omega) fun i' hi' => nn i' (by omega) n (by omega)).1
  omega
theorem Grid.room {t : List (List Int)} {m n : Nat} (h : Grid t m n) {c : Nat × Nat} (c1 : c.1 < m) (c2 : c.2 < n) : 0 ≤ roomF m n t c := by
  have := h.le_last c1 c2
  unfold roomF
  omega
theorem others_mem {cs : List (Nat × Nat)} {c k : Nat × Nat} : k ∈ othersF cs c ↔ k ∈ cs ∧ k ≠ c := by
  unfold othersF
  rw [List.mem_filter]
  simp
/-- the end of a flow: what is left over lies at the cell alone -/
theorem end_fit {t : List (List Int)} {cs : List (Nat × Nat)} {m n : Nat} {c : Nat × Nat} {start goal : Pl} {most x : Int} (g : Grid t m n) (hb : ∀ k ∈ cs, k.1 < m ∧ k.2 < n) (hl : cs.length ≤ 100) (hc : c ∈ cs) (hst : inPl m n start) (h0 : 0 ≤ most)
    (R : List (List Int) × Int) (hR : R = runF m n cs t c start goal most) (hx : ∀ p, x * (chi (arcF m n c).1 p - chi (arcF m n c).2 p) = -((most - R.2) * (chi start p - chi goal p))) (hnn : 0 ≤ at2 t c.1 c.2 + x) :
    Fit t cs (addAt R.1 c x) m n ∧ at2 (addAt R.1 c x) c.1 c.2 = at2 t c.1 c.2 + x ∧ (∀ i < m, ∀ j < n, (i, j) ≠ c → at2 (addAt R.1 c x) i j = at2 R.1 i j) ∧ 0 ≤ R.2 ∧ R.2 ≤ most ∧ (R.2 = 0 ∨ goal ∉ keysOf (waysF R.1 (stepsF m n (othersF cs c)) (m + n + 1) start)) := by
  have hb2 : ∀ k ∈ othersF cs c, k.1 < m ∧ k.2 < n := fun k hk => hb k (others_mem.mp hk).1
  have hS : StepsOk m n (stepsF m n (othersF cs c)) := steps_ok g.m1 g.n1 hb2 (Nat.le_trans (List.length_filter_le _ _) hl)
  obtain ⟨c1, c2⟩ := hb c hc
  obtain ⟨r1, r2, r3, r4, r5, r6, r7⟩ := push_ok hb2 hS hst (most.toNat + 1) most t g.rect g.nn h0 (Nat.lt_succ_self _) R hR
  have nc : c ∉ othersF cs c := fun z => (others_mem.mp z).2 rfl
  have rc : at2 R.1 c.1 c.2 = at2 t c.1 c.2 := r4 c.1 c1 c.2 c2 nc
  have hat : ∀ i < m, ∀ j < n, at2 (addAt R.1 c x) i j = at2 R.1 i j + (if (i, j) = c then x else 0) := fun i hi j hj => at2_add r1 c1 c2 x hi hj
  have ac : at2 (addAt R.1 c x) c.1 c.2 = at2 t c.1 c.2 + x := by rw [hat c.1 c1 c.2 c2, if_pos rfl, rc]
  have off : ∀ i < m, ∀ j < n, (i, j) ≠ c → at2 (addAt R.1 c x) i j = at2 R.1 i j := fun i hi j hj ne => by rw [hat i hi j hj, if_neg ne, Int.add_zero]
  have rect := addAt_len (c := c) (x := x) r1
  refine ⟨⟨rect, (nn_iff rect).mpr fun i hi j hj => ?_, (right_net rect g.m1 g.n1).mpr fun p hp => ?_, fun i hi j hj hn => ?_⟩, ac, off, r5, r6, r7⟩
  · by_cases e : (i, j) = c
    · subst e
      rw [ac]
      exact hnn
    · rw [off i hi j hj e]
      exact r2 i hi j hj
  · rw [net_addAt r1 c1 c2 x hp, r3 p hp, g.bal p hp, hx p]
    omega
  · have e : (i, j) ≠ c := fun z => hn (by rw [z]; exact hc)
    rw [off i hi j hj e]
    exact r4 i hi j hj fun z => hn (others_mem.mp z).1
/-- where the goal is not come to, a table that fits has no other way either -/
theorem end_opt {t u v : List (List Int)} {cs : List (Nat × Nat)} {m n : Nat} {c : Nat × Nat} {start goal : Pl} {w : List (List Int)} (m1 : 1 ≤ m) (n1 : 1 ≤ n) (hb : ∀ k ∈ cs, k.1 < m ∧ k.2 < n) (hl : cs.length ≤ 100) (hc : c ∈ cs) (hst : inPl m n start)
    (hu : Fit t cs u m n) (hv : Fit t cs v m n) (off : ∀ i < m, ∀ j < n, (i, j) ≠ c → at2 u i j = at2 w i j) (hg : goal ∉ keysOf (waysF w (stepsF m n (othersF cs c)) (m + n + 1) start)) :
    ∃ q : Pl → Int, q start = 1 ∧ q goal = 0 ∧ 0 ≤ (at2 v c.1 c.2 - at2 u c.1 c.2) * (q (arcF m n c).1 - q (arcF m n c).2) := by
  have hb2 : ∀ k ∈ othersF cs c, k.1 < m ∧ k.2 < n := fun k hk => hb k (others_mem.mp hk).1
  have hS : StepsOk m n (stepsF m n (othersF cs c)) := steps_ok m1 n1 hb2 (Nat.le_trans (List.length_filter_le _ _) hl)
  obtain ⟨w1, w2⟩ := ways_ok (u := w) hS hst
  obtain ⟨c1, c2⟩ := hb c hc
  have gu := fit_grid m1 n1 hu
  have gv := fit_grid m1 n1 hv
  have hs : start ∈ keysOf (waysF w (stepsF m n (othersF cs c)) (m + n + 1) start) := List.mem_map.mpr ⟨_, List.mem_of_getElem? w1.zero, rfl⟩
  generalize keysOf (waysF w (stepsF m n (othersF cs c)) (m + n + 1) start) = ks at hg hs w2
  refine ⟨fun p => if p ∈ ks then 1 else 0, if_pos hs, if_neg hg, ?_⟩
  have bal : ∀ p : Pl, p.2 < (if p.1 then m else n) → net m n (fun i j => at2 v i j - at2 u i j) p = 0 := fun p hp => by
    have a := gu.bal p hp
    have b := gv.bal p hp
    have e := net_sum m n (fun i j => at2 v i j - at2 u i j) (at2 u) p
    have f : net m n (fun i j => at2 v i j - at2 u i j + at2 u i j) p = net m n (at2 v) p := net_congr (fun i _ j _ => by omega) hp
    rw [f, a, b] at e
    omega
  refine cut_sign (d := fun i j => at2 v i j - at2 u i j) bal (fun p => if p ∈ ks then 1 else 0) c1 c2 fun i hi j hj ne => ?_
  by_cases hm : (i, j) ∈ cs
  · have ho : (i, j) ∈ othersF cs c := others_mem.mpr ⟨hm, ne⟩
    obtain ⟨s1, s2⟩ := stepsF_up (m := m) (n := n) ho
    have k1 : (arcF m n (i, j)).1 ∈ ks → (arcF m n (i, j)).2 ∈ ks := fun z => w2 _ z _ s1 (.inl rfl)
    have k2 : (arcF m n (i, j)).2 ∈ ks → 0 < at2 w i j → (arcF m n (i, j)).1 ∈ ks := fun z y => w2 _ z _ s2 (.inr y)
    show (at2 v i j - at2 u i j) * ((if (arcF m n (i, j)).1 ∈ ks then 1 else 0) - (if (arcF m n (i, j)).2 ∈ ks then 1 else 0)) ≤ 0
    by_cases z1 : (arcF m n (i, j)).1 ∈ ks
    · rw [if_pos z1, if_pos (k1 z1)]
      simp
    · rw [if_neg z1]
      by_cases z2 : (arcF m n (i, j)).2 ∈ ks
      · rw [if_pos z2]
        have a : ¬ 0 < at2 w i j := fun y => z1 (k2 z2 y)
        have b := gu.nn i hi j hj
        have d := gv.nn i hi j hj
        rw [off i hi j hj ne] at b ⊢
        omega
      · rw [if_neg z2]
        simp
  · rw [hv.2.2.2 i hi j hj hm, hu.2.2.2 i hi j hj hm, Int.sub_self, Int.zero_mul]
    exact Int.le_refl 0
theorem least_ok {t : List (List Int)} {cs : List (Nat × Nat)} {m n : Nat} {c : Nat × Nat} (g : Grid t m n) (hb : ∀ k ∈ cs, k.1 < m ∧ k.2 < n) (hl : cs.length ≤ 100) (hc : c ∈ cs) :
    Fit t cs (leastF m n cs t c) m n ∧ ∀ v, Fit t cs v m n → at2 (leastF m n cs t c) c.1 c.2 ≤ at2 v c.1 c.2 := by
  obtain ⟨c1, c2⟩ := hb c hc
  obtain ⟨p1, p2⟩ := arc_place c1 c2
  have h0 := g.nn c.1 c1 c.2 c2
  unfold leastF
  generalize hR : runF m n cs t c (arcF m n c).1 (arcF m n c).2 (at2 t c.1 c.2) = R
  have z := push_ok (cs := othersF cs c) (goal := (arcF m n c).2) (fun k hk => hb k (others_mem.mp hk).1) (steps_ok g.m1 g.n1 (fun k hk => hb k (others_mem.mp hk).1) (Nat.le_trans (List.length_filter_le _ _) hl)) p1 ((at2 t c.1 c.2).toNat + 1) (at2 t c.1 c.2) t g.rect g.nn h0 (Nat.lt_succ_self _) R hR.symm
  obtain ⟨f1, f2, f3, f4, f5, f6⟩ := end_fit (x := -(at2 t c.1 c.2 - R.2)) g hb hl hc p1 h0 R hR.symm (fun p => Int.neg_mul ..) (by have := z.2.2.2.2.1; omega)
  refine ⟨f1, fun v hv => ?_⟩
  rw [f2]
  have vn := (fit_grid g.m1 g.n1 hv).nn c.1 c1 c.2 c2
  rcases f6 with e | e
  · omega
  · obtain ⟨q, q1, q2, q3⟩ := end_opt g.m1 g.n1 hb hl hc p1 f1 hv f3 e
    rw [q1, q2, f2] at q3
    omega
theorem most_ok {t : List (List Int)} {cs : List (Nat × Nat)} {m n : Nat} {c : Nat × Nat} (g : Grid t m n) (hb : ∀ k ∈ cs, k.1 < m ∧ k.2 < n) (hl : cs.length ≤ 100) (hc : c ∈ cs) (hlast : (m - 1, n - 1) ∉ cs) :
    Fit t cs (mostF m n cs t c) m n ∧ ∀ v, Fit t cs v m n → at2 v c.1 c.2 ≤ at2 (mostF m n cs t c) c.1 c.2 := by
  obtain ⟨c1, c2⟩ := hb c hc
  obtain ⟨p1, p2⟩ := arc_place c1 c2
  have h0 := g.nn c.1 c1 c.2 c2
  have hr := g.room c1 c2
  unfold mostF
  generalize hR : runF m n cs t c (arcF m n c).2 (arcF m n c).1 (roomF m n t c) = R
  have z := push_ok (cs := othersF cs c) (goal := (arcF m n c).1) (fun k hk => hb k (others_mem.mp hk).1) (steps_ok g.m1 g.n1 (fun k hk => hb k (others_mem.mp hk).1) (Nat.le_trans (List.length_filter_le _ _) hl)) p2 ((roomF m n t c).toNat + 1) (roomF m n t c) t g.rect g.nn hr (Nat.lt_succ_self _) R hR.symm
  obtain ⟨f1, f2, f3, f4, f5, f6⟩ := end_fit (x := roomF m n t c - R.2) g hb hl hc p2 hr R hR.symm (fun p => by
    generalize roomF m n t c - R.2 = x
    rw [Int.mul_sub, Int.mul_sub]
    omega) (by have := z.2.2.2.2.2.1; omega)
  refine ⟨f1, fun v hv => ?_⟩
  rw [f2]
  have gv := fit_grid g.m1 g.n1 hv
  rcases f6 with e | e
  · have a := gv.le_last c1 c2
    have b := hv.2.2.2 (m - 1) (by have := g.m1; omega) (n - 1) (by have := g.n1; omega) hlast
    rw [b] at a
    unfold roomF
    omega
  · obtain ⟨q, q1, q2, q3⟩ := end_opt g.m1 g.n1 hb hl hc p2 f1 hv f3 e
    rw [q1, q2, f2] at q3
    omega
end K3
end N4_part
section R1_part
set_option Elab.async false
set_option linter.all false
set_option maxRecDepth 100000
set_option maxHeartbeats 1000000
set_option pp.deepTerms.threshold 5
open PySem PySem.Spec PyProof.Rows L2
/-- go on as far as nothing is open -/
local macro_rules | `(tactic| walk_at "go") => `(tactic| repeat (first
  | with_reducible refine w_seq ?_ | with_reducible refine w_next ?_ | with_reducible refine w_set ?_ | with_reducible refine w_drop ?_ | with_reducible refine w_ret ?_ | with_reducible refine w_retN ?_
  | with_reducible refine w_if ?_ | ((with_reducible refine' w_var ?hv ?_); (case hv => exact rfl)) | with_reducible refine w_c ?_ | with_reducible refine w_nil ?_ | with_reducible refine w_cons ?_ | with_reducible refine w_op ?_ | with_reducible refine w_un ?_
  | with_reducible refine w_test ?_ | with_reducible refine w_tB ?_ | with_reducible refine w_not ?_ | with_reducible refine w_and ?_ | with_reducible refine w_or ?_ | with_reducible refine w_bl ?_
  | with_reducible refine w_andV ?_ | with_reducible refine w_orV ?_ | with_reducible refine w_notV ?_ | with_reducible refine w_ifE ?_ | with_reducible refine w_chain ?_ | with_reducible refine w_i0 ?_
  | with_reducible refine w_call ?_ | with_reducible refine w_callS ?_ | with_reducible refine w_cB ?_ | with_reducible refine w_tup ?_ | with_reducible refine w_lst ?_ | with_reducible refine w_fldV ?_
  | with_reducible refine w_neF ?_ | with_reducible refine w_neT ?_ | with_reducible refine w_notN ?_ | with_reducible refine w_isN ?_ | with_reducible refine w_gname ?_ | with_reducible refine w_gsub ?_ | with_reducible refine w_asg ?_ | with_reducible refine w_sl ?_ | with_reducible refine w_noP ?_ | with_reducible refine w_int1 ?_ | with_reducible refine w_part ?_ | with_reducible refine w_yes ?_ | with_reducible refine w_nT ?_ | with_reducible refine w_nF ?_ | with_reducible refine w_iteT ?_ | with_reducible refine w_iteF ?_))
namespace L2
open PySem PySem.Spec PyProof.Rows
/-! ### keys (n, (i, j)) -/
def lex3 (a b : Int × Int × Int) : Prop := a.1 < b.1 ∨ (a.1 = b.1 ∧ (a.2.1 < b.2.1 ∨ (a.2.1 = b.2.1 ∧ a.2.2 ≤ b.2.2)))
instance (a b : Int × Int × Int) : Decidable (lex3 a b) := by unfold lex3; infer_instance
theorem lex3_trans {a b c : Int × Int × Int} (h : lex3 a b) (k : lex3 b c) : lex3 a c := by unfold lex3 at *; omega
theorem lex3_total (a b : Int × Int × Int) : lex3 a b ∨ lex3 b a := by unfold lex3; omega
theorem lex3_anti {a b : Int × Int × Int} (h : lex3 a b) (k : lex3 b a) : a = b := by
  unfold lex3 at *
  exact Prod.ext (by omega) (Prod.ext (by omega) (by omega))
def k3D (x : Int × Int × Int) : PyData := .tuple [.int x.1, .tuple [.int x.2.1, .int x.2.2]]
theorem dataLe_3 (g : V → Int × Int × Int) : PySem.W.dataLe false (fun v => k3D (g v)) = fun p q => decide (lex3 (g p) (g q)) := by
  funext p q
  show (!PySem.W.dataLt (k3D (g q)) (k3D (g p))) = _
  unfold k3D
  rw [PySem.W.dataLt_pair (by simp [PySem.W.alike]) (by simp [PySem.W.alike, PySem.W.alikeAll]), PySem.W.dataLt_int, PySem.W.dataLt_ii]
  simp only [PyData.eqv, PyData.eqvAll, beq_iff_eq, Bool.and_true, Bool.and_eq_true]
  have yes : ∀ h : lex3 (g p) (g q), decide (lex3 (g p) (g q)) = true := fun h => decide_eq_true h
  have no : ∀ h : ¬ lex3 (g p) (g q), decide (lex3 (g p) (g q)) = false := fun h => decide_eq_false h
  by_cases h1 : (g q).1 = (g p).1
  · by_cases h2 : (g q).2.1 = (g p).2.1 ∧ (g q).2.2 = (g p).2.2
    · rw [if_pos h1, if_pos h2, yes (by unfold lex3; omega)]; rfl
    · rw [if_pos h1, if_neg h2]
      by_cases h3 : (g q).2.1 < (g p).2.1 ∨ ((g q).2.1 = (g p).2.1 ∧ (g q).2.2 < (g p).2.2)
      · rw [decide_eq_true h3, no (by unfold lex3; omega)]; rfl
      · rw [decide_eq_false h3, yes (by unfold lex3; omega)]; rfl
  · rw [if_neg h1]
    by_cases h3 : (g q).1 < (g p).1
    · rw [decide_eq_true h3, no (by unfold lex3; omega)]; rfl
    · rw [decide_eq_false h3, yes (by unfold lex3; omega)]; rfl
theorem pairwise_paired {α β : Type} {F : α → β → Prop} {r : α → α → Prop} {s : β → β → Prop} (hrs : ∀ (v v' : α) (k k' : β), F v k → F v' k' → r v v' → s k k') : ∀ {vs : List α} {ks : List β}, Paired F vs ks → vs.Pairwise r → ks.Pairwise s
  | _, _, .nil, _ => .nil
  | v :: vs, k :: ks, .cons h t, p => by
    obtain ⟨p1, p2⟩ := List.pairwise_cons.mp p
    refine List.pairwise_cons.mpr ⟨fun k' hk' => ?_, pairwise_paired hrs t p2⟩
    obtain ⟨i, hi⟩ := List.getElem?_of_mem hk'
    have li : i < vs.length := by
      rw [Paired.length t]
      exact (List.getElem?_eq_some_iff.mp hi).1
    obtain ⟨y, hy, hF⟩ := K3.Paired.get t (List.getElem?_eq_getElem li)
    rw [hi] at hy
    cases hy
    exact hrs _ _ _ _ h hF (p1 _ (List.getElem_mem li))
/-! ### l.remove(x), data -/
section
variable {X : Cx}
def rRemD (K : PySem.W.Frag) : V → List V → Hp → VK → Prop := fun x xs H Q => ∃ (l : Addr) (ws : List V) (y : V) (ds : List PyData) (d : PyData) (j : Nat), x = .ref l ∧ xs = [y] ∧ H l = some (.lst ws) ∧ DpAll K H ws ds ∧ Dp K H y d ∧ PyData.plainAll ds = true ∧ d.plain = true ∧ PyData.depthAll ds ≤ 60 ∧ d.depth ≤ 60 ∧ PySem.SeqAt.dataPlace ds d = some j ∧ Q .non (upd H l (.lst (ws.eraseIdx j)))
theorem erase_len {α : Type} (l : List α) (j : Nat) : (l.eraseIdx j).length ≤ l.length := by
  rw [List.length_eraseIdx]
  split <;> omega
theorem mt_remD (hu : X.A.units + 65 < cLine) : MtM X "list.remove" (rRemD X.K) := by
  intro pins s σ H x xs v us Q I rx rxs h
  obtain ⟨l, ws, y, ds, d, j, rfl, rfl, hH, hds, hd, pl, pd, dl, dd, hp, q⟩ := h
  cases rx
  cases rxs with
  | cons ry rt =>
    cases rt
    obtain ⟨bs, r1⟩ := Dp.reads I d y _ hd ry
    obtain ⟨z, its, n, r, hl, e⟩ := I.lstM hH
    obtain ⟨as, h4⟩ := Dp.readsAll I ds _ its hds r
    have lr := r.length
    refine PySem.SeqAt.remove_list_data (l := l) (vs := its.toArray) (xs := ds) (j := j) ⟨_, e, rfl, n, rfl⟩ (show ReadsAll s.heap its.toArray.toList ds as from h4) r1 pl pd (by omega) hp (by rw [List.size_toArray]; omega) ?_
    refine ⟨.non, _, I.lset (its' := its.eraseIdx j) (t' := s.toks) hH e ?_ (r.eraseIdx j) ?_, rfl, q⟩
    · show its.toArray.eraseIdxIfInBounds j = (its.eraseIdx j).toArray
      rw [List.eraseIdxIfInBounds_toArray]
    · exact Nat.le_trans (erase_len _ _) z
/-! ### xs[::2] -/
def step2 (n : Nat) : List Nat := sliceRange (sliceBounds none none (some 2) n).1 (sliceBounds none none (some 2) n).2.1 (sliceBounds none none (some 2) n).2.2
def tStep2 (K : PySem.W.Frag) (te : TE) : TE := fun σ H Q => te σ H fun x H1 => ∃ a xs, x = .ref a ∧ SqL K H1 a xs ∧ (step2 xs.length).length ≤ sizeLine ∧ ∀ p, H1 p = none → Q (.ref p) (upd H1 p (.lst ((step2 xs.length).filterMap (xs[·]?))))
theorem vals_pick {xs : List V} {us : List Value} (r : Vals xs us) : ∀ js : List Nat, Vals (js.filterMap (xs[·]?)) (js.filterMap (us[·]?))
  | [] => .nil
  | j :: js => by
    have ih := vals_pick r js
    cases h : xs[j]? with
    | none =>
      have h2 : us[j]? = none := by
        rw [List.getElem?_eq_none_iff] at h ⊢
        rw [← r.length]
        exact h
      rw [List.filterMap_cons_none h, List.filterMap_cons_none h2]
      exact ih
    | some x =>
      obtain ⟨u, hu, ru⟩ := r.get h
      rw [List.filterMap_cons_some h, List.filterMap_cons_some hu]
      exact .cons ru ih
theorem pe_step2 {e : Expr} {te : TE} {k : Nat} {p1 p3 pos : Pos} (he : PE X e te) : PE X (.Subscript e (.Slice none none (some (.Constant (.int 2) k p1)) p3) pos) (tStep2 X.K te) := by
  refine ⟨fun pins s σ H Q I h => ?_⟩
  refine Subscript_ (thn (he.run pins s σ H _ I h) fun v s1 ⟨x, H1, I1, r1, q1⟩ => ?_)
  obtain ⟨a, xs, ex, hx, few, q⟩ := q1
  subst ex
  cases r1
  have hst : PO X (some (.Constant (.int 2) k p1)) (tPart (tC (.int 2))) := po_some pe_int
  refine wpAny_Slice (thn (po_none.run pins s1 σ H1 (fun o H2 => o = none ∧ H2 = H1) I1 ⟨rfl, rfl⟩) fun vl s2 ⟨l, H2, I2, pl, el, e2⟩ => ?_)
  subst el e2
  refine thn (po_none.run pins s2 σ H2 (fun o H3 => o = none ∧ H3 = H2) I2 ⟨rfl, rfl⟩) fun vu s3 ⟨u, H3, I3, pu, eu, e3⟩ => ?_
  subst eu e3
  refine thn (hst.run pins s3 σ H3 (fun o H4 => o = some 2 ∧ H4 = H3) I3 ⟨2, rfl, rfl, rfl⟩) fun vs s4 ⟨o, H4, I4, ps, eo, e4⟩ => ?_
  subst eo e4
  have I5 : Inv X pins σ H4 { s4 with heap := s4.heap.push { cls := .type "slice", data := .fields #[vl, vu, vs] } } := I4.kept (t' := s4.toks) fun b ob q => Heap.get?_push_of_some _ q
  obtain ⟨its, r, ht, hz⟩ := I5.list hx
  have hlen := r.length
  show wpAny (model X.prog X.w) X.A (subscriptTail e (.Slice none none (some (.Constant (.int 2) k p1)) p3) (.ref a) (.ref s4.heap.objs.size)) (EP X pins σ Q) X.xe { s4 with heap := s4.heap.push { cls := .type "slice", data := .fields #[vl, vu, vs] } }
  refine tail_any (ops := [.ref a, .ref s4.heap.objs.size]) ht.isList.typeIs (PySem.slot_list_getitem.lookup) ?_ (by with_unfolding_all rfl)
  refine wpAny_getItem_list_slice ht.isList (Heap.IsSliceOf.new _ vl vu vs) pl pu ps (by decide) ?_ (by rw [List.size_toArray]; omega)
  have epick : slicePick its.toArray none none (some 2) = ((step2 xs.length).filterMap (its[·]?)).toArray := by
    unfold slicePick step2
    rw [List.size_toArray, hlen]
    simp
  rw [epick]
  refine ⟨.ref _, _, I5.laid (t' := s4.toks) (o := .lst ((step2 xs.length).filterMap (xs[·]?))) (fun b ob q => Heap.get?_push_of_some _ q) (Nat.le_refl _) ?_, rfl, q _ (I5.hok.fresh (Nat.le_refl _))⟩
  exact ⟨Nat.le_trans (List.length_filterMap_le _ _) few, _, 0, vals_pick r _, Heap.get?_push_size _ rfl⟩
theorem w_step2 {K : PySem.W.Frag} {te : TE} {σ : L2.St} {H : Hp} {Q : VK} (h : te σ H fun x H1 => ∃ a xs, x = .ref a ∧ SqL K H1 a xs ∧ (step2 xs.length).length ≤ sizeLine ∧ ∀ p, H1 p = none → Q (.ref p) (upd H1 p (.lst ((step2 xs.length).filterMap (xs[·]?))))) : tStep2 K te σ H Q := h
end
end L2
end R1_part
section G1_part
set_option Elab.async false
set_option linter.all false
set_option maxRecDepth 100000
set_option maxHeartbeats 1000000
set_option pp.deepTerms.threshold 5
open PySem PySem.Spec PyProof.Rows L2
/-- go on as far as nothing is open -/
local macro_rules | `(tactic| walk_at "go") => `(tactic| repeat (first
  | with_reducible refine w_seq ?_ | with_reducible refine w_next ?_ | with_reducible refine w_set ?_ | with_reducible refine w_drop ?_ | with_reducible refine w_ret ?_ | with_reducible refine w_retN ?_
  | with_reducible refine w_if ?_ | ((with_reducible refine' w_var ?hv ?_); (case hv => exact rfl)) | with_reducible refine w_c ?_ | with_reducible refine w_nil ?_ | with_reducible refine w_cons ?_ | with_reducible refine w_op ?_ | with_reducible refine w_un ?_
  | with_reducible refine w_test ?_ | with_reducible refine w_tB ?_ | with_reducible refine w_not ?_ | with_reducible refine w_and ?_ | with_reducible refine w_or ?_ | with_reducible refine w_bl ?_
  | with_reducible refine w_andV ?_ | with_reducible refine w_orV ?_ | with_reducible refine w_notV ?_ | with_reducible refine w_ifE ?_ | with_reducible refine w_chain ?_ | with_reducible refine w_i0 ?_
  | with_reducible refine w_call ?_ | with_reducible refine w_callS ?_ | with_reducible refine w_cB ?_ | with_reducible refine w_tup ?_ | with_reducible refine w_lst ?_ | with_reducible refine w_fldV ?_
  | with_reducible refine w_neF ?_ | with_reducible refine w_neT ?_ | with_reducible refine w_notN ?_ | with_reducible refine w_isN ?_ | with_reducible refine w_gname ?_ | with_reducible refine w_gsub ?_ | with_reducible refine w_asg ?_ | with_reducible refine w_sl ?_ | with_reducible refine w_noP ?_ | with_reducible refine w_int1 ?_ | with_reducible refine w_part ?_ | with_reducible refine w_yes ?_ | with_reducible refine w_nT ?_ | with_reducible refine w_nF ?_ | with_reducible refine w_iteT ?_ | with_reducible refine w_iteF ?_))
namespace L2
open PySem PySem.Spec PyProof.Rows
/-- a def's code object -/
def codeOf (K : PySem.W.Frag) (f : Addr) : Value := match K.lookup f with
  | some ⟨_, _, .func fd, _⟩ => fd.code
  | _ => .none
theorem FunD.okC {x ql : Str} {prm : Arguments} {bd : List Stmt} {sc : Scope} {dvs : List V} {kws : List (Str × V)} {f : Addr} {fd : FuncData} {P : Program} {w : World} {K : PySem.W.Frag} {mg : Str → Option Value} {base : Heap} {CX : CXT} {N ps : List Str} {k : Nat} {sp : Sp}
    (F : FunD K x ql prm bd sc dvs kws f fd) (S : FnScope N ps sc) (lens : ∀ zs G Q E, sp zs G Q E → zs.length = ps.length)
    (body : ∀ (J : Around) (up : List Env) (t : Shared) (G : Hp) (zs : List V) (Q : VK) (E : XK), Room k (J.deeper (envOfC ql sc t.heap.objs.size f (codeOf K f))) → sp zs G Q E →
      ∃ r, PSs (cxOf CX P w K mg base N ql sc f (codeOf K f) J up t G E) bd r ∧ r { nx := fun _ G' => Q .non G', rt := Q } (start N zs) G) : FnOk P w K mg base CX (k + 1) f fd ps sp := by
  obtain ⟨_, _, _, _, _, _, _, cdv, _, _, rfl, a, b, _, _⟩ := F.ex
  have e : codeOf K f = cdv := by unfold codeOf; rw [a]
  rw [e] at body
  exact fn_of a b S lens fun J up t G zs Q E => body J up t G zs Q E
end L2
namespace K3
open SLam LamX
theorem w_gnn {i j : Nat} {v1 v2 : V} {σ : L2.St} {H : Hp} {Q : L2.St → Hp → Prop} (h : Q ((σ.set i (some v1)).set j (some v2)) H) : gCons (gName i) (gCons (gName j) gNil) [v1, v2] σ H Q := ⟨_, _, rfl, _, _, rfl, rfl, h⟩
theorem CellAt.extn {H H' : Hp} (e : ExtN H H') {v : V} {c : Nat × Nat} (h : CellAt H v c) : CellAt H' v c := let ⟨a, h1, h2⟩ := h; ⟨a, h1, e _ _ h2 fun ps z => by cases z⟩
theorem paired_perm {α β : Type} {F : α → β → Prop} {xs ys : List α} (h : ys.Perm xs) : ∀ {bs : List β}, Paired F xs bs → ∃ cs, Paired F ys cs ∧ cs.Perm bs := by
  induction h with
  | nil => intro bs hb; exact ⟨bs, hb, .refl _⟩
  | cons x _ ih =>
    intro bs hb
    cases hb with
    | cons h t =>
      obtain ⟨cs, h1, h2⟩ := ih t
      exact ⟨_, .cons h h1, h2.cons _⟩
  | swap x y l =>
    intro bs hb
    cases hb with
    | cons h t =>
      cases t with
      | cons h' t => exact ⟨_, .cons h' (.cons h t), .swap ..⟩
  | trans _ _ ih1 ih2 =>
    intro bs hb
    obtain ⟨cs, h1, h2⟩ := ih2 hb
    obtain ⟨ds, h3, h4⟩ := ih1 h1
    exact ⟨ds, h3, h4.trans h2⟩
/-! ### number_at over what is frozen -/
def spNumS (K : PySem.W.Frag) : Sp := fun vs H Q _ => ∃ (g c a : Addr) (gs : List V) (i j : Nat) (r : List Int), vs = [.ref g, .ref c] ∧ SqE K H g gs ∧ SqT K H c [.int (i : Int), .int (j : Int)] ∧ atI gs (i : Int) = some (.ref a) ∧ SqE K H a (r.map V.int) ∧ j < r.length ∧ Q (.int (r.getD j 0)) H
/-- where a def's lambda is told -/
structure Told (K : PySem.W.Frag) (mg : Str → Option Value) (base : Heap) (x : Str) (c P : Addr) : Prop where
  code : codeOf K (He.ga K x) = .ref c
  tab : TabB base mg c P
abbrev lamT (P : Addr) : List (Addr × Str) := [(P, ("greatest_first.<locals>.<lambda>" : Str))]
def keyF (t : List (List Int)) (k : Nat × Nat) : Int × Int × Int := (-(at2 t k.1 k.2), (k.1 : Int), (k.2 : Int))
theorem sqB_ext {K : PySem.W.Frag} {H H1 : Hp} (e : ExtN H H1) {a : Addr} {xs : List V} : ∀ {b : Bool}, SqB K H b a xs → SqB K H1 b a xs
  | false, h => sql_ext e h
  | true, h => by
    rcases h with (h | ⟨o, h⟩) | h
    · exact .inl (.inl (e _ _ h fun ps z => by cases z))
    · exact .inl (.inr ⟨o, e _ _ h fun ps z => by cases z⟩)
    · exact .inr h
theorem sqE_ext {K : PySem.W.Frag} {H H1 : Hp} {a : Addr} {xs : List V} (h : SqE K H a xs) (e : ExtN H H1) : SqE K H1 a xs := h.imp fun _ z => sqB_ext e z
theorem GT.extn {K : PySem.W.Frag} {H H' : Hp} (e : ExtN H H') {g : Addr} {rs : List Addr} {t : List (List Int)} (h : GT K H g rs t) : GT K H' g rs t := ⟨sqE_ext h.at_ e, L2.Paired.mapP h.rows fun _ _ z => sqE_ext z e⟩
theorem frz_sqe {K : PySem.W.Frag} {H HZ : Hp} (z : Frz H HZ) {a : Addr} {xs : List V} (h : SqE K H a xs) : SqE K HZ a xs := h.imp fun b y => match b, y with
  | false, y => z.sql y
  | true, y => z.sqt y
def spGreatest (PT : Addr) (K : PySem.W.Frag) : Sp := fun vs H Q _ => ∃ (g l : Addr) (rs : List Addr) (t : List (List Int)) (m n : Nat) (ws : List V) (hs : List (Nat × Nat)), vs = [.ref g, .ref l] ∧ GT K H g rs t ∧ Rect t m n ∧ H l = some (.lst ws) ∧ Paired (CellAt H) ws hs ∧ hs.length ≤ 100 ∧ (∀ k ∈ hs, k.1 < m ∧ k.2 < n) ∧ Tabs (lamT PT) H ∧
  ∀ p H' ws' hs', ExtN H H' → Tabs (lamT PT) H' → H' p = some (.lst ws') → Paired (CellAt H') ws' hs' → hs'.Perm hs → hs'.Pairwise (fun a b => lex3 (keyF t a) (keyF t b)) → Q (.ref p) H'
section
variable {P : Program} {w : World} {K : PySem.W.Frag} {mg : Str → Option Value} {base : Heap}
theorem sc_numberS : FnScope ["grid", "cell", "row", "column"] ["grid", "cell"] (defScope s_number_at) := ⟨rfl, rfl, rfl, by decide +kernel, rfl, by decide +kernel, by decide +kernel⟩
theorem ok_numberS (T : Tx K mg) : Ok P w K mg base 1 (He.ga K "number_at") ["grid", "cell"] (spNumS K) := by
  obtain ⟨fd, F⟩ := T.f_number_at
  refine ⟨fd, F.ok (k := 0) sc_numberS (fun vs H Q E h => ?_) (fun cdv A outer s_ H vs Q E hr h => ?_), F.bindsN fun _ _ _ _ _ _ us hl => match us, hl with | [_, _], _ => rfl, F.kp⟩
  · obtain ⟨g, c, a, gs, i, j, r, rfl, hg, hc, ha, hr', hj, q⟩ := h
    rfl
  obtain ⟨g, c, a, gs, i, j, r, rfl, hg, hc, ha, hr', hj, q⟩ := h
  have hu65 := K3.Room.units65 hr
  have hu64 := Nat.lt_of_succ_lt hu65
  have hu0 := Nat.lt_of_le_of_lt (Nat.le_add_right _ 65) hu65
  have hu1 := Nat.lt_of_le_of_lt (Nat.add_le_add_left (show 1 ≤ 65 by decide) _) hu65
  refine ⟨_, pss_cons (ps_asg (pv 1) (pg_tup (by rfl) (pgs_cons (pg_name (i := 2) sc_numberS.nd rfl (Or.inl rfl)) (pgs_cons (pg_name (i := 3) sc_numberS.nd rfl (Or.inl rfl)) pgs_nil))))
      (pss_one (ps_ret (pe_ix ix_e (pe_ix ix_e (pv 0) (pv 2) (fun _ _ => rfl)) (pv 3) (fun _ _ => rfl)))), ?_⟩
  walk_at "go"
  refine w_gtup hc rfl (w_gnn ?_)
  dsimp only
  walk_at "go"
  refine w_ixE hg ha ?_
  walk_at "go"
  refine w_ixE hr' (at_getD hj) ?_
  exact q
theorem sc_greatest : FnScope ["grid", "cells"] ["grid", "cells"] (defScope s_greatest_first) := ⟨rfl, rfl, rfl, by decide +kernel, rfl, by decide +kernel, by decide +kernel⟩
theorem ok_greatest_first {c PT : Addr} (T : Tx K mg) (B : Told K mg base "greatest_first" c PT) : Ok P w K mg base 5 (He.ga K "greatest_first") ["grid", "cells"] (spGreatest PT K) := by
  obtain ⟨fd, F⟩ := T.f_greatest_first
  have Onumber_at := ok_numberS (P := P) (w := w) (base := base) T
  refine ⟨fd, F.okC (k := 4) sc_greatest (fun vs H Q E h => ?_) (fun A outer s_ H vs Q E hr h => ?_), F.bindsN fun _ _ _ _ _ _ us hl => match us, hl with | [_, _], _ => rfl, F.kp⟩
  · obtain ⟨g, l, rs, t, m, n, ws, hs, rfl, _⟩ := h
    rfl
  obtain ⟨g, l, rs, t, m, n, ws, hs, rfl, ht, hR, hl, hw, lhs, bhs, hT, q⟩ := h
  refine ⟨_, pss_one (ps_ret (pe_sortedLam (T := lamT PT) (x := "cell") (k := 1) (tb := (tTup (tCons (tUn (rU fun i => .int (-i)) (tCall (spNumS K) [] E0 (tCons (tVar 0) (tCons (tVar 2) tNil)))) (tCons (tVar 2) tNil)))) (by rfl) T.z_sorted (pa_cons (pv 1) pa_nil) B.tab B.code (List.mem_singleton.mpr rfl) (fun p hp _ => by rw [List.mem_singleton.mp hp]; rfl) (lam1_by (sc := defScope s_greatest_first) (by decide +kernel)) (show ("cell" : Str) ∉ [("grid" : Str), "cells"] by decide) rfl hr (fun _ _ _ _ _ _ => rfl) fun A s HZ f c' hA => ?_)), ?_⟩
  · exact pe_tup (pa_cons (pe_un un_neg (pe_f Onumber_at hA T.g_number_at (pa_cons (pv 0) (pa_cons (pv 2) pa_nil)))) (pa_cons (pv 2) pa_nil))
  · have kd : ∀ v, ∃ d : Int × Int × Int, ∀ k : Nat × Nat, CellAt H v k → d = keyF t k := fun v => by
      by_cases z : ∃ k, CellAt H v k
      · obtain ⟨k, hk⟩ := z
        refine ⟨keyF t k, fun k' hk' => ?_⟩
        obtain ⟨a, rfl, ha⟩ := hk
        obtain ⟨a', e, ha'⟩ := hk'
        cases e
        rw [ha] at ha'
        simp only [Option.some.injEq, HO.tup.injEq, List.cons.injEq, V.int.injEq, and_true] at ha'
        have : k = k' := Prod.ext (by omega) (by omega)
        rw [this]
      · exact ⟨(0, 0, 0), fun k hk => absurd ⟨k, hk⟩ z⟩
    obtain ⟨kg, kgs⟩ : ∃ kg : V → Int × Int × Int, ∀ v k, CellAt H v k → kg v = keyF t k := ⟨fun v => (kd v).choose, fun v k hk => (kd v).choose_spec k hk⟩
    have kfs : ∀ v k, CellAt H v k → k3D (kg v) = .tuple [.int (-(at2 t k.1 k.2)), cellD k] := fun v k hk => by rw [kgs v k hk]; rfl
    walk_at "go"
    refine w_sortL ?_
    walk_at "go"
    refine ⟨l, ws, fun v => k3D (kg v), rfl, SqL.of hl, hT, by rw [hw.length]; omega, fun v hv => ?_, fun v hv H2 HZ e2 fz => ?_, fun p H2 e2 t2 p0 => ?_⟩
    · exact ⟨_, _, _, rfl⟩
    · obtain ⟨iv, hiv⟩ := List.getElem?_of_mem hv
      obtain ⟨k, hk0, hk⟩ := K3.Paired.get hw hiv
      obtain ⟨k1, k2⟩ := bhs k (List.mem_of_getElem? hk0)
      dsimp only
      rw [kfs v k hk]
      obtain ⟨ar, r, har, hr', hxr⟩ := row_ofG ht (i := k.1) (by rw [hR.1]; exact k1)
      have lrr := hR.2 r (List.mem_of_getElem? hr')
      obtain ⟨va, rfl, hva⟩ := hk
      have zl : ∀ {a xs}, SqE K H a xs → SqE K HZ a xs := fun h => frz_sqe fz (sqE_ext h e2)
      have zt : SqT K HZ va [.int (k.1 : Int), .int (k.2 : Int)] := fz.sqt (SqT.of (e2 _ _ hva fun ps z => by cases z))
      walk_at "go"
      refine ⟨g, va, ar, _, k.1, k.2, r, rfl, zl ht.at_, zt, ref_at har, zl hxr, by omega, ?_⟩
      rw [← at2_of hr']
      refine ⟨_, rfl, ?_⟩
      walk_at "go"
      refine ⟨(by show 2 ≤ sizeLine; decide), fun p hp => ?_⟩
      exact Dp.tup (SqT.of upd_same) (.cons (.int _) (.cons (Dp.tup ((Same.new hp _).sqt zt) (.cons (.int _) (.cons (.int _) .nil))) .nil))
    · have le : PySem.W.dataLe false (fun v => k3D (kg v)) = fun p q => decide (lex3 (kg p) (kg q)) := dataLe_3 kg
      rw [le]
      have pm := List.mergeSort_perm ws (fun p q => decide (lex3 (kg p) (kg q)))
      have srt : (ws.mergeSort fun p q => decide (lex3 (kg p) (kg q))).Pairwise fun a b => decide (lex3 (kg a) (kg b)) = true := List.pairwise_mergeSort (le := fun p q => decide (lex3 (kg p) (kg q))) (fun a b c h1 h2 => decide_eq_true (lex3_trans (of_decide_eq_true h1) (of_decide_eq_true h2))) (fun a b => by
        rcases lex3_total (kg a) (kg b) with h | h
        · rw [decide_eq_true h]; rfl
        · rw [decide_eq_true h, Bool.or_true]) ws
      generalize ws.mergeSort (fun p q => decide (lex3 (kg p) (kg q))) = ys at pm srt ⊢
      obtain ⟨hs', h1, h2⟩ := paired_perm pm hw
      have e3 : ExtN H2 (upd H2 p (.lst ys)) := ExtN.of fun b o e => by rw [upd_ne (ne_of_none e p0)]; exact e
      refine q p _ ys hs' (e2.trans e3) (t2.ext fun b o e => by rw [upd_ne (ne_of_none e p0)]; exact e) upd_same (L2.Paired.mapP h1 fun _ _ z => (z.extn e2).extn e3) h2 ?_
      exact pairwise_paired (F := CellAt H) (fun v v' k k' hv hv' hle => by
        have := of_decide_eq_true hle
        rw [kgs v k hv, kgs v' k' hv'] at this
        exact this) h1 srt
end
end K3
end G1_part
section G2_part
set_option Elab.async false
set_option linter.all false
set_option maxRecDepth 100000
set_option maxHeartbeats 1000000
set_option pp.deepTerms.threshold 5
open PySem PySem.Spec PyProof.Rows L2
/-- go on as far as nothing is open -/
local macro_rules | `(tactic| walk_at "go") => `(tactic| repeat (first
  | with_reducible refine w_seq ?_ | with_reducible refine w_next ?_ | with_reducible refine w_set ?_ | with_reducible refine w_drop ?_ | with_reducible refine w_ret ?_ | with_reducible refine w_retN ?_
  | with_reducible refine w_if ?_ | ((with_reducible refine' w_var ?hv ?_); (case hv => exact rfl)) | with_reducible refine w_c ?_ | with_reducible refine w_nil ?_ | with_reducible refine w_cons ?_ | with_reducible refine w_op ?_ | with_reducible refine w_un ?_
  | with_reducible refine w_test ?_ | with_reducible refine w_tB ?_ | with_reducible refine w_not ?_ | with_reducible refine w_and ?_ | with_reducible refine w_or ?_ | with_reducible refine w_bl ?_
  | with_reducible refine w_andV ?_ | with_reducible refine w_orV ?_ | with_reducible refine w_notV ?_ | with_reducible refine w_ifE ?_ | with_reducible refine w_chain ?_ | with_reducible refine w_i0 ?_
  | with_reducible refine w_call ?_ | with_reducible refine w_callS ?_ | with_reducible refine w_cB ?_ | with_reducible refine w_tup ?_ | with_reducible refine w_lst ?_ | with_reducible refine w_fldV ?_
  | with_reducible refine w_neF ?_ | with_reducible refine w_neT ?_ | with_reducible refine w_notN ?_ | with_reducible refine w_isN ?_ | with_reducible refine w_gname ?_ | with_reducible refine w_gsub ?_ | with_reducible refine w_asg ?_ | with_reducible refine w_sl ?_ | with_reducible refine w_noP ?_ | with_reducible refine w_int1 ?_ | with_reducible refine w_part ?_ | with_reducible refine w_yes ?_ | with_reducible refine w_nT ?_ | with_reducible refine w_nF ?_ | with_reducible refine w_iteT ?_ | with_reducible refine w_iteF ?_))
namespace L2
open PySem PySem.Spec PyProof.Rows
/-- a comprehension over items, some kept, each giving something of which something is known -/
theorem items_gen {K : PySem.W.Frag} {α β : Type} {F : Hp → V → α → Prop} {G : Hp → V → β → Prop} (mF : ∀ {H H' : Hp} {v : V} {y : α}, Same H H' → F H v y → F H' v y) (mG : ∀ {H H' : Hp} {v : V} {y : β}, K3.Tk H H' → G H v y → G H' v y)
    {a D : Addr} {xs : List V} {ys : List α} {g : TG} {tt : TT} {te : TE} {vs : List Nat} {σ : L2.St} {H1 : Hp} {Qd : Hp → Prop} (bb : α → Bool) (o : α → β) (hs : SqL K H1 a xs) (hp : Paired (F H1) xs ys) (hD : H1 D = none) (hlen : xs.length ≤ 10000)
    (step : ∀ (v : V) (y : α) (H' : Hp), Same H1 H' → y ∈ ys → F H' v y → ∀ R : Option V → Hp → Prop, (∀ H'', Same H' H'' → bb y = false → R none H'') → (∀ z H'', Same H' H'' → bb y = true → G H'' z (o y) → R (some z) H'') →
      g v (wipe σ vs) H' fun σ2 H2 => wipe σ2 vs = wipe σ vs ∧ tt σ2 H2 fun b H3 => if b = true then te σ2 H3 (fun z H4 => R (some z) H4) else R none H3)
    (hd : ∀ H' zs, Same H1 H' → H' D = some (.lst zs) → Paired (G H') zs ((ys.filter bb).map o) → Qd H') : LcAt (Itl K a) D g tt te vs σ H1 Qd := by
  refine lc_list (xs := xs) (fun i H' => Same H1 H' ∧ ∃ zs, H' D = some (.lst zs) ∧ Paired (G H') zs (((ys.take i).filter bb).map o)) ⟨Same.new hD _, [], upd_same, .nil⟩ (fun i H' _ z => z.1.seq hs) ?_ ?_
  · rintro i x H2 hx ⟨e2, zs, hD2, hp2⟩
    obtain ⟨y, hy, hF⟩ := K3.Paired.get hp hx
    have hl : (ys.take (i + 1)).filter bb = (ys.take i).filter bb ++ (if bb y = true then [y] else []) := by
      rw [List.take_add_one, hy, List.filter_append]
      congr 1
      cases hb : bb y <;> simp [hb]
    refine step x y H2 e2 (List.mem_of_getElem? hy) (mF e2 hF) (fun oz H4 => match oz with
      | none => Same H1 H4 ∧ ∃ zs, H4 D = some (.lst zs) ∧ Paired (G H4) zs (((ys.take (i + 1)).filter bb).map o)
      | some z => ∃ acc, H4 D = some (.lst acc) ∧ acc.length < sizeLine ∧ (Same H1 (upd H4 D (.lst (acc ++ [z]))) ∧ ∃ zs, (upd H4 D (.lst (acc ++ [z]))) D = some (.lst zs) ∧ Paired (G (upd H4 D (.lst (acc ++ [z])))) zs (((ys.take (i + 1)).filter bb).map o))) (fun H3 e3 hb => ?_) (fun z H3 e3 hb hG => ?_)
    · rw [hb] at hl
      refine ⟨e2.trans e3, zs, e3 _ _ hD2, ?_⟩
      rw [hl, if_neg (by decide), List.append_nil]
      exact L2.Paired.mapP hp2 fun _ _ y => mG (K3.Tk.of e3) y
    · rw [hb] at hl
      have hD3 := e3 _ _ hD2
      have tk : K3.Tk H3 (upd H3 D (.lst (zs ++ [z]))) := K3.Tk.upd hD3 fun _ e => by cases e
      refine ⟨zs, hD3, ?_, (e2.trans e3).mut hD, zs ++ [z], upd_same, ?_⟩
      · refine Nat.lt_of_le_of_lt (show _ ≤ 10000 from ?_) (by decide)
        rw [hp2.length, List.length_map]
        refine Nat.le_trans (List.length_filter_le _ _) ?_
        rw [List.length_take, ← hp.length]
        omega
      · rw [hl, if_pos rfl, List.map_append]
        exact K3.Paired.app (L2.Paired.mapP hp2 fun _ _ y => mG ((K3.Tk.of e3).trans tk) y) (.cons (mG tk hG) .nil)
  · rintro H2 ⟨e2, zs, hD2, hp2⟩
    rw [hp.length, List.take_length] at hp2
    exact hd H2 zs e2 hD2 hp2
end L2
namespace K3
open SLam LamX
/-! ### hides: what is made of a grid alone -/
def secretL (t : List (List Int)) (m n : Nat) (few : Int) : List (Nat × Nat) := (cellsOf m n).dropLast.filter fun k => decide (1 ≤ at2 t k.1 k.2) && decide (at2 t k.1 k.2 < few)
def widthF (t : List (List Int)) (m n : Nat) (cs : List (Nat × Nat)) (c : Nat × Nat) : Int := at2 (mostF m n cs t c) c.1 c.2 - at2 (leastF m n cs t c) c.1 c.2
def safeB (t : List (List Int)) (m n : Nat) (cs ss : List (Nat × Nat)) (width : Int) : Bool := ss.all fun c => decide (c ∈ cs) && decide (width ≤ widthF t m n cs c)
/-- the first of ss that is not safe -/
def badF (t : List (List Int)) (m n : Nat) (cs : List (Nat × Nat)) (width : Int) (c : Nat × Nat) : Bool := !(decide (c ∈ cs) && decide (width ≤ widthF t m n cs c))
def firstF (t : List (List Int)) (m n : Nat) (cs ss : List (Nat × Nat)) (width : Int) : Option (Nat × Nat) := ss.find? (badF t m n cs width)
theorem first_none {t : List (List Int)} {m n : Nat} {cs ss : List (Nat × Nat)} {w : Int} : firstF t m n cs ss w = none ↔ safeB t m n cs ss w = true := by
  unfold firstF safeB badF
  rw [List.find?_eq_none, List.all_eq_true]
  simp
theorem find_at {α : Type} {p : α → Bool} {l : List α} {i : Nat} {c : α} (h : (l.take i).find? p = none) (hc : l[i]? = some c) : (p c = false → (l.take (i + 1)).find? p = none) ∧ (p c = true → l.find? p = some c) := by
  refine ⟨fun z => ?_, fun z => ?_⟩
  · rw [List.take_add_one, hc, List.find?_append, h]
    simp [z]
  · rw [← List.take_append_drop i l, List.find?_append, h]
    have li := (List.getElem?_eq_some_iff.mp hc).1
    have e : l.drop i = c :: l.drop (i + 1) := by
      rw [List.drop_eq_getElem_cons li]
      congr 1
      exact (List.getElem?_eq_some_iff.mp hc).2
    rw [e, List.find?_cons_of_pos z]
    rfl
def spAllBut (K : PySem.W.Frag) : Sp := fun vs H Q _ => ∃ (g : Addr) (rs : List Addr) (t : List (List Int)) (m n : Nat), vs = [.ref g] ∧ GT K H g rs t ∧ Rect t m n ∧ 1 ≤ m ∧ m ≤ 60 ∧ n ≤ 60 ∧ ∀ p H' ws, Same H H' → H p = none → H' p = some (.lst ws) → Paired (CellAt H') ws (cellsOf m n).dropLast → Q (.ref p) H'
def spSecret (K : PySem.W.Frag) : Sp := fun vs H Q _ => ∃ (g : Addr) (rs : List Addr) (t : List (List Int)) (m n : Nat) (few : Int), vs = [.ref g, .int few] ∧ GT K H g rs t ∧ Rect t m n ∧ 1 ≤ m ∧ m ≤ 60 ∧ n ≤ 60 ∧ ∀ p H' ws, Same H H' → H p = none → H' p = some (.lst ws) → Paired (CellAt H') ws (secretL t m n few) → Q (.ref p) H'
def spRefFW (K : PySem.W.Frag) : Sp := fun vs H Q _ => ∃ few width : Int, vs = [.int few, .int width] ∧ 2 ≤ few ∧ 1 ≤ width ∧ Q .non H
def spWidth (K : PySem.W.Frag) : Sp := fun vs H Q _ => ∃ (g h : Addr) (v : V) (rs : List Addr) (t : List (List Int)) (m n : Nat) (ws : List V) (cs : List (Nat × Nat)) (c : Nat × Nat), vs = [.ref g, .ref h, v] ∧ Asked K H g h v rs t m n ws cs c ∧ ∀ H', Same H H' → Q (.int (widthF t m n cs c)) H'
def spFirstU (K : PySem.W.Frag) : Sp := fun vs H Q _ => ∃ (g h sl : Addr) (width : Int) (rs : List Addr) (t : List (List Int)) (m n : Nat) (ws us : List V) (cs ss : List (Nat × Nat)), vs = [.ref g, .ref h, .ref sl, .int width] ∧ GT K H g rs t ∧ Grid t m n ∧ m ≤ 30 ∧ n ≤ 30 ∧ H h = some (.lst ws) ∧ Paired (CellAt H) ws cs ∧ cs.length ≤ 100 ∧ (∀ k ∈ cs, k.1 < m ∧ k.2 < n) ∧
  H sl = some (.lst us) ∧ Paired (CellAt H) us ss ∧ (∀ k ∈ ss, k.1 < m ∧ k.2 < n) ∧ ∀ H', Same H H' → (firstF t m n cs ss width = none → Q .non H') ∧ (∀ c, firstF t m n cs ss width = some c → ∀ v, CellAt H' v c → Q v H')
section
variable {P : Program} {w : World} {K : PySem.W.Frag} {mg : Str → Option Value} {base : Heap}
theorem sc_all_but_last : FnScope ["grid"] ["grid"] (defScope s_all_but_last) := ⟨rfl, rfl, rfl, by decide +kernel, rfl, by decide +kernel, by decide +kernel⟩
theorem ok_all_but_last (T : Tx K mg) : Ok P w K mg base 2 (He.ga K "all_but_last") ["grid"] (spAllBut K) := by
  obtain ⟨fd, F⟩ := T.f_all_but_last
  have Ocells_of := ok_cells_of (P := P) (w := w) (base := base) T
  refine ⟨fd, F.ok (k := 1) sc_all_but_last (fun vs H Q E h => ?_) (fun cdv A outer s_ H vs Q E hr h => ?_), F.bindsN fun _ _ _ _ _ _ us hl => match us, hl with | [_], _ => rfl, F.kp⟩
  · obtain ⟨g, rs, t, m, n, rfl, ht, hR, m1, m60, n60, q⟩ := h
    rfl
  obtain ⟨g, rs, t, m, n, rfl, ht, hR, m1, m60, n60, q⟩ := h
  have hu65 := K3.Room.units65 hr
  have hu64 := Nat.lt_of_succ_lt hu65
  have hu0 := Nat.lt_of_le_of_lt (Nat.le_add_right _ 65) hu65
  have hu1 := Nat.lt_of_le_of_lt (Nat.add_le_add_left (show 1 ≤ 65 by decide) _) hu65
  have rcells_of : Room 1 _ := hr.mono (by decide)
  refine ⟨_, pss_one (ps_ret (pe_slice sl_list (pe_f Ocells_of rcells_of T.g_cells_of (pa_cons (pv 0) pa_nil)) po_none (po_some (pe_un un_neg pe_int)))), ?_⟩
  walk_at "go"
  refine ⟨g, rs, t, m, n, rfl, ht, hR, m1, by omega, by omega, fun p H' ws e hp h hw => ?_⟩
  walk_at "go"
  refine ⟨_, rfl, ?_⟩
  walk_at "go"
  refine ⟨p, ws, rfl, SqL.of h, fun p2 hp2 => ?_⟩
  rw [cut_last]
  have e2 := Same.new hp2 (.lst ws.dropLast)
  exact q p2 _ ws.dropLast (e.trans e2) (e.free hp2) upd_same (L2.Paired.mapP (paired_drop hw) fun _ _ z => z.same e2)
theorem sc_secret_cells : FnScope ["grid", "few", "cell"] ["grid", "few"] (defScope s_secret_cells) := ⟨rfl, rfl, rfl, by decide +kernel, rfl, by decide +kernel, by decide +kernel⟩
theorem ok_secret_cells (T : Tx K mg) : Ok P w K mg base 3 (He.ga K "secret_cells") ["grid", "few"] (spSecret K) := by
  obtain ⟨fd, F⟩ := T.f_secret_cells
  have Oall_but_last := ok_all_but_last (P := P) (w := w) (base := base) T
  have Onumber_at := ok_number_at (P := P) (w := w) (base := base) T
  refine ⟨fd, F.ok (k := 2) sc_secret_cells (fun vs H Q E h => ?_) (fun cdv A outer s_ H vs Q E hr h => ?_), F.bindsN fun _ _ _ _ _ _ us hl => match us, hl with | [_, _], _ => rfl, F.kp⟩
  · obtain ⟨g, rs, t, m, n, few, rfl, ht, hR, m1, m60, n60, q⟩ := h
    rfl
  obtain ⟨g, rs, t, m, n, few, rfl, ht, hR, m1, m60, n60, q⟩ := h
  have hu65 := K3.Room.units65 hr
  have hu64 := Nat.lt_of_succ_lt hu65
  have hu0 := Nat.lt_of_le_of_lt (Nat.le_add_right _ 65) hu65
  have hu1 := Nat.lt_of_le_of_lt (Nat.add_le_add_left (show 1 ≤ 65 by decide) _) hu65
  have rall_but_last : Room 2 _ := hr.mono (by decide)
  have rnumber_at : Room 1 _ := hr.mono (by decide)
  refine ⟨_, pss_one (ps_ret (by exact pe_lc (own := [("cell", 2)]) (g := gName 2) (tt := (tB (tChain (rI0 fun i j => .bl (decide (i ≤ j))) (rI0 fun i j => .bl (decide (i < j))) (tC (.int 1)) (tCall (spNum K) [] E0 (tCons (tVar 0) (tCons (tVar 2) tNil))) (tVar 1)))) (te := (tVar 2)) (by rfl) sc_secret_cells.nd (pi_list (pe_f Oall_but_last rall_but_last T.g_all_but_last (pa_cons (pv 0) pa_nil))) (blkOk_by (own := [("cell", 2)]) (N := ["grid", "few", "cell"]) (sc := defScope s_secret_cells) (by decide +kernel)) (fun _ _ _ _ _ => (pg_name (i := 2) sc_secret_cells.nd rfl (Or.inl rfl))) (fun _ _ _ _ _ => (pts_one (pt_chain op_le op_lt pe_int (pe_f Onumber_at rnumber_at T.g_number_at (pa_cons (pv 0) (pa_cons (pv 2) pa_nil))) (pv 1)))) (fun _ _ _ _ _ => (pv 2)))), ?_⟩
  walk_at "go"
  refine lcAt_open (list_open ?_)
  walk_at "go"
  refine ⟨g, rs, t, m, n, rfl, ht, hR, m1, m60, n60, fun p1 H1 w1 e1 hp1 h1 hw1 => ?_⟩
  have l1 : w1.length ≤ 3600 := by
    rw [hw1.length, List.length_dropLast, cells_len]
    exact Nat.le_trans (Nat.sub_le _ _) (Nat.mul_le_mul m60 n60)
  refine ⟨p1, rfl, ⟨_, SqL.of h1⟩, fun D hD => ?_⟩
  refine items_gen (F := CellAt) (G := CellAt) (fun e h => CellAt.same e h) (fun e h => CellAt.tk e h) (fun k => decide (1 ≤ at2 t k.1 k.2) && decide (at2 t k.1 k.2 < few)) (fun c => c) (SqL.of h1) hw1 hD (by omega) ?_ ?_
  · intro v c H2 e2 hc hv R' r1 r2
    obtain ⟨c1, c2⟩ := cells_mem.mp (List.dropLast_subset _ hc)
    walk_at "go"
    refine ⟨rfl, ?_⟩
    walk_at "go"
    refine ⟨g, v, rs, t, m, n, c.1, c.2, rfl, (ht.same e1).same e2, hR, hv, c1, c2, ?_⟩
    walk_at "go"
    by_cases z1 : 1 ≤ at2 t c.1 c.2
    · rw [decide_eq_true z1]
      walk_at "go"
      by_cases z2 : at2 t c.1 c.2 < few
      · rw [decide_eq_true z2]
        walk_at "go"
        exact r2 _ _ (Same.refl _) (by simp [z1, z2]) hv
      · rw [decide_eq_false z2]
        walk_at "go"
        exact r1 _ (Same.refl _) (by simp [z2])
    · rw [decide_eq_false z1]
      walk_at "go"
      exact r1 _ (Same.refl _) (by simp [z1])
  intro H2 zs e2 hD2 hz
  rw [List.map_id'] at hz
  walk_at "go"
  exact q D H2 zs (e1.trans e2) (e1.free hD) hD2 hz
theorem sc_refuse_few_and_width : FnScope ["few", "width"] ["few", "width"] (defScope s_refuse_few_and_width) := ⟨rfl, rfl, rfl, by decide +kernel, rfl, by decide +kernel, by decide +kernel⟩
theorem ok_refuse_few_and_width (T : Tx K mg) : Ok P w K mg base 1 (He.ga K "refuse_few_and_width") ["few", "width"] (spRefFW K) := by
  obtain ⟨fd, F⟩ := T.f_refuse_few_and_width
  refine ⟨fd, F.ok (k := 0) sc_refuse_few_and_width (fun vs H Q E h => ?_) (fun cdv A outer s_ H vs Q E hr h => ?_), F.bindsN fun _ _ _ _ _ _ us hl => match us, hl with | [_, _], _ => rfl, F.kp⟩
  · obtain ⟨few, width, rfl, f2, w1, q⟩ := h
    rfl
  obtain ⟨few, width, rfl, f2, w1, q⟩ := h
  have hu65 := K3.Room.units65 hr
  have hu64 := Nat.lt_of_succ_lt hu65
  have hu0 := Nat.lt_of_le_of_lt (Nat.le_add_right _ 65) hu65
  have hu1 := Nat.lt_of_le_of_lt (Nat.add_le_add_left (show 1 ≤ 65 by decide) _) hu65
  refine ⟨_, pss_cons (ps_if (pt_cmpR op_lt (pv 0) (pe_gint T.i_LEAST_FEW) (nomark _)) (pss_one ps_dead) pss_nil)
      (pss_one (ps_if (pt_cmpR op_lt (pv 1) (pe_gint T.i_LEAST_WIDTH) (nomark _)) (pss_one ps_dead) pss_nil)), ?_⟩
  walk_at "go"
  rw [decide_eq_false (by omega : ¬ few < 2)]
  walk_at "go"
  rw [decide_eq_false (by omega : ¬ width < 1)]
  walk_at "go"
  exact q
theorem sc_reach_width : FnScope ["grid", "hidden", "cell"] ["grid", "hidden", "cell"] (defScope s_reach_width) := ⟨rfl, rfl, rfl, by decide +kernel, rfl, by decide +kernel, by decide +kernel⟩
theorem ok_reach_width (T : Tx K mg) : Ok P w K mg base 8 (He.ga K "reach_width") ["grid", "hidden", "cell"] (spWidth K) := by
  obtain ⟨fd, F⟩ := T.f_reach_width
  refine ⟨fd, F.ok (k := 7) sc_reach_width (fun vs H Q E h => ?_) (fun cdv A outer s_ H vs Q E hr h => ?_), F.bindsN fun _ _ _ _ _ _ us hl => match us, hl with | [_, _, _], _ => rfl, F.kp⟩
  · obtain ⟨g, h, v, rs, t, m, n, ws, cs, c, rfl, A, q⟩ := h
    rfl
  obtain ⟨g, h, v, rs, t, m, n, ws, cs, c, rfl, A, q⟩ := h
  have Omost_flow := ok_most_flow (P := P) (w := w) (base := base) T
  have rmost_flow : Room 7 _ := hr.mono (by decide)
  have Oleast_flow := ok_least_flow (P := P) (w := w) (base := base) T
  have rleast_flow : Room 7 _ := hr.mono (by decide)
  have hu65 := K3.Room.units65 hr
  have hu64 := Nat.lt_of_succ_lt hu65
  have hu0 := Nat.lt_of_le_of_lt (Nat.le_add_right _ 65) hu65
  have hu1 := Nat.lt_of_le_of_lt (Nat.add_le_add_left (show 1 ≤ 65 by decide) _) hu65
  refine ⟨_, pss_one (ps_ret (pe_op op_sub (pe_mth0 (pe_f Omost_flow rmost_flow T.g_most_flow (pa_cons (pv 0) (pa_cons (pv 1) (pa_cons (pv 2) pa_nil)))) T.cl_Flow (ok_now T) T.m_Flow_number_now (hr.mono (by decide))) (pe_mth0 (pe_f Oleast_flow rleast_flow T.g_least_flow (pa_cons (pv 0) (pa_cons (pv 1) (pa_cons (pv 2) pa_nil)))) T.cl_Flow (ok_now T) T.m_Flow_number_now (hr.mono (by decide))))), ?_⟩
  walk_at "go"
  refine w_meth ?_
  walk_at "go"
  refine ⟨g, h, v, rs, t, m, n, ws, cs, c, rfl, A, fun F2 H2 np2 rs2 e2 fl2 np20 rs20 => ?_⟩
  obtain ⟨⟨dx2, vc2, d2, kvs2, hob2, hvc2, _⟩, htab2, hrect2, hnd2, hne2⟩ := id fl2
  refine ⟨F2, _, _, rfl, hob2, rfl, w_nil ?_⟩
  refine ⟨F2, c, np2, rs2, _, m, n, _, rfl, fl2, A.c1, A.c2, ?_⟩
  refine w_meth ?_
  walk_at "go"
  refine ⟨g, h, v, rs, t, m, n, ws, cs, c, rfl, A.same e2, fun F1 H1 np1 rs1 e1 fl1 np10 rs10 => ?_⟩
  obtain ⟨⟨dx1, vc1, d1, kvs1, hob1, hvc1, _⟩, htab1, hrect1, hnd1, hne1⟩ := id fl1
  refine ⟨F1, _, _, rfl, hob1, rfl, w_nil ?_⟩
  refine ⟨F1, c, np1, rs1, _, m, n, _, rfl, fl1, A.c1, A.c2, ?_⟩
  walk_at "go"
  exact q H1 (e2.trans e1)
theorem sc_first_unsafe : FnScope ["grid", "hidden", "secret", "width", "cell"] ["grid", "hidden", "secret", "width"] (defScope s_first_unsafe) := ⟨rfl, rfl, rfl, by decide +kernel, rfl, by decide +kernel, by decide +kernel⟩
theorem ok_first_unsafe (T : Tx K mg) : Ok P w K mg base 9 (He.ga K "first_unsafe") ["grid", "hidden", "secret", "width"] (spFirstU K) := by
  obtain ⟨fd, F⟩ := T.f_first_unsafe
  have Oreach_width := ok_reach_width (P := P) (w := w) (base := base) T
  refine ⟨fd, F.ok (k := 8) sc_first_unsafe (fun vs H Q E h => ?_) (fun cdv A outer s_ H vs Q E hr h => ?_), F.bindsN fun _ _ _ _ _ _ us hl => match us, hl with | [_, _, _, _], _ => rfl, F.kp⟩
  · obtain ⟨g, h, sl, width, rs, t, m, n, ws, us, cs, ss, rfl, ht, gt, m30, n30, hh, hw, lcs, bcs, hs, hu, bss, q⟩ := h
    rfl
  obtain ⟨g, h, sl, width, rs, t, m, n, ws, us, cs, ss, rfl, ht, gt, m30, n30, hh, hw, lcs, bcs, hs, hu, bss, q⟩ := h
  have hu65 := K3.Room.units65 hr
  have hu64 := Nat.lt_of_succ_lt hu65
  have hu0 := Nat.lt_of_le_of_lt (Nat.le_add_right _ 65) hu65
  have hu1 := Nat.lt_of_le_of_lt (Nat.add_le_add_left (show 1 ≤ 65 by decide) _) hu65
  have rreach_width : Room 8 _ := hr.mono (by decide)
  refine ⟨_, pss_cons (ps_for (passes_of rfl) (by rfl) (pi_list (pv 2)) (pg_name (i := 4) sc_first_unsafe.nd rfl (Or.inl rfl)) (pss_one (ps_if (pw_or (pt_cmpR (op_notInC hu65) (pv 4) (pv 1) (by rfl)) (pw_or1 (pt_cmpR op_lt (pe_f Oreach_width rreach_width T.g_reach_width (pa_cons (pv 0) (pa_cons (pv 1) (pa_cons (pv 4) pa_nil)))) (pv 3) (nomark _)))).pt (pss_one (ps_ret (pv 4))) pss_nil)))
      (pss_one (ps_ret pe_non)), ?_⟩
  walk_at "go"
  refine list_open ?_
  walk_at "go"
  refine ⟨sl, rfl, ⟨_, SqL.of hs⟩, ?_⟩
  refine for_list (xs := us) (fun (i : Nat) σ H' => ∃ o4 : Option V, σ = [some (.ref g), some (.ref h), some (.ref sl), some (.int width), o4] ∧ Same H H' ∧ (ss.take i).find? (badF t m n cs width) = none) ⟨none, rfl, Same.refl _, rfl⟩ (fun i σ H' _ ⟨_, _, e, _⟩ => SqL.of (e _ _ hs)) ?_ ?_
  · rintro i v σ H1 hx ⟨o4, rfl, e1, sf⟩
    obtain ⟨c, hc, hv⟩ := K3.Paired.get hu hx
    obtain ⟨c1, c2⟩ := bss c (List.mem_of_getElem? hc)
    have hv1 := hv.same e1
    obtain ⟨next, bad⟩ := find_at sf hc
    have bc : badF t m n cs width c = !(decide (c ∈ cs) && decide (width ≤ widthF t m n cs c)) := rfl
    walk_at "go"
    refine ⟨h, ws, cs, c, hv1, rfl, .inl (SqL.of (e1 _ _ hh)), L2.Paired.mapP hw fun _ _ z => z.same e1, by omega, fun k hk => by have := bcs k hk; omega, ⟨by omega, by omega⟩, ?_⟩
    walk_at "go"
    by_cases z1 : c ∈ cs
    · rw [decide_eq_true z1] at bc ⊢
      walk_at "go"
      refine ⟨g, h, v, rs, t, m, n, ws, cs, c, rfl, ⟨ht.same e1, gt.rect, gt.m1, gt.n1, by omega, by omega, e1 _ _ hh, L2.Paired.mapP hw fun _ _ z => z.same e1, lcs, bcs, hv1, c1, c2, gt.nn c.1 c1 c.2 c2, gt.room c1 c2⟩, fun H2 e2 => ?_⟩
      walk_at "go"
      have e12 := e1.trans e2
      by_cases z2 : width ≤ widthF t m n cs c
      · rw [decide_eq_false (by omega : ¬ widthF t m n cs c < width)]
        walk_at "go"
        exact ⟨_, rfl, e12, next (by rw [bc, decide_eq_true z2]; rfl)⟩
      · rw [decide_eq_true (by omega : widthF t m n cs c < width)]
        walk_at "go"
        exact (q H2 e12).2 c (bad (by rw [bc, decide_eq_false z2]; rfl)) v (hv1.same e2)
    · rw [decide_eq_false z1] at bc ⊢
      walk_at "go"
      exact (q H1 e1).2 c (bad (by rw [bc]; rfl)) v hv1
  rintro σ H1 ⟨o4, rfl, e1, sf⟩
  rw [hu.length, List.take_length] at sf
  walk_at "go"
  exact (q H1 e1).1 sf
end
end K3
end G2_part
section G3_part
set_option Elab.async false
set_option linter.all false
set_option maxRecDepth 100000
set_option maxHeartbeats 1000000
set_option pp.deepTerms.threshold 5
open PySem PySem.Spec PyProof.Rows L2
/-- go on as far as nothing is open -/
local macro_rules | `(tactic| walk_at "go") => `(tactic| repeat (first
  | with_reducible refine w_seq ?_ | with_reducible refine w_next ?_ | with_reducible refine w_set ?_ | with_reducible refine w_drop ?_ | with_reducible refine w_ret ?_ | with_reducible refine w_retN ?_
  | with_reducible refine w_if ?_ | ((with_reducible refine' w_var ?hv ?_); (case hv => exact rfl)) | with_reducible refine w_c ?_ | with_reducible refine w_nil ?_ | with_reducible refine w_cons ?_ | with_reducible refine w_op ?_ | with_reducible refine w_un ?_
  | with_reducible refine w_test ?_ | with_reducible refine w_tB ?_ | with_reducible refine w_not ?_ | with_reducible refine w_and ?_ | with_reducible refine w_or ?_ | with_reducible refine w_bl ?_
  | with_reducible refine w_andV ?_ | with_reducible refine w_orV ?_ | with_reducible refine w_notV ?_ | with_reducible refine w_ifE ?_ | with_reducible refine w_chain ?_ | with_reducible refine w_i0 ?_
  | with_reducible refine w_call ?_ | with_reducible refine w_callS ?_ | with_reducible refine w_cB ?_ | with_reducible refine w_tup ?_ | with_reducible refine w_lst ?_ | with_reducible refine w_fldV ?_
  | with_reducible refine w_neF ?_ | with_reducible refine w_neT ?_ | with_reducible refine w_notN ?_ | with_reducible refine w_isN ?_ | with_reducible refine w_gname ?_ | with_reducible refine w_gsub ?_ | with_reducible refine w_asg ?_ | with_reducible refine w_sl ?_ | with_reducible refine w_noP ?_ | with_reducible refine w_int1 ?_ | with_reducible refine w_part ?_ | with_reducible refine w_yes ?_ | with_reducible refine w_nT ?_ | with_reducible refine w_nF ?_ | with_reducible refine w_iteT ?_ | with_reducible refine w_iteF ?_))
namespace L2
open PySem PySem.Spec PyProof.Rows
section
variable {X : Cx} {CX : CXT} {k n : Nat} {f : Addr} {fd : FuncData} {ps ks : List Str} {sp : Sp} {E : St → XK} {x : Str} {p pos : Pos} {e : Expr} {es : List Expr} {kws : List Keyword} {t tk : TA} {g : List Value → List Value → List Value} {gV : List V → List V → List V}
theorem run_fnNS {pins : List (Addr × Obj)} {σ : St} {H : Hp} {s : Shared} {Q : VK} {us ws : List Value} {vs zs : List V} (F : FnOk X.prog X.w X.K X.mg X.base CX k f fd ps sp) (hr : Room k X.A) (hb : KBn X.K fd ps n ks g gV) (hx : PassesAt CX X σ (E σ))
    (I : Inv X pins σ H s) (r : Vals vs us) (rz : Vals zs ws) (l1 : vs.length = n) (l2 : zs.length = ks.length) (h : sp (gV vs zs) H Q (E σ)) : wpAny (model X.prog X.w) X.A (call (.ref f) us (ks.zip ws)) (EP X pins σ Q) X.xe s := by
  have r2 := hb.rel r rz
  refine wpAny_call (codeAny_mono (F.run X.A X.stack s H ⟨us, ks.zip ws⟩ (g us ws) (gV vs zs) Q (E σ) hr I.env0 (hb.to s us ws I.kIn (r.length.symm.trans l1) (rz.length.symm.trans l2)) r2 h) fun r s' hq => ?_)
  cases r with
  | error e => exact hx pins H s e s' I hq
  | ok fl =>
    cases fl with
    | ret u => exact I.after hq
    | next => exact False.elim hq
    | brk => exact False.elim hq
    | cont => exact False.elim hq
def tCallNS (n m : Nat) (sp : Sp) (gV : List V → List V → List V) (E : St → XK) (t tk : TA) : TE := fun σ H Q => t σ H fun vs H1 => tk σ H1 fun zs H2 => vs.length = n ∧ zs.length = m ∧ sp (gV vs zs) H2 Q (E σ)
theorem pe_callNS (F : FnOk X.prog X.w X.K X.mg X.base CX k f fd ps sp) (hr : Room k X.A) (hg : Gl X x) (hm : X.mg x = some (.ref f)) (hk : PySem.W.keepIn X.K (.ref f) = true) (hb : KBn X.K fd ps n ks g gV) (hx : ∀ σ, PassesAt CX X σ (E σ))
    (ha : PA X (e :: es) t) (hkw : PK X kws tk) (hall : (backToKw pos (keywordEach kws X.env)).all (·.1.isSome) = true := by rfl) (hks : (backToKw pos (keywordEach kws X.env)).filterMap (·.1) = ks := by rfl)
    (hdb : (x == ("__debug__" : Str)) = false := by decide) (he : starEach (e :: es) X.env = (false, eval e X.env) :: starEach es X.env := by rfl)
    (hpl : ((backTo pos (starEach (e :: es) X.env)).any (·.1) || (backToKw pos (keywordEach kws X.env)).any (·.1.isNone)) = false := by rfl) :
    PE X (.Call (.Name x p) (e :: es) kws pos) (tCallNS n ks.length sp gV E t tk) := by
  refine ⟨fun pins s σ H Q I h => ?_⟩
  refine wpAny_Call_Name_kw (ld_glob I hg hm ?_ hdb)
  refine PySem.W.callWith_KW (h₀ := X.base) I.ok.mod.kin hk hall (thn (ha.run pos pins s σ H _ I h) fun us s1 ⟨vs, H1, I1, r, q⟩ => ?_) hpl he
  refine thn (hkw.run pos pins s1 σ H1 _ I1 q) fun ws s2 ⟨zs, H2, I2, rz, l1, l2, q2⟩ => ⟨I2.kIn, ?_⟩
  rw [hks]
  exact run_fnNS F hr hb (hx σ) I2 r rz l1 l2 q2
theorem pe_fKS {W : WX} (tkW : Takes X W) (O : OkK X.prog X.w X.K X.mg X.base k f ps n ks sp) (hr : Room k X.A) (hm : X.mg x = some (.ref f)) (ha : PA X (e :: es) t) (hkw : PK X kws tk) (hg : Gl X x := by rfl) (hall : (backToKw pos (keywordEach kws X.env)).all (·.1.isSome) = true := by rfl)
    (hks : (backToKw pos (keywordEach kws X.env)).filterMap (·.1) = ks := by rfl) (hdb : (x == ("__debug__" : Str)) = false := by decide) (he : starEach (e :: es) X.env = (false, eval e X.env) :: starEach es X.env := by rfl)
    (hpl : ((backTo pos (starEach (e :: es) X.env)).any (·.1) || (backToKw pos (keywordEach kws X.env)).any (·.1.isNone)) = false := by rfl) : PE X (.Call (.Name x p) (e :: es) kws pos) (tCallNS n ks.length sp (fun vs zs => vs ++ zs) (WE W) t tk) := by
  obtain ⟨fd, F, b, kp⟩ := O.run
  exact pe_callNS F hr hg hm kp b (fun σ => passAt tkW σ) ha hkw hall hks hdb he hpl
theorem w_callNS {σ : L2.St} {H : Hp} {Q : VK} {m : Nat} (h : t σ H fun vs H1 => tk σ H1 fun zs H2 => vs.length = n ∧ zs.length = m ∧ sp (vs ++ zs) H2 Q (E σ)) : tCallNS n m sp (fun vs zs => vs ++ zs) E t tk σ H Q := h
end
end L2
namespace K3
open SLam LamX
/-! ### what is raised -/
theorem and2 {a b : Bool} (h : (a && b) = true) : a = true ∧ b = true := Bool.and_eq_true_iff.mp h
section
variable {K : PySem.W.Frag} {mg : Str → Option Value}
theorem oexcB_ok {C : Addr} (h : oexcB K C = true) : ∃ nm q N bs bm sn sub ab col dd k0 k1 k2 k3 k5, K.lookup C = some (excClassObj nm q C N bs bm true sn sub ab col dd k0 k1 k2 k3 k5 "ValueError.__new__") ∧ PySem.HandSPX.refsVE bm = true := by
  unfold oexcB at h
  split at h
  · rename_i dd cd sl ho
    split at h
    · rename_i C' bm k0 k1 k2 k3 n k5 hm hs
      simp only [Bool.and_eq_true, beq_iff_eq, Bool.not_eq_true'] at h
      obtain ⟨rfl, rfl, hdel, hhd, ht⟩ := h
      obtain ⟨nm, bs, mro, ns, qn, hd, sn, sub, ab, col, del⟩ := cd
      dsimp only at hm hdel hhd
      subst hm hdel hhd
      have hsl : sl = #[k0, k1, k2, k3, some (.builtin "ValueError.__new__"), k5] := by
        obtain ⟨l⟩ := sl
        simp only at hs
        rw [hs]
      subst hsl
      exact ⟨nm, qn, ns, bs, bm, sn, sub, ab, col, dd, k0, k1, k2, k3, k5, ho, ht⟩
    · cases h
  · cases h
/-- what K says of the error class -/
structure ErrC (K : PySem.W.Frag) : Prop where
  o : OexC K (He.ga K "Unsafe")
  f : XfC K (He.ga K "Unsafe")
  m : PySem.W.exmOne K (.ref (He.ga K "Unsafe")) (.ref (He.ga K "Unsafe")) = some true
theorem Tx.err (T : Tx K mg) : ErrC K := by
  obtain ⟨q1, q⟩ := and2 (show (excB K (He.ga K "Unsafe") && _) = true from T.e)
  obtain ⟨_, q4⟩ := and2 q
  obtain ⟨r1, r⟩ := and2 (show (oexcB K (He.ga K "Unsafe") && _) = true from q1)
  obtain ⟨r2, r⟩ := and2 r
  obtain ⟨r3, r⟩ := and2 r
  obtain ⟨r4, r5⟩ := and2 r
  have X := xfB_ok r5
  exact ⟨⟨oexcB_ok r1, eqB_ok r2, X.exC, eqB_ok r3, r4⟩, X, eqB_ok q4⟩
end
/-- __init__(self, cell) of the error class -/
def spE1 (K : PySem.W.Frag) : Sp := fun vs H Q _ => ∃ (a : Addr) (v : V), vs = [.ref a, v] ∧ H a = some (exo a (He.ga K "Unsafe") none) ∧
  ∀ dx, H dx = none → dx ≠ a → Q .non (upd (upd H dx (exd dx [("cell", v)])) a (exo a (He.ga K "Unsafe") (some dx)))
def gErr1 (K : PySem.W.Frag) (v : V) (H1 : Hp) (Q : XK) : Prop := [v].length ≤ 1000 ∧ ∀ a, H1 a = none → spE1 K (.ref a :: ([v] ++ [])) (upd H1 a (exo a (He.ga K "Unsafe") none))
  (fun u H2 => u = .non ∧ ∃ (d : Addr) (fs : List (Str × V)), H2 a = some (exo a (He.ga K "Unsafe") (some d)) ∧ H2 d = some (exd d fs) ∧ H1 d = none ∧ Q (.ref (He.ga K "Unsafe")) (some d) (upd (del H2 a) d (.xd fs))) (fun _ _ _ => False)
theorem gErr1_of {K : PySem.W.Frag} {v : V} {H : Hp} {Q : XK} (q : ∀ (d : Addr) (H' : Hp), Same H H' → H' d = some (.xd [("cell", v)]) → Q (.ref (He.ga K "Unsafe")) (some d) H') : gErr1 K v H Q := by
  refine ⟨(by show 1 ≤ 1000; decide), fun a ha => ⟨a, v, rfl, upd_same, fun dx hd hne => ⟨rfl, dx, [("cell", v)], upd_same, by rw [upd_ne hne]; exact upd_same, ?_, ?_⟩⟩⟩
  · rw [upd_ne hne] at hd
    exact hd
  · rw [upd_ne hne] at hd
    refine q dx _ (fun b o hb => ?_) upd_same
    rw [upd_ne (ne_of_none hb hd), del_ne (ne_of_none hb ha), upd_ne (ne_of_none hb ha), upd_ne (ne_of_none hb hd), upd_ne (ne_of_none hb ha)]
    exact hb
def tErr1 (K : PySem.W.Frag) (te : TE) (W : WX) : TS := fun _ σ H => te σ H fun v H1 => gErr1 K v H1 fun cls d H' => W cls d σ H'
theorem w_err1 {K : PySem.W.Frag} {te : TE} {W : WX} {D : Ends} {σ : L2.St} {H : Hp} (h : te σ H fun v H1 => gErr1 K v H1 fun cls d H' => W cls d σ H') : tErr1 K te W D σ H := h
section
variable {X : Cx} {k : Nat} {fI : Addr} {p pos pos2 : Pos} {e : Expr} {te : TE} {ps : List Str} {W : WX}
theorem ps_err1 (C : ErrC X.K) (iC : Meth X.K (He.ga X.K "Unsafe") "__init__" fI) (O : Ok X.prog X.w X.K X.mg X.base k fI ps (spE1 X.K)) (hr : Room (k + 1) X.A) (hm : X.mg "Unsafe" = some (.ref (He.ga X.K "Unsafe"))) (tk : Takes X W)
    (ha : PE X e te) (hc : X.calm = true := by rfl) (hg : Gl X "Unsafe" := by rfl) (he : starEach (e :: []) X.env = (false, eval e X.env) :: starEach [] X.env := by rfl) (hpl : (backTo pos (starEach [] X.env)).any (·.1) = false := by rfl) :
    PS X (.Raise (some (.Call (.Name "Unsafe" p) [e] [] pos)) none pos2) (tErr1 X.K te W) := by
  obtain ⟨fd, F, b, kp⟩ := O.run
  exact ps_raise (pos := pos2) hc tk (pmk_oex (pos := pos) (p := p) C.o iC.at_ (beq_iff_eq.mp iC.fn) F hr b .nil passL hg hm (pa_cons ha pa_nil he) (by decide) he hpl)
end
section
variable {P : Program} {w : World} {K : PySem.W.Frag} {mg : Str → Option Value} {base : Heap}
theorem sc_Unsafe : FnScope ["self", "cell"] ["self", "cell"] (defScope s_Unsafe_init) := ⟨rfl, rfl, rfl, by decide +kernel, rfl, by decide +kernel, by decide +kernel⟩
theorem ok_Unsafe (T : Tx K mg) : Ok P w K mg base 1 (He.ma K (He.ga K "Unsafe") "__init__") ["self", "cell"] (spE1 K) := by
  obtain ⟨fd, F⟩ := T.f_Unsafe_init
  refine ⟨fd, F.ok sc_Unsafe (fun vs H Q E h => ?_) (fun cdv A outer s H vs Q E hr h => ?_), F.bindsN fun _ _ _ _ _ _ us hl => match us, hl with | [_, _], _ => rfl, F.kp⟩
  · obtain ⟨a, v, rfl, _⟩ := h
    rfl
  obtain ⟨a, v, rfl, ha, q⟩ := h
  refine ⟨_, pss_one (ps_ost (pv 0) (pv 1)), ?_⟩
  exact ⟨_, rfl, _, rfl, a, _, rfl, T.err.o, T.n_Unsafe_cell, .inl ⟨ha, fun dx hd hne => q dx hd hne⟩⟩
end
end K3
end G3_part
section G4_part
set_option Elab.async false
set_option linter.all false
set_option maxRecDepth 100000
set_option maxHeartbeats 1000000
set_option pp.deepTerms.threshold 5
open PySem PySem.Spec PyProof.Rows L2
/-- go on as far as nothing is open -/
local macro_rules | `(tactic| walk_at "go") => `(tactic| repeat (first
  | with_reducible refine w_seq ?_ | with_reducible refine w_next ?_ | with_reducible refine w_set ?_ | with_reducible refine w_drop ?_ | with_reducible refine w_ret ?_ | with_reducible refine w_retN ?_
  | with_reducible refine w_if ?_ | ((with_reducible refine' w_var ?hv ?_); (case hv => exact rfl)) | with_reducible refine w_c ?_ | with_reducible refine w_nil ?_ | with_reducible refine w_cons ?_ | with_reducible refine w_op ?_ | with_reducible refine w_un ?_
  | with_reducible refine w_test ?_ | with_reducible refine w_tB ?_ | with_reducible refine w_not ?_ | with_reducible refine w_and ?_ | with_reducible refine w_or ?_ | with_reducible refine w_bl ?_
  | with_reducible refine w_andV ?_ | with_reducible refine w_orV ?_ | with_reducible refine w_notV ?_ | with_reducible refine w_ifE ?_ | with_reducible refine w_chain ?_ | with_reducible refine w_i0 ?_
  | with_reducible refine w_call ?_ | with_reducible refine w_callS ?_ | with_reducible refine w_cB ?_ | with_reducible refine w_tup ?_ | with_reducible refine w_lst ?_ | with_reducible refine w_fldV ?_
  | with_reducible refine w_neF ?_ | with_reducible refine w_neT ?_ | with_reducible refine w_notN ?_ | with_reducible refine w_isN ?_ | with_reducible refine w_gname ?_ | with_reducible refine w_gsub ?_ | with_reducible refine w_asg ?_ | with_reducible refine w_sl ?_ | with_reducible refine w_noP ?_ | with_reducible refine w_int1 ?_ | with_reducible refine w_part ?_ | with_reducible refine w_yes ?_ | with_reducible refine w_nT ?_ | with_reducible refine w_nF ?_ | with_reducible refine w_iteT ?_ | with_reducible refine w_iteF ?_))
namespace K3
open SLam LamX
theorem fit_more {t u : List (List Int)} {cs cs' : List (Nat × Nat)} {m n : Nat} (h : Fit t cs u m n) (s : ∀ k ∈ cs, k ∈ cs') : Fit t cs' u m n := ⟨h.1, h.2.1, h.2.2.1, fun i hi j hj hn => h.2.2.2 i hi j hj fun z => hn (s _ z)⟩
theorem width_mono {t : List (List Int)} {m n : Nat} {cs cs' : List (Nat × Nat)} {c : Nat × Nat} (g : Grid t m n) (hb : ∀ k ∈ cs', k.1 < m ∧ k.2 < n) (hl : cs.length ≤ 100) (hl' : cs'.length ≤ 100) (hlast : (m - 1, n - 1) ∉ cs') (s : ∀ k ∈ cs, k ∈ cs') (hc : c ∈ cs) : widthF t m n cs c ≤ widthF t m n cs' c := by
  obtain ⟨a1, a2⟩ := least_ok g (fun k hk => hb k (s k hk)) hl hc
  obtain ⟨b1, b2⟩ := least_ok g hb hl' (s c hc)
  obtain ⟨c1, c2⟩ := most_ok g (fun k hk => hb k (s k hk)) hl hc fun z => hlast (s _ z)
  obtain ⟨d1, d2⟩ := most_ok g hb hl' (s c hc) hlast
  have e1 := b2 _ (fit_more a1 s)
  have e2 := d2 _ (fit_more c1 s)
  unfold widthF
  omega
theorem safe_iff {t : List (List Int)} {m n : Nat} {cs ss : List (Nat × Nat)} {w : Int} : safeB t m n cs ss w = true ↔ ∀ c ∈ ss, c ∈ cs ∧ w ≤ widthF t m n cs c := by
  unfold safeB
  simp [List.all_eq_true]
theorem safe_mono {t : List (List Int)} {m n : Nat} {cs cs' ss : List (Nat × Nat)} {w : Int} (g : Grid t m n) (hb : ∀ k ∈ cs', k.1 < m ∧ k.2 < n) (hl : cs.length ≤ 100) (hl' : cs'.length ≤ 100) (hlast : (m - 1, n - 1) ∉ cs') (s : ∀ k ∈ cs, k ∈ cs') (h : safeB t m n cs ss w = true) : safeB t m n cs' ss w = true := by
  rw [safe_iff] at h ⊢
  intro c hc
  obtain ⟨h1, h2⟩ := h c hc
  exact ⟨s c h1, Int.le_trans h2 (width_mono g hb hl hl' hlast s h1)⟩
theorem safe_out {t : List (List Int)} {m n : Nat} {cs ss : List (Nat × Nat)} {w : Int} {c : Nat × Nat} (h1 : c ∈ ss) (h2 : c ∉ cs) : safeB t m n cs ss w = false := by
  cases h : safeB t m n cs ss w with
  | false => rfl
  | true => exact absurd (safe_iff.mp h c h1).1 h2
theorem width_same {t : List (List Int)} {m n : Nat} {cs cs' : List (Nat × Nat)} {c : Nat × Nat} (g : Grid t m n) (hb : ∀ k ∈ cs, k ∈ (cellsOf m n).dropLast) (hl : cs.length ≤ 100) (hl' : cs'.length ≤ 100) (s : ∀ k, k ∈ cs' ↔ k ∈ cs) (hc : c ∈ cs) : widthF t m n cs' c = widthF t m n cs c := by
  have inb : ∀ k ∈ cs, k.1 < m ∧ k.2 < n := fun k hk => cells_mem.mp (List.dropLast_subset _ (hb k hk))
  have last : (m - 1, n - 1) ∉ cs := fun z => (drop_mem g.m1 g.n1 (hb _ z)).2.2 rfl
  have h1 := width_mono g inb hl' hl last (fun k hk => (s k).mp hk) ((s c).mpr hc)
  have h2 := width_mono g (fun k hk => inb k ((s k).mp hk)) hl hl' (fun z => last ((s _).mp z)) (fun k hk => (s k).mpr hk) hc
  omega
theorem first_same {t : List (List Int)} {m n : Nat} {cs cs' ss : List (Nat × Nat)} {w : Int} (g : Grid t m n) (hb : ∀ k ∈ cs, k ∈ (cellsOf m n).dropLast) (hl : cs.length ≤ 100) (hl' : cs'.length ≤ 100) (s : ∀ k, k ∈ cs' ↔ k ∈ cs) : firstF t m n cs' ss w = firstF t m n cs ss w := by
  have e : badF t m n cs' w = badF t m n cs w := funext fun c => by
    unfold badF
    by_cases h : c ∈ cs
    · rw [width_same g hb hl hl' s h, decide_eq_true h, decide_eq_true ((s c).mpr h)]
    · rw [decide_eq_false h, decide_eq_false (fun z => h ((s c).mp z))]
      rfl
  unfold firstF
  rw [e]
/-- the cells, the greatest number first, else in reading order -/
def ordF (t : List (List Int)) (cs : List (Nat × Nat)) : List (Nat × Nat) := cs.mergeSort fun a b => decide (lex3 (keyF t a) (keyF t b))
theorem key_inj {t : List (List Int)} {a b : Nat × Nat} (h : keyF t a = keyF t b) : a = b := by
  unfold keyF at h
  injection h with h1 h2
  injection h2 with h2 h3
  exact Prod.ext (by omega) (by omega)
theorem ord_one {t : List (List Int)} {cs os : List (Nat × Nat)} (p : os.Perm cs) (q : os.Pairwise fun a b => lex3 (keyF t a) (keyF t b)) : os = ordF t cs := by
  have srt : (ordF t cs).Pairwise fun a b => decide (lex3 (keyF t a) (keyF t b)) = true := List.pairwise_mergeSort (le := fun a b => decide (lex3 (keyF t a) (keyF t b))) (fun a b c h1 h2 => decide_eq_true (lex3_trans (of_decide_eq_true h1) (of_decide_eq_true h2))) (fun a b => by
        rcases lex3_total (keyF t a) (keyF t b) with h | h
        · rw [decide_eq_true h]; rfl
        · rw [decide_eq_true h, Bool.or_true]) cs
  refine List.Perm.eq_of_pairwise (le := fun a b => lex3 (keyF t a) (keyF t b)) (fun a b _ _ h1 h2 => key_inj (lex3_anti h1 h2)) q (srt.imp fun h => of_decide_eq_true h) (p.trans (List.mergeSort_perm _ _).symm)
/-- one cell's turn: shown from now on, if all stay safe -/
def stepF (t : List (List Int)) (m n : Nat) (ss : List (Nat × Nat)) (w : Int) (hi : List (Nat × Nat)) (c : Nat × Nat) : List (Nat × Nat) := if c ∉ ss ∧ firstF t m n (othersF hi c) ss w = none then othersF hi c else hi
def hidF (t : List (List Int)) (m n : Nat) (few w : Int) : List (Nat × Nat) := (ordF t (cellsOf m n).dropLast).foldl (stepF t m n (secretL t m n few) w) (cellsOf m n).dropLast
theorem step_sub {t : List (List Int)} {m n : Nat} {ss : List (Nat × Nat)} {w : Int} {hi : List (Nat × Nat)} {c : Nat × Nat} : (∀ k ∈ stepF t m n ss w hi c, k ∈ hi) ∧ (stepF t m n ss w hi c).length ≤ hi.length := by
  unfold stepF
  split
  · exact ⟨fun k hk => (others_mem.mp hk).1, List.length_filter_le _ _⟩
  · exact ⟨fun _ h => h, Nat.le_refl _⟩
theorem steps_sub {t : List (List Int)} {m n : Nat} {ss : List (Nat × Nat)} {w : Int} : ∀ (os hi : List (Nat × Nat)), (∀ k ∈ os.foldl (stepF t m n ss w) hi, k ∈ hi) ∧ (os.foldl (stepF t m n ss w) hi).length ≤ hi.length
  | [], hi => ⟨fun _ h => h, Nat.le_refl _⟩
  | c :: os, hi => by
    obtain ⟨a1, a2⟩ := steps_sub os (stepF t m n ss w hi c)
    obtain ⟨b1, b2⟩ := step_sub (t := t) (m := m) (n := n) (ss := ss) (w := w) (hi := hi) (c := c)
    exact ⟨fun k hk => b1 k (a1 k hk), Nat.le_trans a2 b2⟩
theorem hid_sub {t : List (List Int)} {m n : Nat} {few w : Int} : (∀ k ∈ hidF t m n few w, k ∈ (cellsOf m n).dropLast) ∧ (hidF t m n few w).length ≤ (cellsOf m n).dropLast.length := steps_sub _ _
/-- an object apart from all that was known -/
def Apart (H : Hp) (p : Addr) : Prop := ∀ q o, H q = some o → (∀ ps, o ≠ .tbl ps) → q ≠ p
theorem Apart.none {H : Hp} {p : Addr} (h : H p = none) : Apart H p := fun q o e _ z => by rw [z, h] at e; cases e
theorem Apart.ext {H H' : Hp} (e : ExtN H H') {p : Addr} (h : Apart H' p) : Apart H p := fun q o hq n => h q o (e q o hq n) n
def spHidC (PT : Addr) (K : PySem.W.Frag) : Sp := fun vs H Q E => ∃ (g : Addr) (few width : Int) (rs : List Addr) (t : List (List Int)) (m n : Nat), vs = [.ref g, .int few, .int width] ∧ GT K H g rs t ∧ Grid t m n ∧ m ≤ 10 ∧ n ≤ 10 ∧ 2 ≤ few ∧ 1 ≤ width ∧ Tabs (lamT PT) H ∧
  (firstF t m n (cellsOf m n).dropLast (secretL t m n few) width = none → ∀ p H' ws, ExtN H H' → Tabs (lamT PT) H' → Apart H p → H' p = some (.lst ws) → Paired (CellAt H') ws (hidF t m n few width) → Q (.ref p) H') ∧
  (∀ c, firstF t m n (cellsOf m n).dropLast (secretL t m n few) width = some c → ∀ d H' v, Same H H' → H' d = some (.xd [("cell", v)]) → CellAt H' v c → E (.ref (He.ga K "Unsafe")) (some d) H')
def spSafe (K : PySem.W.Frag) : Sp := fun vs H Q _ => ∃ (g : Addr) (hv : V) (few width : Int) (rs : List Addr) (t : List (List Int)) (m n : Nat) (hs : List (Nat × Nat)), vs = [.ref g, hv, .int few, .int width] ∧ GT K H g rs t ∧ Grid t m n ∧ m ≤ 10 ∧ n ≤ 10 ∧ 2 ≤ few ∧ 1 ≤ width ∧ HidIn K H hv hs m n ∧
  ∀ H', Same H H' → Q (.bl (decide (firstF t m n hs (secretL t m n few) width = none))) H'
section
variable {P : Program} {w : World} {K : PySem.W.Frag} {mg : Str → Option Value} {base : Heap}
theorem sc_hidden_cells : FnScope ["grid", "few", "width", "secret", "hidden", "unsafe", "cell", "fewer", "other"] ["grid", "few", "width"] (defScope s_hidden_cells) := ⟨rfl, rfl, rfl, by decide +kernel, rfl, by decide +kernel, by decide +kernel⟩
theorem ok_hidden_cells {ct PT : Addr} (T : Tx K mg) (B : Told K mg base "greatest_first" ct PT) : OkK P w K mg base 10 (He.ga K "hidden_cells") ["grid", "few", "width"] 1 ["few", "width"] (spHidC PT K) := by
  obtain ⟨fd, F⟩ := T.f_hidden_cells
  have Orefuse_few_and_width := ok_refuse_few_and_width (P := P) (w := w) (base := base) T
  have Osecret_cells := ok_secret_cells (P := P) (w := w) (base := base) T
  have Oall_but_last := ok_all_but_last (P := P) (w := w) (base := base) T
  have Ofirst_unsafe := ok_first_unsafe (P := P) (w := w) (base := base) T
  have Ogreatest_first := ok_greatest_first (P := P) (w := w) (base := base) T B
  refine ⟨fd, F.ok (k := 9) sc_hidden_cells (fun vs H Q E h => ?_) (fun cdv A outer s_ H vs Q E hr h => ?_), kb_of F fun _ _ _ _ _ _ us ws h1 h2 => match us, ws, h1, h2 with | [_], [_, _], _, _ => rfl, F.kp⟩
  · obtain ⟨g, few, width, rs, t, m, n, rfl, _⟩ := h
    rfl
  obtain ⟨g, few, width, rs, t, m, n, rfl, ht, gt, m10, n10, f2, w1, hT, q1, q2⟩ := h
  have hu65 := K3.Room.units65 hr
  have hu64 := Nat.lt_of_succ_lt hu65
  have rrefuse_few_and_width : Room 1 _ := hr.mono (by decide)
  have rsecret_cells : Room 3 _ := hr.mono (by decide)
  have rall_but_last : Room 2 _ := hr.mono (by decide)
  have rfirst_unsafe : Room 9 _ := hr
  have rgreatest_first : Room 5 _ := hr.mono (by decide)
  have hR := gt.rect
  have m1 := gt.m1
  have n1 := gt.n1
  have m60 : m ≤ 60 := by omega
  have n60 : n ≤ 60 := by omega
  have m30 : m ≤ 30 := by omega
  have n30 : n ≤ 30 := by omega
  have hl : (cellsOf m n).dropLast.length ≤ 100 := by
    rw [List.length_dropLast, cells_len]
    exact Nat.le_trans (Nat.sub_le _ _) (Nat.mul_le_mul m10 n10)
  have inb : ∀ k ∈ (cellsOf m n).dropLast, k.1 < m ∧ k.2 < n := fun k hk => cells_mem.mp (List.dropLast_subset _ hk)
  have ins : ∀ k ∈ secretL t m n few, k.1 < m ∧ k.2 < n := fun k hk => inb k (List.mem_filter.mp hk).1
  have ls : (secretL t m n few).length ≤ 100 := Nat.le_trans (List.length_filter_le _ _) hl
  have lastc : (m - 1, n - 1) ∉ (cellsOf m n).dropLast := fun z => (drop_mem m1 n1 z).2.2 rfl
  unfold hidF at q1
  generalize hS : secretL t m n few = ss at q1 q2 ins ls
  generalize hC : (cellsOf m n).dropLast = cs at q1 q2 hl inb lastc
  refine ⟨_, pss_cons (ps_expr (pe_f Orefuse_few_and_width rrefuse_few_and_width T.g_refuse_few_and_width (pa_cons (pv 1) (pa_cons (pv 2) pa_nil))))
      (pss_cons (ps_set (i := 3) sc_hidden_cells.nd rfl (Or.inl rfl) (pe_f Osecret_cells rsecret_cells T.g_secret_cells (pa_cons (pv 0) (pa_cons (pv 1) pa_nil))))
      (pss_cons (ps_set (i := 4) sc_hidden_cells.nd rfl (Or.inl rfl) (pe_f Oall_but_last rall_but_last T.g_all_but_last (pa_cons (pv 0) pa_nil)))
      (pss_cons (ps_set (i := 5) sc_hidden_cells.nd rfl (Or.inl rfl) (pe_f Ofirst_unsafe rfirst_unsafe T.g_first_unsafe (pa_cons (pv 0) (pa_cons (pv 4) (pa_cons (pv 3) (pa_cons (pv 2) pa_nil))))))
      (pss_cons (ps_if (pt_cmp (pc_notN (pv 5))) (pss_one (ps_err1 T.err T.m_Unsafe_init (ok_Unsafe T) (hr.mono (by decide)) T.g_Unsafe (takes_of rfl rfl rfl rfl) (pv 5))) pss_nil)
      (pss_cons (ps_for (passes_of rfl) (by rfl) (pi_list (pe_f Ogreatest_first rgreatest_first T.g_greatest_first (pa_cons (pv 0) (pa_cons (pv 4) pa_nil)))) (pg_name (i := 6) sc_hidden_cells.nd rfl (Or.inr rfl)) (pss_cons (by exact ps_setLc (i := 7) (own := [("other", 8)]) (g := gName 8) (tt := (tTest (tOp (rNeD K) (tVar 8) (tVar 6)))) (te := (tVar 8)) (by rfl) sc_hidden_cells.nd rfl rfl (by rfl) (pi_list (pv 4)) (blkOk_by (own := [("other", 8)]) (N := ["grid", "few", "width", "secret", "hidden", "unsafe", "cell", "fewer", "other"]) (sc := defScope s_hidden_cells) (by decide +kernel)) (fun _ _ _ _ _ => (pg_name (i := 8) sc_hidden_cells.nd rfl (Or.inl rfl))) (fun _ _ _ _ _ => (pts_one (pt_cmpR (op_neD hu64) (pv 8) (pv 6) (nomark _)))) (fun _ _ _ _ _ => (pv 8)))
      (pss_one (ps_if (pw_and (pt_cmpR (op_notInC hu65) (pv 6) (pv 3) (by rfl)) (pw_and1 (pt_cmp (pc_isN (pe_f Ofirst_unsafe rfirst_unsafe T.g_first_unsafe (pa_cons (pv 0) (pa_cons (pv 7) (pa_cons (pv 3) (pa_cons (pv 2) pa_nil))))))))).pt (pss_one (ps_set (i := 4) sc_hidden_cells.nd rfl (Or.inl rfl) (pv 7))) pss_nil))))
      (pss_one (ps_ret (pv 4)))))))), ?_⟩
  walk_at "go"
  refine ⟨few, width, rfl, f2, w1, ?_⟩
  walk_at "go"
  refine ⟨g, rs, t, m, n, few, rfl, ht, hR, m1, m60, n60, fun sl H1 us e1 sl0 hs hu => ?_⟩
  rw [hS] at hu
  walk_at "go"
  refine ⟨g, rs, t, m, n, rfl, ht.same e1, hR, m1, m60, n60, fun ph H2 wh e2 ph0 hh hw => ?_⟩
  rw [hC] at hw
  have e12 := e1.trans e2
  have hs2 := e2 _ _ hs
  have hu2 := L2.Paired.mapP hu fun _ _ z => CellAt.same e2 z
  walk_at "go"
  refine ⟨g, ph, sl, width, rs, t, m, n, wh, us, cs, ss, rfl, ht.same e12, gt, m30, n30, hh, hw, hl, inb, hs2, hu2, ins, fun H3 e3 => ⟨fun sf => ?_, fun c sf v hv => ?_⟩⟩
  case refine_2 =>
    obtain ⟨va, rfl, hva⟩ := id hv
    walk_at "go"
    rw [decide_eq_false ((fun z => nomatch z) : ¬ V.ref va = V.non)]
    walk_at "go"
    refine w_err1 ?_
    walk_at "go"
    exact gErr1_of fun d H4 e4 hd => q2 c sf d H4 _ ((e12.trans e3).trans e4) hd (hv.same e4)
  have e123 := e12.trans e3
  walk_at "go"
  rw [decide_eq_true (rfl : V.non = V.non)]
  walk_at "go"
  refine list_open ?_
  walk_at "go"
  refine ⟨g, ph, rs, t, m, n, wh, cs, rfl, ht.same e123, hR, e3 _ _ hh, L2.Paired.mapP hw fun _ _ z => CellAt.same e3 z, hl, inb, hT.ext e123, fun p H4 ws' hs' e4 t4 hp hw' pm srt => ?_⟩
  have hord : hs' = ordF t cs := ord_one pm srt
  have mem : ∀ k, k ∈ hs' ↔ k ∈ cs := fun k => pm.mem_iff
  rw [← hord] at q1
  refine ⟨p, rfl, ⟨_, SqL.of hp⟩, ?_⟩
  have ht4 := (ht.same e123).extn e4
  have hs4 := e4 _ _ (e3 _ _ hs2) fun ps z => by cases z
  have hu4 := L2.Paired.mapP hu2 fun _ _ z => CellAt.extn e4 (CellAt.same e3 z)
  have hh4 := e4 _ _ (e3 _ _ hh) fun ps z => by cases z
  have hw4 := L2.Paired.mapP hw fun _ _ z => CellAt.extn e4 (CellAt.same e3 z)
  have eN : ∀ {H'}, Same H4 H' → ExtN H H' := fun e => ((ExtN.of e123).trans e4).trans (ExtN.of e)
  have ap0 : Apart H ph := (Apart.none ph0).ext (ExtN.of e1)
  clear hh hw hs hu hs2 hu2 ht e1 e2 e3 e12 e123 e4 hT sl0 ph0
  refine for_list (xs := ws') (fun (i : Nat) σ H' => ∃ (pi : Addr) (wi : List V) (hi : List (Nat × Nat)) (o6 o7 o8 : Option V), σ = [some (.ref g), some (.int few), some (.int width), some (.ref sl), some (.ref pi), some .non, o6, o7, o8] ∧ Same H4 H' ∧ H' pi = some (.lst wi) ∧ Paired (CellAt H') wi hi ∧ (∀ k ∈ hi, k ∈ cs) ∧ hi.length ≤ 100 ∧ Apart H pi ∧ (hs'.take i).foldl (stepF t m n ss width) cs = hi)
    ⟨ph, wh, cs, none, none, none, rfl, Same.refl _, hh4, hw4, fun _ h => h, hl, ap0, rfl⟩ (fun i σ H' _ ⟨_, _, _, _, _, _, _, e, _⟩ => SqL.of (e _ _ hp)) ?_ ?_
  · rintro i v σ H5 hx ⟨pi, wi, hi, o6, o7, o8, rfl, e5, hpi, hwi, sub, lhi, api, fold⟩
    obtain ⟨c, hc, hv⟩ := K3.Paired.get hw' hx
    have hcm : c ∈ cs := (mem c).mp (List.mem_of_getElem? hc)
    obtain ⟨c1, c2⟩ := inb c hcm
    have hv5 := hv.same e5
    have lo : (othersF hi c).length ≤ 100 := Nat.le_trans (List.length_filter_le _ _) lhi
    have subo : ∀ k ∈ othersF hi c, k ∈ cs := fun k hk => sub k (others_mem.mp hk).1
    have nxt : (hs'.take (i + 1)).foldl (stepF t m n ss width) cs = stepF t m n ss width hi c := by
      rw [List.take_add_one, hc, List.foldl_append, fold]
      rfl
    walk_at "go"
    refine lcAt_open (list_open ?_)
    walk_at "go"
    refine ⟨pi, rfl, ⟨_, SqL.of hpi⟩, fun D hD => ?_⟩
    refine items_gen (F := CellAt) (G := CellAt) (fun e h => CellAt.same e h) (fun e h => CellAt.tk e h) (fun k => !decide (k = c)) (fun c => c) (SqL.of hpi) hwi hD (by rw [hwi.length]; omega) ?_ ?_
    · intro v' c' H6 e6 hc' hv' R' r1 r2
      walk_at "go"
      refine ⟨rfl, ?_⟩
      walk_at "go"
      refine ⟨cellD c', cellD c, cell_dp hv', cell_dp (hv5.same e6), cell_shaped _, cell_shaped _, ?_⟩
      rw [cell_eqv]
      by_cases z : c' = c
      · rw [decide_eq_true z]
        walk_at "go"
        exact r1 _ (Same.refl _) (by rw [decide_eq_true z]; rfl)
      · rw [decide_eq_false z]
        walk_at "go"
        exact r2 _ _ (Same.refl _) (by rw [decide_eq_false z]; rfl) hv'
    intro H6 zs e6 hD6 hz
    rw [List.map_id'] at hz
    have hz : Paired (CellAt H6) zs (othersF hi c) := hz
    have e56 := e5.trans e6
    walk_at "go"
    refine ⟨sl, us, ss, c, hv5.same e6, rfl, .inl (SqL.of (e56 _ _ hs4)), L2.Paired.mapP hu4 fun _ _ z => z.same e56, by omega, fun k hk => by have := ins k hk; omega, ⟨by omega, by omega⟩, ?_⟩
    by_cases z1 : c ∈ ss
    · rw [decide_eq_true z1]
      walk_at "go"
      exact ⟨pi, wi, hi, _, _, _, rfl, e56, e6 _ _ hpi, L2.Paired.mapP hwi fun _ _ z => CellAt.same e6 z, sub, lhi, api, by rw [nxt]; unfold stepF; rw [if_neg fun z => z.1 z1]⟩
    · rw [decide_eq_false z1]
      walk_at "go"
      refine ⟨g, D, sl, width, rs, t, m, n, zs, us, othersF hi c, ss, rfl, ht4.same e56, gt, m30, n30, hD6, hz, lo, fun k hk => inb k (subo k hk), e56 _ _ hs4, L2.Paired.mapP hu4 fun _ _ z => z.same e56, ins, fun H7 e7 => ⟨fun sf2 => ?_, fun k2 sf2 v2 hv2 => ?_⟩⟩
      · walk_at "go"
        rw [decide_eq_true (rfl : V.non = V.non)]
        walk_at "go"
        exact ⟨D, zs, othersF hi c, _, _, _, rfl, e56.trans e7, e7 _ _ hD6, L2.Paired.mapP hz fun _ _ z => CellAt.same e7 z, subo, lo, (Apart.none hD).ext (eN e5), by rw [nxt]; unfold stepF; rw [if_pos ⟨z1, sf2⟩]⟩
      · obtain ⟨va, rfl, hva⟩ := hv2
        walk_at "go"
        rw [decide_eq_false ((fun z => nomatch z) : ¬ V.ref va = V.non)]
        walk_at "go"
        exact ⟨pi, wi, hi, _, _, _, rfl, e56.trans e7, e7 _ _ (e6 _ _ hpi), L2.Paired.mapP hwi fun _ _ z => CellAt.same e7 (CellAt.same e6 z), sub, lhi, api, by rw [nxt]; unfold stepF; rw [if_neg fun z => by rw [sf2] at z; cases z.2]⟩
  · rintro σ H5 ⟨pi, wi, hi, o6, o7, o8, rfl, e5, hpi, hwi, sub, lhi, api, fold⟩
    have lw : hs'.length = ws'.length := hw'.length.symm
    rw [← lw, List.take_length] at fold
    subst fold
    walk_at "go"
    exact q1 sf pi H5 wi (eN e5) (t4.ext e5) api hpi hwi
theorem sc_is_safe : FnScope ["grid", "hidden", "few", "width", "cells"] ["grid", "hidden", "few", "width"] (defScope s_is_safe) := ⟨rfl, rfl, rfl, by decide +kernel, rfl, by decide +kernel, by decide +kernel⟩
theorem ok_is_safe (T : Tx K mg) : OkK P w K mg base 10 (He.ga K "is_safe") ["grid", "hidden", "few", "width"] 2 ["few", "width"] (spSafe K) := by
  obtain ⟨fd, F⟩ := T.f_is_safe
  have Orefuse_few_and_width := ok_refuse_few_and_width (P := P) (w := w) (base := base) T
  have Osecret_cells := ok_secret_cells (P := P) (w := w) (base := base) T
  have Oread_hidden := ok_read_hidden (P := P) (w := w) (base := base) T
  have Ofirst_unsafe := ok_first_unsafe (P := P) (w := w) (base := base) T
  refine ⟨fd, F.ok (k := 9) sc_is_safe (fun vs H Q E h => ?_) (fun cdv A outer s_ H vs Q E hr h => ?_), kb_of F fun _ _ _ _ _ _ us ws h1 h2 => match us, ws, h1, h2 with | [_, _], [_, _], _, _ => rfl, F.kp⟩
  · obtain ⟨g, hv, few, width, rs, t, m, n, hs, rfl, _⟩ := h
    rfl
  obtain ⟨g, hv, few, width, rs, t, m, n, hs, rfl, ht, gt, m10, n10, f2, w1, hh, q⟩ := h
  have rrefuse_few_and_width : Room 1 _ := hr.mono (by decide)
  have rsecret_cells : Room 3 _ := hr.mono (by decide)
  have rread_hidden : Room 2 _ := hr.mono (by decide)
  have rfirst_unsafe : Room 9 _ := hr
  have hR := gt.rect
  have m1 := gt.m1
  have n1 := gt.n1
  have m60 : m ≤ 60 := by omega
  have n60 : n ≤ 60 := by omega
  refine ⟨_, pss_cons (ps_expr (pe_f Orefuse_few_and_width rrefuse_few_and_width T.g_refuse_few_and_width (pa_cons (pv 2) (pa_cons (pv 3) pa_nil))))
      (pss_cons (ps_set (i := 4) sc_is_safe.nd rfl (Or.inl rfl) (pe_f Oread_hidden rread_hidden T.g_read_hidden (pa_cons (pv 0) (pa_cons (pv 1) pa_nil))))
      (pss_one (ps_ret (pe_cmpR op_isN (pe_f Ofirst_unsafe rfirst_unsafe T.g_first_unsafe (pa_cons (pv 0) (pa_cons (pv 4) (pa_cons (pe_f Osecret_cells rsecret_cells T.g_secret_cells (pa_cons (pv 0) (pa_cons (pv 2) pa_nil))) (pa_cons (pv 3) pa_nil))))) pe_non rfl)))), ?_⟩
  walk_at "go"
  refine ⟨few, width, rfl, f2, w1, ?_⟩
  walk_at "go"
  obtain ⟨hp, hws, hpe, hsq, hcells, hmem, hlen⟩ := id hh
  refine ⟨g, hv, rs, t, m, n, hs, rfl, ht, hR, m1, n1, m60, n60, hh, fun l H1 ws cs e1 h1 hw1 hcs lcs srt => ?_⟩
  walk_at "go"
  refine ⟨g, rs, t, m, n, few, rfl, ht.same e1, hR, m1, m60, n60, fun sl H2 us e2 sl0 hs2 hu2 => ?_⟩
  have e12 := e1.trans e2
  walk_at "go"
  have inb : ∀ k ∈ cs, k.1 < m ∧ k.2 < n := fun k hk => cells_mem.mp (List.dropLast_subset _ (hmem k ((hcs k).mp hk)))
  refine ⟨g, l, sl, width, rs, t, m, n, ws, us, cs, secretL t m n few, rfl, ht.same e12, gt, by omega, by omega, e2 _ _ h1, L2.Paired.mapP hw1 fun _ _ z => CellAt.same e2 z, by omega, inb, hs2, hu2, fun k hk => cells_mem.mp (List.dropLast_subset _ (List.mem_filter.mp hk).1), fun H3 e3 => ⟨fun sf => ?_, fun c sf v hv => ?_⟩⟩
  · walk_at "go"
    refine ⟨rfl, ?_⟩
    have := q H3 (e12.trans e3)
    rw [← first_same gt hmem (by omega) (by omega) hcs, decide_eq_true sf] at this
    rw [decide_eq_true (rfl : V.non = V.non)]
    exact this
  · obtain ⟨va, rfl, hva⟩ := id hv
    walk_at "go"
    refine ⟨rfl, ?_⟩
    have := q H3 (e12.trans e3)
    rw [← first_same gt hmem (by omega) (by omega) hcs, decide_eq_false (fun z => by rw [sf] at z; cases z)] at this
    rw [decide_eq_false ((fun z => nomatch z) : ¬ V.ref va = V.non)]
    exact this
end
end K3
end G4_part
section L2_part
set_option Elab.async false
set_option linter.all false
set_option maxRecDepth 100000
set_option maxHeartbeats 1000000
set_option pp.deepTerms.threshold 5
open PySem PySem.Spec PyProof.Rows L2
/-- go on as far as nothing is open -/
local macro_rules | `(tactic| walk_at "go") => `(tactic| repeat (first
  | with_reducible refine w_seq ?_ | with_reducible refine w_next ?_ | with_reducible refine w_set ?_ | with_reducible refine w_drop ?_ | with_reducible refine w_ret ?_ | with_reducible refine w_retN ?_
  | with_reducible refine w_if ?_ | ((with_reducible refine' w_var ?hv ?_); (case hv => exact rfl)) | with_reducible refine w_c ?_ | with_reducible refine w_nil ?_ | with_reducible refine w_cons ?_ | with_reducible refine w_op ?_ | with_reducible refine w_un ?_
  | with_reducible refine w_test ?_ | with_reducible refine w_tB ?_ | with_reducible refine w_not ?_ | with_reducible refine w_and ?_ | with_reducible refine w_or ?_ | with_reducible refine w_bl ?_
  | with_reducible refine w_andV ?_ | with_reducible refine w_orV ?_ | with_reducible refine w_notV ?_ | with_reducible refine w_ifE ?_ | with_reducible refine w_chain ?_ | with_reducible refine w_i0 ?_
  | with_reducible refine w_call ?_ | with_reducible refine w_callS ?_ | with_reducible refine w_cB ?_ | with_reducible refine w_tup ?_ | with_reducible refine w_lst ?_ | with_reducible refine w_fldV ?_
  | with_reducible refine w_neF ?_ | with_reducible refine w_neT ?_ | with_reducible refine w_notN ?_ | with_reducible refine w_isN ?_ | with_reducible refine w_gname ?_ | with_reducible refine w_gsub ?_ | with_reducible refine w_asg ?_ | with_reducible refine w_sl ?_ | with_reducible refine w_noP ?_ | with_reducible refine w_int1 ?_ | with_reducible refine w_part ?_ | with_reducible refine w_yes ?_ | with_reducible refine w_nT ?_ | with_reducible refine w_nF ?_ | with_reducible refine w_iteT ?_ | with_reducible refine w_iteF ?_))
namespace K3
/-- the state that digits are taken from: the given number's rest, then two that are mixed -/
def Sd (H : Hp) (s : Addr) : Prop := ∃ a b c : Int, H s = some (.lst [.int a, .int b, .int c]) ∧ 0 ≤ b ∧ b < 4294967296 ∧ 0 ≤ c ∧ c < 4294967296
theorem Sd.same {H H' : Hp} {s : Addr} (h : Sd H s) (e : Same H H') : Sd H' s := let ⟨a, b, c, q, r⟩ := h; ⟨a, b, c, e _ _ q, r⟩
theorem Sd.src {H : Hp} {s : Addr} (h : Sd H s) : Src H s := let ⟨a, b, c, q, _⟩ := h; ⟨a, b, c, q⟩
theorem Sd.upd {H : Hp} {s p : Addr} (hs : Sd H s) (ne : p ≠ s) (o : HO) : Sd (L2.upd H p o) s := let ⟨a, b, c, h, r⟩ := hs; ⟨a, b, c, by rw [upd_ne ne.symm]; exact h, r⟩
theorem Sd.bm {H H' : Hp} {s : Addr} {M : List Addr} (h : Sd H s) (e : BM M H H') (k : s ∉ M) : Sd H' s := let ⟨a, b, c, q, r⟩ := h; ⟨a, b, c, e.at q k, r⟩
def spState (K : PySem.W.Frag) : Sp := fun vs H Q _ => ∃ c : Int, vs = [.int c] ∧ ∀ p H', H p = none → Same H H' → Sd H' p → Q (.ref p) H'
def spDigit (K : PySem.W.Frag) : Sp := fun vs H Q _ => ∃ (s : Addr) (m : Int), vs = [.ref s, .int m] ∧ Sd H s ∧ 0 < m ∧ m < 2 ^ 62 ∧ ∀ (r : Nat) H', (r : Int) < m → BM [s] H H' → Sd H' s → Q (.int (r : Int)) H'
theorem mul01 (x : Int) (z : Bool) : CMul x (if z = true then 1 else 0) := .inr (by cases z <;> decide)
section
variable {P : Program} {w : World} {K : PySem.W.Frag} {mg : Str → Option Value} {base : Heap}
theorem sc_state : FnScope ["_law_place"] ["_law_place"] (defScope s__law_state) := ⟨rfl, rfl, rfl, by decide +kernel, rfl, by decide +kernel, by decide +kernel⟩
theorem ok_state (T : Tx K mg) : Ok P w K mg base 1 (He.ga K "_law_state") ["_law_place"] (spState K) := by
  obtain ⟨fd, F⟩ := T.f__law_state
  refine ⟨fd, F.ok (k := 0) sc_state (fun vs H Q E h => ?_) (fun cdv A outer s_ H vs Q E hr h => ?_), F.bindsN fun _ _ _ _ _ _ us hl => match us, hl with | [_], _ => rfl, F.kp⟩
  · obtain ⟨c, rfl, q⟩ := h
    rfl
  obtain ⟨c, rfl, q⟩ := h
  have hu65 := K3.Room.units65 hr
  have hu64 := Nat.lt_of_succ_lt hu65
  have hu0 := Nat.lt_of_le_of_lt (Nat.le_add_right _ 65) hu65
  have hu1 := Nat.lt_of_le_of_lt (Nat.add_le_add_left (show 1 ≤ 65 by decide) _) hu65
  refine ⟨_, pss_cons (ps_set (i := 0) sc_state.nd rfl (Or.inl rfl) (pe_callB call_abs (by rfl) T.z_abs (by decide +kernel) (pa_cons (pv 0) pa_nil)))
      (pss_one (ps_ret (pe_lst (pa_cons (pe_op op_mul (pv 0) (pe_callTy call_int1 (by rfl) T.z_int (by decide +kernel) (pa_cons (pe_cmpR op_ge (pv 0) (pe_op op_pow pe_int pe_int) rfl) pa_nil))) (pa_cons (pe_op op_add (pe_op op_mod (pv 0) pe_int) pe_int) (pa_cons (pe_op op_mod (pv 0) pe_int) pa_nil)))))), ?_⟩
  walk_at "go"
  refine ⟨c, rfl, ?_⟩
  walk_at "go"
  refine w_i (by refine ⟨?_, ?_, ?_⟩ <;> decide) ?_
  walk_at "go"
  (refine .inr ⟨_, rfl, ?_⟩; walk_at "go")
  refine w_i (mul01 _ _) ?_
  walk_at "go"
  refine w_i (by decide) ?_
  walk_at "go"
  refine w_i (by decide) ?_
  walk_at "go"
  exact ⟨(by show 3 ≤ sizeLine; decide), fun p hp => q p _ hp (Same.new hp _) ⟨_, _, _, upd_same, by omega, by omega, by omega, by omega⟩⟩
theorem sc_digit : FnScope ["_law_state_here", "_law_base", "_law_found_here", "_law_more"] ["_law_state_here", "_law_base"] (defScope s__law_digit) := ⟨rfl, rfl, rfl, by decide +kernel, rfl, by decide +kernel, by decide +kernel⟩
theorem ok_digit (T : Tx K mg) : Ok P w K mg base 1 (He.ga K "_law_digit") ["_law_state_here", "_law_base"] (spDigit K) := by
  obtain ⟨fd, F⟩ := T.f__law_digit
  refine ⟨fd, F.ok (k := 0) sc_digit (fun vs H Q E h => ?_) (fun cdv A outer s_ H vs Q E hr h => ?_), F.bindsN fun _ _ _ _ _ _ us hl => match us, hl with | [_, _], _ => rfl, F.kp⟩
  · obtain ⟨s, m, rfl, ⟨a, b, c, hs, b0, b1, c0, c1⟩, m0, m1, q⟩ := h
    rfl
  obtain ⟨s, m, rfl, ⟨a, b, c, hs, b0, b1, c0, c1⟩, m0, m1, q⟩ := h
  have hu65 := K3.Room.units65 hr
  have hu64 := Nat.lt_of_succ_lt hu65
  have hu0 := Nat.lt_of_le_of_lt (Nat.le_add_right _ 65) hu65
  have hu1 := Nat.lt_of_le_of_lt (Nat.add_le_add_left (show 1 ≤ 65 by decide) _) hu65
  refine ⟨_, pss_cons (ps_if (pt_cmpR op_gt (pe_ix ix_list (pv 0) pe_int (fun _ _ => rfl)) pe_int (nomark _)) (pss_cons (ps_set (i := 2) sc_digit.nd rfl (Or.inl rfl) (pe_op op_mod (pe_ix ix_list (pv 0) pe_int (fun _ _ => rfl)) (pv 1)))
      (pss_cons (ps_asg (pe_op op_fdivW (pe_ix ix_list (pv 0) pe_int (fun _ _ => rfl)) (pv 1)) (pg_sub (pv 0) pe_int set_list))
      (pss_one (ps_ret (pv 2))))) pss_nil)
      (pss_cons (ps_set (i := 3) sc_digit.nd rfl (Or.inl rfl) (pe_op op_mul (pe_ix ix_list (pv 0) pe_int (fun _ _ => rfl)) (pe_op op_add (pe_op op_fdiv (pe_ix ix_list (pv 0) pe_int (fun _ _ => rfl)) pe_int) pe_int)))
      (pss_cons (ps_asg (pe_op op_add (pe_op op_mod (pe_op op_add (pv 3) (pe_ix ix_list (pv 0) pe_int (fun _ _ => rfl))) pe_int) pe_int) (pg_sub (pv 0) pe_int set_list))
      (pss_one (ps_ret (pe_op op_mod (pe_op op_fdiv (pe_ix ix_list (pv 0) pe_int (fun _ _ => rfl)) pe_int) (pv 1)))))), ?_⟩
  have dv : CDivW a m := wide_div (b := 64) m0 (by omega) (by decide) (by decide)
  have qq : ∀ {r : Int} {H' : Hp}, 0 ≤ r → r < m → BM [s] H H' → Sd H' s → Q (.int r) H' := fun {r H'} r0 r1 hb hs => by
    obtain ⟨n, rfl⟩ : ∃ n : Nat, r = (n : Int) := ⟨r.toNat, by omega⟩
    exact q n H' r1 hb hs
  walk_at "go"
  refine w_ixL hs rfl ?_
  walk_at "go"
  by_cases a0 : (0 : Int) < a
  · rw [show decide (a > 0) = true from decide_eq_true a0]
    walk_at "go"
    refine w_ixL hs rfl ?_
    walk_at "go"
    refine w_i m0 ?_
    walk_at "go"
    refine w_ixL hs rfl ?_
    walk_at "go"
    refine w_i dv ?_
    walk_at "go"
    refine w_setL hs rfl ?_
    walk_at "go"
    exact qq (Int.emod_nonneg _ (by omega)) (Int.emod_lt_of_pos _ m0) (BM.upd (List.mem_singleton.mpr rfl) _) ⟨_, _, _, upd_same, b0, b1, c0, c1⟩
  · rw [show decide (a > 0) = false from decide_eq_false a0]
    walk_at "go"
    refine w_ixL hs rfl ?_
    walk_at "go"
    refine w_ixL hs rfl ?_
    walk_at "go"
    refine w_i (by refine ⟨?_, ?_⟩ <;> decide) ?_
    walk_at "go"
    refine w_i (.inl ⟨by omega, by omega⟩) ?_
    walk_at "go"
    refine w_ixL hs rfl ?_
    walk_at "go"
    refine w_i (by decide) ?_
    walk_at "go"
    refine w_setL hs rfl ?_
    walk_at "go"
    refine w_ixL upd_same rfl ?_
    walk_at "go"
    refine w_i (by refine ⟨?_, ?_⟩ <;> decide) ?_
    walk_at "go"
    refine w_i m0 ?_
    exact qq (Int.emod_nonneg _ (by omega)) (Int.emod_lt_of_pos _ m0) (BM.upd (List.mem_singleton.mpr rfl) _) ⟨_, _, _, upd_same, by omega, by omega, c0, c1⟩
end
end K3
end L2_part
section L3_part
set_option Elab.async false
set_option linter.all false
set_option maxRecDepth 100000
set_option maxHeartbeats 1000000
set_option pp.deepTerms.threshold 5
open PySem PySem.Spec PyProof.Rows L2
/-- go on as far as nothing is open -/
local macro_rules | `(tactic| walk_at "go") => `(tactic| repeat (first
  | with_reducible refine w_seq ?_ | with_reducible refine w_next ?_ | with_reducible refine w_set ?_ | with_reducible refine w_drop ?_ | with_reducible refine w_ret ?_ | with_reducible refine w_retN ?_
  | with_reducible refine w_if ?_ | ((with_reducible refine' w_var ?hv ?_); (case hv => exact rfl)) | with_reducible refine w_c ?_ | with_reducible refine w_nil ?_ | with_reducible refine w_cons ?_ | with_reducible refine w_op ?_ | with_reducible refine w_un ?_
  | with_reducible refine w_test ?_ | with_reducible refine w_tB ?_ | with_reducible refine w_not ?_ | with_reducible refine w_and ?_ | with_reducible refine w_or ?_ | with_reducible refine w_bl ?_
  | with_reducible refine w_andV ?_ | with_reducible refine w_orV ?_ | with_reducible refine w_notV ?_ | with_reducible refine w_ifE ?_ | with_reducible refine w_chain ?_ | with_reducible refine w_i0 ?_
  | with_reducible refine w_call ?_ | with_reducible refine w_callS ?_ | with_reducible refine w_cB ?_ | with_reducible refine w_tup ?_ | with_reducible refine w_lst ?_ | with_reducible refine w_fldV ?_
  | with_reducible refine w_neF ?_ | with_reducible refine w_neT ?_ | with_reducible refine w_notN ?_ | with_reducible refine w_isN ?_ | with_reducible refine w_gname ?_ | with_reducible refine w_gsub ?_ | with_reducible refine w_asg ?_ | with_reducible refine w_sl ?_ | with_reducible refine w_noP ?_ | with_reducible refine w_int1 ?_ | with_reducible refine w_part ?_ | with_reducible refine w_yes ?_ | with_reducible refine w_nT ?_ | with_reducible refine w_nF ?_ | with_reducible refine w_iteT ?_ | with_reducible refine w_iteF ?_))
namespace K3
def spSummed (K : PySem.W.Frag) : Sp := fun vs H Q _ => ∃ (p : Addr) (rs : List Addr) (t : List (List Int)) (k : Nat), vs = [.ref p] ∧ Tab H p rs t ∧ (∀ r ∈ t, r.length = k) ∧ t ≠ [] ∧ t.length ≤ 100 ∧ k ≤ 100 ∧ ∀ p' H' rs', Same H H' → New H p' rs' → Tab H' p' rs' (withSums k t) → Q (.ref p') H'
section
variable {P : Program} {w : World} {K : PySem.W.Frag} {mg : Str → Option Value} {base : Heap}
theorem sc_summed : FnScope ["_law_inner", "_law_rows", "_law_row", "_law_k"] ["_law_inner"] (defScope s__law_summed) := ⟨rfl, rfl, rfl, by decide +kernel, rfl, by decide +kernel, by decide +kernel⟩
theorem ok_summed (T : Tx K mg) : Ok P w K mg base 1 (He.ga K "_law_summed") ["_law_inner"] (spSummed K) := by
  obtain ⟨fd, F⟩ := T.f__law_summed
  refine ⟨fd, F.ok (k := 0) sc_summed (fun vs H Q E h => ?_) (fun cdv A outer s_ H vs Q E hr h => ?_), F.bindsN fun _ _ _ _ _ _ us hl => match us, hl with | [_], _ => rfl, F.kp⟩
  · obtain ⟨p, rs, t, k, rfl, ht, hk, h0, hn, hk1, q⟩ := h
    rfl
  obtain ⟨p, rs, t, k, rfl, ht, hk, h0, hn, hk1, q⟩ := h
  have hu65 := K3.Room.units65 hr
  have hu64 := Nat.lt_of_succ_lt hu65
  have hu0 := Nat.lt_of_le_of_lt (Nat.le_add_right _ 65) hu65
  have hu1 := Nat.lt_of_le_of_lt (Nat.add_le_add_left (show 1 ≤ 65 by decide) _) hu65
  refine ⟨_, pss_cons (ps_set (i := 1) sc_summed.nd rfl (Or.inr rfl) (by exact pe_lc (own := [("_law_row", 2)]) (g := gName 2) (tt := tYes) (te := (tOp rCat (tCB (fun xs H Q => ∃ p ys, xs = [V.ref p] ∧ (SqL K H p ys ∨ SqT K H p ys) ∧ ∀ l, H l = none → Q (.ref l) (upd H l (.lst ys))) (tCons (tVar 2) tNil)) (tLst (tCons (tCB (rSum K) (tCons (tVar 2) tNil)) tNil)))) (by rfl) sc_summed.nd (pi_list (pv 0)) (blkOk_by (own := [("_law_row", 2)]) (N := ["_law_inner", "_law_rows", "_law_row", "_law_k"]) (sc := defScope s__law_summed) (by decide +kernel)) (fun _ _ _ _ _ => (pg_name (i := 2) sc_summed.nd rfl (Or.inl rfl))) (fun _ _ _ _ _ => pts_nil) (fun _ _ _ _ _ => (pe_op op_cat (pe_callTy call_list_of (by rfl) T.z_list (by decide +kernel) (pa_cons (pv 2) pa_nil)) (pe_lst (pa_cons (pe_callB (cr_sum (by rfl)) (by rfl) T.z_sum (by decide +kernel) (pa_cons (pv 2) pa_nil)) pa_nil))))))
      (pss_one (ps_ret (pe_op op_cat (pv 1) (pe_lst (pa_cons (by exact pe_lc (own := [("_law_k", 3)]) (g := gName 3) (tt := tYes) (te := (tCB (rSum K) (tCons (tLc (iList K (tVar 1)) (gName 2) tYes (tOp (rIxL K) (tVar 2) (tVar 3)) [2]) tNil))) (by rfl) sc_summed.nd (pi_range1 rfl T.z_range (pa_cons (pe_callB call_len_seq (by rfl) T.z_len PySem.boot_len (pa_cons (pe_ix ix_list (pv 1) pe_int (fun _ _ => rfl)) pa_nil)) pa_nil)) (blkOk_by (own := [("_law_k", 3)]) (N := ["_law_inner", "_law_rows", "_law_row", "_law_k"]) (sc := defScope s__law_summed) (by decide +kernel)) (fun _ _ _ _ _ => (pg_name (i := 3) sc_summed.nd rfl (Or.inr rfl))) (fun _ _ _ _ _ => pts_nil) (fun _ _ _ _ _ => (pe_callB (cr_sum (by rfl)) (by rfl) T.z_sum (by decide +kernel) (pa_cons (by exact pe_lc (own := [("_law_row", 2)]) (g := gName 2) (tt := tYes) (te := (tOp (rIxL K) (tVar 2) (tVar 3))) (by rfl) sc_summed.nd (pi_list (pv 1)) (blkOk_by (own := [("_law_row", 2)]) (N := ["_law_inner", "_law_rows", "_law_row", "_law_k"]) (sc := { kind := .function, names := [(".0", .local), ("_law_k", .cell), ("sum", .globalImplicit), ("_law_rows", .cell)], isGenerator := false, isCoroutine := false }) (by decide +kernel)) (fun _ _ _ _ _ => (pg_name (i := 2) sc_summed.nd rfl (Or.inl rfl))) (fun _ _ _ _ _ => pts_nil) (fun _ _ _ _ _ => (pe_ix ix_list (pv 2) (pv 3) (fun _ _ => rfl)))) pa_nil)))) pa_nil))))), ?_⟩
  have lr := ht.rows.length
  walk_at "go"
  refine lcAt_open (list_open ?_)
  walk_at "go"
  refine ⟨p, rfl, ⟨_, SqL.of ht.at_⟩, fun D hD => ?_⟩
  refine rows_new addSum ht (by omega) hD (fun x => rfl) ?_ ?_
  · intro b r H1 e1 hr hb Q' q'
    walk_at "go"
    refine ⟨b, _, rfl, .inl (SqL.of hb), fun l1 hl1 => ?_⟩
    have e2 := Same.new hl1 (.lst (r.map V.int))
    walk_at "go"
    refine ⟨b, r, rfl, SqL.of (e2 _ _ hb), ?_⟩
    walk_at "go"
    refine ⟨(by show 1 ≤ sizeLine; decide), fun l2 hl2 => ?_⟩
    have e3 := Same.new hl2 (.lst [V.int r.sum])
    have hlen := hk r hr
    refine ⟨l1, l2, _, _, rfl, rfl, e3 _ _ upd_same, upd_same, Nat.le_trans (show (r.map V.int).length + 1 ≤ 200 by rw [List.length_map]; omega) (by decide), fun l3 hl3 => ?_⟩
    have e4 := Same.new hl3 (.lst (r.map V.int ++ [V.int r.sum]))
    refine q' l3 _ ((e2.trans e3).free hl3) (e2.trans (e3.trans e4)) ?_
    unfold RowAt addSum
    rw [List.map_append]
    exact upd_same
  · intro H1 cs e1 t1 nd fr
    have h1len : (t.map addSum).length = t.length := List.length_map _
    generalize hu : t.map addSum = u at t1 h1len
    have uk : ∀ r ∈ u, r.length = k + 1 := fun r hr => by
      rw [← hu] at hr
      obtain ⟨r', hr', rfl⟩ := List.mem_map.mp hr
      unfold addSum
      rw [List.length_append, hk r' hr']
      rfl
    obtain ⟨a0, u0, ha0, hu0, hx0⟩ := row_of t1 (i := 0) (by have := List.length_pos_iff.mpr h0; omega)
    have hl0 := uk u0 (List.mem_of_getElem? hu0)
    walk_at "go"
    refine lcAt_open (rng_open ?_)
    walk_at "go"
    refine w_ixL t1.at_ (ref_at ha0) ?_
    walk_at "go"
    refine ⟨a0, _, rfl, .inl (SqL.of hx0), ?_⟩
    rw [List.length_map, hl0]
    refine ⟨_, rfl, by omega, by omega, fun D2 hD2 => ?_⟩
    rw [Int.toNat_natCast]
    refine lc_range (lo := 0) (n := k + 1) (fun (c : Nat) H' => Same H1 H' ∧ H' D2 = some (.lst (((List.range c).map fun c => (colOf u c).sum).map V.int))) ⟨Same.new hD2 _, upd_same⟩ ?_ ?_
    · rintro c H2 hc ⟨e2, hD22⟩
      walk_at "go"
      refine ⟨rfl, ?_⟩
      walk_at "go"
      refine lcAt_open (list_open ?_)
      walk_at "go"
      refine ⟨D, rfl, ⟨_, SqL.of (e2 _ _ t1.at_)⟩, fun D3 hD3 => ?_⟩
      refine rows_at (fun r => .int (r.getD c 0)) (t1.same e2) (by omega) hD3 (fun x => rfl) ?_ ?_
      · intro b r H3 e3 hr hb Q' q'
        walk_at "go"
        rw [show (0 : Int) + (c : Int) = (c : Int) by omega]
        exact w_ixL hb (at_getD (by rw [uk r hr]; exact hc)) (q' _ (Same.refl _))
      · intro H3 e3 h3
        walk_at "go"
        refine ⟨D3, colOf u c, rfl, SqL.of (by rw [h3]; unfold colOf; rw [List.map_map]; rfl), ?_⟩
        refine ⟨_, e3 _ _ hD22, Nat.lt_of_le_of_lt (show (((List.range c).map fun c => (colOf u c).sum).map V.int).length ≤ 1000 by rw [List.length_map, List.length_map, List.length_range]; omega) (by decide), (e2.trans e3).mut hD2, ?_⟩
        rw [upd_same, List.range_succ, List.map_append, List.map_append]
        rfl
    · rintro H2 ⟨e2, hD22⟩
      walk_at "go"
      refine ⟨(by show 1 ≤ sizeLine; decide), fun D4 hD4 => ?_⟩
      have e4 := Same.new hD4 (.lst [V.ref D2])
      refine ⟨D, D4, _, _, rfl, rfl, e4 _ _ (e2 _ _ t1.at_), upd_same, Nat.le_trans (show (cs.map V.ref).length + 1 ≤ 200 by rw [List.length_map, t1.rows.length]; omega) (by decide), fun D5 hD5 => ?_⟩
      have e5 := Same.new hD5 (.lst (cs.map V.ref ++ [V.ref D2]))
      have e25 := e2.trans (e4.trans e5)
      walk_at "go"
      have D20 : H D2 = none := e1.free hD2
      refine q D5 _ (cs ++ [D2]) (e1.trans e25) ⟨e1.free (e2.free (e4.free hD5)), fun r hr => ?_, nodup_snoc nd fun z => ?_, fun z => ?_⟩ ⟨?_, ?_⟩
      · rcases List.mem_append.mp hr with hr | hr
        · exact (fr r hr).1
        · rw [List.mem_singleton.mp hr]; exact D20
      · obtain ⟨row, hrow⟩ := paired_has t1.rows z
        have hrow : H1 D2 = some _ := hrow
        rw [hD2] at hrow
        cases hrow
      · have hD50 := e4.free hD5
        rcases List.mem_append.mp z with z | z
        · obtain ⟨row, hrow⟩ := paired_has t1.rows z
          have hrow := e2 _ _ hrow
          rw [hD50] at hrow
          cases hrow
        · rw [List.mem_singleton.mp z, hD22] at hD50
          cases hD50
      · rw [List.map_append]
        exact upd_same
      · unfold withSums
        rw [hu]
        exact K3.Paired.app (L2.Paired.mapP t1.rows fun _ _ z => e25 _ _ z) (.cons ((e4.trans e5) _ _ hD22) .nil)
end
end K3
end L3_part
section L4_part
set_option Elab.async false
set_option linter.all false
set_option maxRecDepth 100000
set_option maxHeartbeats 1000000
set_option pp.deepTerms.threshold 5
open PySem PySem.Spec PyProof.Rows L2
/-- go on as far as nothing is open -/
local macro_rules | `(tactic| walk_at "go") => `(tactic| repeat (first
  | with_reducible refine w_seq ?_ | with_reducible refine w_next ?_ | with_reducible refine w_set ?_ | with_reducible refine w_drop ?_ | with_reducible refine w_ret ?_ | with_reducible refine w_retN ?_
  | with_reducible refine w_if ?_ | ((with_reducible refine' w_var ?hv ?_); (case hv => exact rfl)) | with_reducible refine w_c ?_ | with_reducible refine w_nil ?_ | with_reducible refine w_cons ?_ | with_reducible refine w_op ?_ | with_reducible refine w_un ?_
  | with_reducible refine w_test ?_ | with_reducible refine w_tB ?_ | with_reducible refine w_not ?_ | with_reducible refine w_and ?_ | with_reducible refine w_or ?_ | with_reducible refine w_bl ?_
  | with_reducible refine w_andV ?_ | with_reducible refine w_orV ?_ | with_reducible refine w_notV ?_ | with_reducible refine w_ifE ?_ | with_reducible refine w_chain ?_ | with_reducible refine w_i0 ?_
  | with_reducible refine w_call ?_ | with_reducible refine w_callS ?_ | with_reducible refine w_cB ?_ | with_reducible refine w_tup ?_ | with_reducible refine w_lst ?_ | with_reducible refine w_fldV ?_
  | with_reducible refine w_neF ?_ | with_reducible refine w_neT ?_ | with_reducible refine w_notN ?_ | with_reducible refine w_isN ?_ | with_reducible refine w_gname ?_ | with_reducible refine w_gsub ?_ | with_reducible refine w_asg ?_ | with_reducible refine w_sl ?_ | with_reducible refine w_noP ?_ | with_reducible refine w_int1 ?_ | with_reducible refine w_part ?_ | with_reducible refine w_yes ?_ | with_reducible refine w_nT ?_ | with_reducible refine w_nF ?_ | with_reducible refine w_iteT ?_ | with_reducible refine w_iteF ?_))
namespace K3
def spLCells (K : PySem.W.Frag) : Sp := fun vs H Q _ => ∃ (g : Addr) (rs : List Addr) (t : List (List Int)) (m n : Nat), vs = [.ref g] ∧ Tab H g rs t ∧ Rect t m n ∧ 1 ≤ m ∧ m ≤ 60 ∧ n ≤ 60 ∧ ∀ p H' ws, Same H H' → H p = none → H' p = some (.lst ws) → Paired (CellAt H') ws (cellsOf m n).dropLast → Q (.ref p) H'
def spLHid (K : PySem.W.Frag) : Sp := fun vs H Q _ => ∃ (s g : Addr) (rs : List Addr) (t : List (List Int)) (m n : Nat) (x : Int), vs = [.ref s, .ref g, .int x] ∧ Sd H s ∧ (g ≠ s ∧ ∀ r ∈ rs, r ≠ s) ∧ Tab H g rs t ∧ Rect t m n ∧ 2 ≤ m ∧ m ≤ 7 ∧ 2 ≤ n ∧ n ≤ 7 ∧
  ∀ p H' ws hs, H p = none → BM [s] H H' → Sd H' s → H' p = some (.lst ws) → Paired (CellAt H') ws hs → (∀ c ∈ hs, c ∈ (cellsOf m n).dropLast) → hs ≠ [] → hs.length ≤ 60 → Q (.ref p) H'
def spLGrid (K : PySem.W.Frag) : Sp := fun vs H Q _ => ∃ (s : Addr) (m k : Nat) (x : Int), vs = [.ref s, .int (m : Int), .int (k : Int), .int x] ∧ Sd H s ∧ 1 ≤ m ∧ m ≤ 6 ∧ 1 ≤ k ∧ k ≤ 6 ∧ 0 < x ∧ x < 2 ^ 62 ∧
  ∀ p H' rs t, BM [s] H H' → Sd H' s → New H p rs → Tab H' p rs (withSums k t) → t.length = m → (∀ r ∈ t, r.length = k ∧ ∀ y ∈ r, 0 ≤ y ∧ y < x) → Q (.ref p) H'
theorem cellsOf_succ (m n : Nat) : cellsOf (m + 1) n = cellsOf m n ++ rowCells n m := by
  unfold cellsOf
  rw [List.range_succ, List.flatMap_append]
  simp
theorem rowCells_succ (n r : Nat) : rowCells (n + 1) r = rowCells n r ++ [(r, n)] := by
  unfold rowCells
  rw [List.range_succ, List.map_append]
  rfl
theorem CellAt.bmS {s : Addr} {H H' : Hp} (hs : Sd H s) (e : BM [s] H H') {v : V} {c : Nat × Nat} (h : CellAt H v c) : CellAt H' v c := h.bm hs.src e
section
variable {P : Program} {w : World} {K : PySem.W.Frag} {mg : Str → Option Value} {base : Heap}
theorem sc_cells : FnScope ["_law_grid", "_law_found_here", "_law_row", "_law_column"] ["_law_grid"] (defScope s__law_cells) := ⟨rfl, rfl, rfl, by decide +kernel, rfl, by decide +kernel, by decide +kernel⟩
theorem ok_cells (T : Tx K mg) : Ok P w K mg base 1 (He.ga K "_law_cells") ["_law_grid"] (spLCells K) := by
  obtain ⟨fd, F⟩ := T.f__law_cells
  refine ⟨fd, F.ok (k := 0) sc_cells (fun vs H Q E h => ?_) (fun cdv A outer s_ H vs Q E hr h => ?_), F.bindsN fun _ _ _ _ _ _ us hl => match us, hl with | [_], _ => rfl, F.kp⟩
  · obtain ⟨g, rs, t, m, n, rfl, ht, hR, m1, m60, n60, q⟩ := h
    rfl
  obtain ⟨g, rs, t, m, n, rfl, ht, hR, m1, m60, n60, q⟩ := h
  have hu65 := K3.Room.units65 hr
  have hu64 := Nat.lt_of_succ_lt hu65
  have hu0 := Nat.lt_of_le_of_lt (Nat.le_add_right _ 65) hu65
  have hu1 := Nat.lt_of_le_of_lt (Nat.add_le_add_left (show 1 ≤ 65 by decide) _) hu65
  refine ⟨_, pss_cons (ps_set (i := 1) sc_cells.nd rfl (Or.inl rfl) (pe_lst pa_nil))
      (pss_cons (ps_for (passes_of rfl) (by rfl) (pi_range1 rfl T.z_range (pa_cons (pe_callB call_len_seq (by rfl) T.z_len PySem.boot_len (pa_cons (pv 0) pa_nil)) pa_nil)) (pg_name (i := 2) sc_cells.nd rfl (Or.inr rfl)) (pss_one (ps_set (i := 1) sc_cells.nd rfl (Or.inl rfl) (pe_op op_cat (pv 1) (by exact pe_lc (own := [("_law_column", 3)]) (g := gName 3) (tt := tYes) (te := (tTup (tCons (tVar 2) (tCons (tVar 3) tNil)))) (by rfl) sc_cells.nd (pi_range1 rfl T.z_range (pa_cons (pe_callB call_len_seq (by rfl) T.z_len PySem.boot_len (pa_cons (pe_ix ix_list (pv 0) pe_int (fun _ _ => rfl)) pa_nil)) pa_nil)) (blkOk_by (own := [("_law_column", 3)]) (N := ["_law_grid", "_law_found_here", "_law_row", "_law_column"]) (sc := defScope s__law_cells) (by decide +kernel)) (fun _ _ _ _ _ => (pg_name (i := 3) sc_cells.nd rfl (Or.inl rfl))) (fun _ _ _ _ _ => pts_nil) (fun _ _ _ _ _ => (pe_tup (pa_cons (pv 2) (pa_cons (pv 3) pa_nil)))))))))
      (pss_one (ps_ret (pe_slice sl_list (pv 1) po_none (po_some (pe_un un_neg pe_int)))))), ?_⟩
  have lr := ht.rows.length
  have lt := hR.1
  obtain ⟨a0, r0, ha0, hr0, hx0⟩ := row_of ht (i := 0) (by omega)
  have hl0 := hR.2 r0 (List.mem_of_getElem? hr0)
  walk_at "go"
  refine ⟨Nat.zero_le _, fun p0 hp0 => ?_⟩
  have e0 := Same.new hp0 (.lst [])
  walk_at "go"
  refine rng_open ?_
  walk_at "go"
  refine ⟨g, _, rfl, .inl (SqL.of (e0 _ _ ht.at_)), ?_⟩
  rw [List.length_map, lr, lt]
  refine ⟨_, rfl, by omega, by omega, ?_⟩
  rw [Int.toNat_natCast]
  refine for_range (lo := 0) (n := m) (fun (i : Nat) σ H' => ∃ (p : Addr) (ws : List V) (o2 o3 : Option V), σ = [some (.ref g), some (.ref p), o2, o3] ∧ Same H H' ∧ H p = none ∧ H' p = some (.lst ws) ∧ Paired (CellAt H') ws (cellsOf i n)) ⟨p0, [], none, none, rfl, e0, hp0, upd_same, .nil⟩ ?_ ?_
  · rintro i σ H1 hi ⟨p, ws, o2, o3, rfl, e1, hp, h1, hw⟩
    walk_at "go"
    refine lcAt_open (rng_open ?_)
    walk_at "go"
    refine w_ixL (e1 _ _ ht.at_) (ref_at ha0) ?_
    walk_at "go"
    refine ⟨a0, _, rfl, .inl (SqL.of (e1 _ _ hx0)), ?_⟩
    rw [List.length_map, hl0]
    refine ⟨_, rfl, by omega, by omega, fun D hD => ?_⟩
    rw [Int.toNat_natCast]
    refine lc_range (lo := 0) (n := n) (fun (j : Nat) H' => Same H1 H' ∧ ∃ zs, H' D = some (.lst zs) ∧ Paired (CellAt H') zs (rowCells j i)) ⟨Same.new hD _, [], upd_same, .nil⟩ ?_ ?_
    · rintro j H2 hj ⟨e2, zs, h2, hz⟩
      walk_at "go"
      refine ⟨rfl, ?_⟩
      walk_at "go"
      refine ⟨(by show 2 ≤ sizeLine; decide), fun a ha => ?_⟩
      have e3 := Same.new ha (.tup [V.int (0 + (i : Int)), V.int (0 + (j : Int))])
      have aD : a ≠ D := fun z => by rw [z, h2] at ha; cases ha
      have lz : zs.length ≤ 60 := by rw [hz.length]; unfold rowCells; rw [List.length_map, List.length_range]; omega
      refine ⟨zs, e3 _ _ h2, Nat.lt_of_le_of_lt lz (by decide), (e2.trans e3).mut hD, zs ++ [.ref a], upd_same, ?_⟩
      rw [rowCells_succ]
      refine K3.Paired.app (L2.Paired.mapP hz fun _ _ z => (z.same e3).muts (e3 _ _ h2)) (.cons ⟨a, rfl, ?_⟩ .nil)
      rw [upd_ne aD, upd_same, show (0 : Int) + (i : Int) = (i : Int) by omega, show (0 : Int) + (j : Int) = (j : Int) by omega]
    · rintro H2 ⟨e2, zs, h2, hz⟩
      have lw : ws.length ≤ 3600 := by rw [hw.length, cells_len]; exact Nat.mul_le_mul (by omega : i ≤ 60) n60
      have lz : zs.length ≤ 60 := by rw [hz.length]; unfold rowCells; rw [List.length_map, List.length_range]; omega
      refine ⟨p, D, ws, zs, rfl, rfl, e2 _ _ h1, h2, Nat.le_trans (show ws.length + zs.length ≤ 4000 by omega) (by decide), fun p2 hp2 => ?_⟩
      have e3 := Same.new hp2 (.lst (ws ++ zs))
      walk_at "go"
      refine ⟨p2, ws ++ zs, _, _, rfl, e1.trans (e2.trans e3), (e1.trans e2).free hp2, upd_same, ?_⟩
      rw [cellsOf_succ]
      exact K3.Paired.app (L2.Paired.mapP hw fun _ _ z => z.same (e2.trans e3)) (L2.Paired.mapP hz fun _ _ z => z.same e3)
  · rintro σ H1 ⟨p, ws, o2, o3, rfl, e1, hp, h1, hw⟩
    walk_at "go"
    refine ⟨_, rfl, ?_⟩
    walk_at "go"
    refine ⟨p, ws, rfl, SqL.of h1, fun p2 hp2 => ?_⟩
    rw [cut_last]
    have e2 := Same.new hp2 (.lst ws.dropLast)
    exact q p2 _ ws.dropLast (e1.trans e2) (e1.free hp2) upd_same (L2.Paired.mapP (paired_drop hw) fun _ _ z => z.same e2)
theorem sc_hidden : FnScope ["_law_s", "_law_grid", "_law_part", "_law_found_here", "_law_place"] ["_law_s", "_law_grid", "_law_part"] (defScope s__law_hidden) := ⟨rfl, rfl, rfl, by decide +kernel, rfl, by decide +kernel, by decide +kernel⟩
theorem ok_hidden (T : Tx K mg) : Ok P w K mg base 2 (He.ga K "_law_hidden") ["_law_s", "_law_grid", "_law_part"] (spLHid K) := by
  obtain ⟨fd, F⟩ := T.f__law_hidden
  have O_law_digit := ok_digit (P := P) (w := w) (base := base) T
  have O_law_cells := ok_cells (P := P) (w := w) (base := base) T
  refine ⟨fd, F.ok (k := 1) sc_hidden (fun vs H Q E h => ?_) (fun cdv A outer s_ H vs Q E hr h => ?_), F.bindsN fun _ _ _ _ _ _ us hl => match us, hl with | [_, _, _], _ => rfl, F.kp⟩
  · obtain ⟨s, g, rs, t, m, n, x, rfl, hs, gs, ht, hR, m2, m7, n2, n7, q⟩ := h
    rfl
  obtain ⟨s, g, rs, t, m, n, x, rfl, hs, gs, ht, hR, m2, m7, n2, n7, q⟩ := h
  have hu65 := K3.Room.units65 hr
  have hu64 := Nat.lt_of_succ_lt hu65
  have hu0 := Nat.lt_of_le_of_lt (Nat.le_add_right _ 65) hu65
  have hu1 := Nat.lt_of_le_of_lt (Nat.add_le_add_left (show 1 ≤ 65 by decide) _) hu65
  have r_law_digit : Room 1 _ := hr.mono (by decide)
  have r_law_cells : Room 1 _ := hr.mono (by decide)
  refine ⟨_, pss_cons (by exact ps_setLc (i := 3) (own := [("_law_place", 4)]) (g := gName 4) (tt := (tTest (tOp (rI0 fun i j => .bl (decide (i < j))) (tCall (spDigit K) [] E0 (tCons (tVar 0) (tCons (tC (.int 3)) tNil))) (tVar 2)))) (te := (tVar 4)) (by rfl) sc_hidden.nd rfl rfl (by rfl) (pi_list (pe_f O_law_cells r_law_cells T.g__law_cells (pa_cons (pv 1) pa_nil))) (blkOk_by (own := [("_law_place", 4)]) (N := ["_law_s", "_law_grid", "_law_part", "_law_found_here", "_law_place"]) (sc := defScope s__law_hidden) (by decide +kernel)) (fun _ _ _ _ _ => (pg_name (i := 4) sc_hidden.nd rfl (Or.inl rfl))) (fun _ _ _ _ _ => (pts_one (pt_cmpR op_lt (pe_f O_law_digit r_law_digit T.g__law_digit (pa_cons (pv 0) (pa_cons pe_int pa_nil))) (pv 2) (nomark _)))) (fun _ _ _ _ _ => (pv 4)))
      (pss_cons (ps_if (pt_cmpR (op_eqE hu0) (pv 3) (pe_lst pa_nil) (nomark _)) (pss_one (ps_set (i := 3) sc_hidden.nd rfl (Or.inl rfl) (pe_lst (pa_cons (pe_ix ix_list (pe_f O_law_cells r_law_cells T.g__law_cells (pa_cons (pv 1) pa_nil)) (pe_f O_law_digit r_law_digit T.g__law_digit (pa_cons (pv 0) (pa_cons (pe_callB call_len_seq (by rfl) T.z_len PySem.boot_len (pa_cons (pe_f O_law_cells r_law_cells T.g__law_cells (pa_cons (pv 1) pa_nil)) pa_nil)) pa_nil))) (fun _ _ => rfl)) pa_nil)))) pss_nil)
      (pss_one (ps_ret (pe_op op_cat (pe_revL (pv 3)) (pe_slice sl_list (pv 3) po_none (po_some (pe_f O_law_digit r_law_digit T.g__law_digit (pa_cons (pv 0) (pa_cons pe_int pa_nil))))))))), ?_⟩
  have lc49 : (cellsOf m n).dropLast.length ≤ 49 := by
    rw [List.length_dropLast, cells_len]
    exact Nat.le_trans (Nat.sub_le _ _) (Nat.mul_le_mul m7 n7)
  have lc1 : 0 < (cellsOf m n).dropLast.length := by
    rw [List.length_dropLast, cells_len]
    have := Nat.mul_le_mul m2 n2
    omega
  walk_at "go"
  refine lcAt_open (list_open ?_)
  walk_at "go"
  refine ⟨g, rs, t, m, n, rfl, ht, hR, by omega, by omega, by omega, fun p1 H1 w1 e1 hp1 h1 c1 => ?_⟩
  have s1 := hs.same e1
  have p1s : p1 ≠ s := src_ne hs.src hp1
  refine ⟨p1, rfl, ⟨_, SqL.of h1⟩, fun D hD => ?_⟩
  have Ds : D ≠ s := src_ne s1.src hD
  have l1 := c1.length
  refine lc_list (xs := w1) (fun (i : Nat) H' => ∃ (zs : List V) (cs : List (Nat × Nat)), BM [s] H1 H' ∧ Sd H' s ∧ H' D = some (.lst zs) ∧ Paired (CellAt H') zs cs ∧ cs.length ≤ i ∧ ∀ c ∈ cs, c ∈ (cellsOf m n).dropLast)
    ⟨[], [], BM.of (Same.new hD _), s1.upd Ds _, upd_same, .nil, Nat.le_refl _, fun c hc => (by cases hc)⟩ (fun i H' _ ⟨_, _, b, _⟩ => SqL.of (b.at h1 (by simpa using p1s))) ?_ ?_
  · rintro i v H2 hx ⟨zs, cs, b2, s2, h2, hz, lz, mz⟩
    obtain ⟨c, hc, hv⟩ := K3.Paired.get c1 hx
    walk_at "go"
    refine ⟨rfl, ?_⟩
    walk_at "go"
    refine ⟨s, 3, rfl, s2, by decide, by decide, fun r H3 r1 b3 s3 => ?_⟩
    walk_at "go"
    have h3 := b3.at h2 (by simpa using Ds)
    have hz3 := L2.Paired.mapP hz fun _ _ z => z.bmS s2 b3
    have hv3 : CellAt H3 v c := (hv.bmS s1 b2).bmS s2 b3
    by_cases k : (r : Int) < x
    · rw [decide_eq_true k]
      walk_at "go"
      refine ⟨zs, h3, Nat.lt_of_le_of_lt (show zs.length ≤ 1000 by rw [hz.length]; have := (List.getElem?_eq_some_iff.mp hx).1; omega) (by decide), zs ++ [v], cs ++ [c], (b2.trans b3).mut hD, s3.upd Ds _, upd_same, ?_, by rw [List.length_append]; simpa using lz, fun d hd => ?_⟩
      · exact K3.Paired.app (L2.Paired.mapP hz3 fun _ _ z => z.muts h3) (.cons (hv3.muts h3) .nil)
      · rcases List.mem_append.mp hd with hd | hd
        · exact mz d hd
        · rw [List.mem_singleton.mp hd]
          exact List.mem_of_getElem? hc
    · rw [decide_eq_false k]
      walk_at "go"
      exact ⟨zs, cs, b2.trans b3, s3, h3, hz3, by omega, mz⟩
  · rintro H2 ⟨zs, cs, b2, s2, h2, hz, lz, mz⟩
    have b02 : BM [s] H H2 := (BM.of e1).trans b2
    have fin : ∀ (D : Addr) (H3 : Hp) (zs : List V) (cs : List (Nat × Nat)), H D = none → BM [s] H H3 → Sd H3 s → H3 D = some (.lst zs) → Paired (CellAt H3) zs cs → cs ≠ [] → cs.length ≤ 49 → (∀ c ∈ cs, c ∈ (cellsOf m n).dropLast) →
        (tOp rCat (tRevL K (tVar 3)) (tSl (rSlL K) (tVar 3) tNoPart (tPart (tCall (spDigit K) [] E0 (tCons (tVar 0) (tCons (tC (.int 2)) tNil)))))) [some (.ref s), some (.ref g), some (.int x), some (.ref D), none] H3 Q := by
      intro D H3 zs cs hD3 b3 s3 h3 hz3 ne lz mz
      have Ds : D ≠ s := src_ne hs.src hD3
      walk_at "go"
      refine w_rev ?_
      walk_at "go"
      refine ⟨D, zs, rfl, SqL.of h3, fun p4 hp4 => ?_⟩
      have e4 := Same.new hp4 (.lst zs.reverse)
      have h44 : (upd H3 p4 (.lst zs.reverse)) p4 = some (.lst zs.reverse) := upd_same
      have s4 := s3.same e4
      have p4s : p4 ≠ s := src_ne s3.src hp4
      have h4 := e4 _ _ h3
      have hz4 := L2.Paired.mapP hz3 fun _ _ z => z.same e4
      generalize upd H3 p4 (.lst zs.reverse) = H4 at e4 h44 s4 h4 hz4 ⊢
      walk_at "go"
      refine ⟨s, 2, rfl, s4, by decide, by decide, fun r H5 r1 b5 s5 => ?_⟩
      have h5 := b5.at h4 (by simpa using Ds)
      have h54 := b5.at h44 (by simpa using p4s)
      have hz5 := L2.Paired.mapP hz4 fun _ _ z => z.bmS s4 b5
      walk_at "go"
      refine ⟨D, zs, rfl, SqL.of h5, fun p6 hp6 => ?_⟩
      rw [cut_to]
      have e6 := Same.new hp6 (.lst (zs.take r))
      have l5 := hz5.length
      refine ⟨p4, p6, _, _, rfl, rfl, e6 _ _ h54, upd_same, Nat.le_trans (show zs.reverse.length + (zs.take r).length ≤ 1000 by rw [List.length_reverse, List.length_take]; omega) (by decide), fun p7 hp7 => ?_⟩
      have e7 := Same.new hp7 (.lst (zs.reverse ++ zs.take r))
      have e67 := e6.trans e7
      have b05 := (b3.same e4).trans b5
      have hz7 := L2.Paired.mapP hz5 fun _ _ z => z.same e67
      refine q p7 _ _ (cs.reverse ++ cs.take r) (b05.free (e6.free hp7)) (b05.same e67) (s5.same e67) upd_same (K3.Paired.app (paired_rev hz7) (paired_take hz7 r)) (fun c hc => ?_) (fun z => ?_) ?_
      · rcases List.mem_append.mp hc with hc | hc
        · exact mz c (List.mem_reverse.mp hc)
        · exact mz c (List.mem_of_mem_take hc)
      · exact ne (List.reverse_eq_nil_iff.mp (List.append_eq_nil_iff.mp z).1)
      · have : r ≤ 1 := by omega
        rw [List.length_append, List.length_reverse, List.length_take]
        omega
    walk_at "go"
    refine ⟨Nat.zero_le _, fun p3 hp3 => ?_⟩
    have e3 := Same.new hp3 (.lst [])
    refine ⟨D, p3, zs, [], rfl, rfl, SqL.of (e3 _ _ h2), SqL.of upd_same, .inr (.inl rfl), ?_⟩
    have s3 := s2.same e3
    have h3 := e3 _ _ h2
    have hz3 := L2.Paired.mapP hz fun _ _ z => z.same e3
    have b03 := b02.same e3
    generalize upd H2 p3 (.lst []) = H3 at e3 s3 h3 hz3 b03 ⊢
    walk_at "go"
    by_cases k : zs = []
    · rw [decide_eq_true (⟨k, rfl⟩ : zs = [] ∧ ([] : List V) = [])]
      walk_at "go"
      have tab3 : Tab H3 g rs t := ht.bm b03 gs.1 gs.2
      refine ⟨g, rs, t, m, n, rfl, tab3, hR, by omega, by omega, by omega, fun p4 H4 w4 e4 hp4 h4 c4 => ?_⟩
      have s4 := s3.same e4
      have p4s : p4 ≠ s := src_ne s3.src hp4
      walk_at "go"
      refine ⟨g, rs, t, m, n, rfl, tab3.same e4, hR, by omega, by omega, by omega, fun p5 H5 w5 e5 hp5 h5 c5 => ?_⟩
      walk_at "go"
      refine ⟨p5, w5, rfl, .inl (SqL.of h5), ?_⟩
      have l5 := c5.length
      have l4 := c4.length
      have s5 := s4.same e5
      refine ⟨s, _, rfl, s5, by omega, by omega, fun r H6 r1 b6 s6 => ?_⟩
      have h46 := b6.at (e5 _ _ h4) (by simpa using p4s)
      have hr : r < w4.length := by omega
      obtain ⟨c, hc, hv⟩ := K3.Paired.get c4 (List.getElem?_eq_getElem hr)
      have hv6 := (hv.same e5).bmS s5 b6
      refine w_ixL h46 (atI_nat (List.getElem?_eq_getElem hr)) ?_
      walk_at "go"
      refine ⟨(by show 1 ≤ sizeLine; decide), fun p7 hp7 => ?_⟩
      have e7 := Same.new hp7 (.lst [w4[r]])
      walk_at "go"
      have b06 := ((b03.same e4).same e5).trans b6
      exact fin p7 _ [w4[r]] [c] (b06.free hp7) (b06.same e7) (s6.same e7) upd_same (.cons (hv6.same e7) .nil) (by simp) (by simp) (fun d hd => by rw [List.mem_singleton.mp hd]; exact List.mem_of_getElem? hc)
    · rw [decide_eq_false (fun z => k z.1 : ¬ (zs = [] ∧ ([] : List V) = []))]
      walk_at "go"
      refine fin D _ zs cs (e1.free hD) b03 s3 h3 hz3 (fun z => k ?_) (by omega) mz
      have := hz.length
      rw [z] at this
      exact List.length_eq_zero_iff.mp this
theorem sc_drawn_grid : FnScope ["_law_s", "_law_tall", "_law_wide", "_law_most", "_law_k", "_law_j"] ["_law_s", "_law_tall", "_law_wide", "_law_most"] (defScope s__law_drawn_grid) := ⟨rfl, rfl, rfl, by decide +kernel, rfl, by decide +kernel, by decide +kernel⟩
theorem ok_drawn_grid (T : Tx K mg) : Ok P w K mg base 2 (He.ga K "_law_drawn_grid") ["_law_s", "_law_tall", "_law_wide", "_law_most"] (spLGrid K) := by
  obtain ⟨fd, F⟩ := T.f__law_drawn_grid
  have O_law_summed := ok_summed (P := P) (w := w) (base := base) T
  have O_law_digit := ok_digit (P := P) (w := w) (base := base) T
  refine ⟨fd, F.ok (k := 1) sc_drawn_grid (fun vs H Q E h => ?_) (fun cdv A outer s_ H vs Q E hr h => ?_), F.bindsN fun _ _ _ _ _ _ us hl => match us, hl with | [_, _, _, _], _ => rfl, F.kp⟩
  · obtain ⟨s, m, k, x, rfl, hs, m1, m6, k1, k6, x0, x1, q⟩ := h
    rfl
  obtain ⟨s, m, k, x, rfl, hs, m1, m6, k1, k6, x0, x1, q⟩ := h
  have hu65 := K3.Room.units65 hr
  have hu64 := Nat.lt_of_succ_lt hu65
  have hu0 := Nat.lt_of_le_of_lt (Nat.le_add_right _ 65) hu65
  have hu1 := Nat.lt_of_le_of_lt (Nat.add_le_add_left (show 1 ≤ 65 by decide) _) hu65
  have r_law_summed : Room 1 _ := hr.mono (by decide)
  have r_law_digit : Room 1 _ := hr.mono (by decide)
  refine ⟨_, pss_one (ps_ret (pe_f O_law_summed r_law_summed T.g__law_summed (pa_cons (by exact pe_lc (own := [("_law_k", 4)]) (g := gName 4) (tt := tYes) (te := (tLc (iRng1 (tCons (tVar 2) tNil)) (gName 5) tYes (tOp (rI CMul fun i j => .int (i * j)) (tCall (spDigit K) [] E0 (tCons (tVar 0) (tCons (tVar 3) tNil))) (tCB (fun xs H Q => (∃ i, xs = [V.int i] ∧ Q (.int i) H) ∨ ∃ k, xs = [V.bl k] ∧ Q (.int (if k then 1 else 0)) H) (tCons (tOp (rI0 fun i j => .bl (decide (j < i))) (tCall (spDigit K) [] E0 (tCons (tVar 0) (tCons (tC (.int 5)) tNil))) (tC (.int 0))) tNil))) [5])) (by rfl) sc_drawn_grid.nd (pi_range1 rfl T.z_range (pa_cons (pv 1) pa_nil)) (blkOk_by (own := [("_law_k", 4)]) (N := ["_law_s", "_law_tall", "_law_wide", "_law_most", "_law_k", "_law_j"]) (sc := defScope s__law_drawn_grid) (by decide +kernel)) (fun _ _ _ _ _ => (pg_name (i := 4) sc_drawn_grid.nd rfl (Or.inl rfl))) (fun _ _ _ _ _ => pts_nil) (fun _ _ _ _ _ => (by exact pe_lc (own := [("_law_j", 5)]) (g := gName 5) (tt := tYes) (te := (tOp (rI CMul fun i j => .int (i * j)) (tCall (spDigit K) [] E0 (tCons (tVar 0) (tCons (tVar 3) tNil))) (tCB (fun xs H Q => (∃ i, xs = [V.int i] ∧ Q (.int i) H) ∨ ∃ k, xs = [V.bl k] ∧ Q (.int (if k then 1 else 0)) H) (tCons (tOp (rI0 fun i j => .bl (decide (j < i))) (tCall (spDigit K) [] E0 (tCons (tVar 0) (tCons (tC (.int 5)) tNil))) (tC (.int 0))) tNil)))) (by rfl) sc_drawn_grid.nd (pi_range1 rfl T.z_range (pa_cons (pv 2) pa_nil)) (blkOk_by (own := [("_law_j", 5)]) (N := ["_law_s", "_law_tall", "_law_wide", "_law_most", "_law_k", "_law_j"]) (sc := { kind := .function, names := [(".0", .local), ("_law_k", .local), ("range", .globalImplicit), ("_law_most", .cell), ("_law_s", .cell), ("_law_wide", .cell)], isGenerator := false, isCoroutine := false }) (by decide +kernel)) (fun _ _ _ _ _ => (pg_name (i := 5) sc_drawn_grid.nd rfl (Or.inl rfl))) (fun _ _ _ _ _ => pts_nil) (fun _ _ _ _ _ => (pe_op op_mul (pe_f O_law_digit r_law_digit T.g__law_digit (pa_cons (pv 0) (pa_cons (pv 3) pa_nil))) (pe_callTy call_int1 (by rfl) T.z_int (by decide +kernel) (pa_cons (pe_cmpR op_gt (pe_f O_law_digit r_law_digit T.g__law_digit (pa_cons (pv 0) (pa_cons pe_int pa_nil))) pe_int rfl) pa_nil))))))) pa_nil))), ?_⟩
  walk_at "go"
  refine lcAt_open (rng_open ?_)
  walk_at "go"
  refine ⟨_, rfl, by omega, by omega, fun D hD => ?_⟩
  rw [Int.toNat_natCast]
  have Ds : D ≠ s := src_ne hs.src hD
  refine lc_range (lo := 0) (n := m) (fun (i : Nat) H' => ∃ (rs : List Addr) (t : List (List Int)), BM [s] H H' ∧ Sd H' s ∧ H' D = some (.lst (rs.map V.ref)) ∧ Paired (RowAt H') rs t ∧ t.length = i ∧ (∀ r ∈ t, r.length = k ∧ ∀ y ∈ r, 0 ≤ y ∧ y < x) ∧ ∀ r ∈ rs, r ≠ s ∧ r ≠ D)
    ⟨[], [], BM.of (Same.new hD _), hs.upd Ds _, upd_same, .nil, rfl, fun r hr => (by cases hr), fun r hr => (by cases hr)⟩ ?_ ?_
  · rintro i H4 hi ⟨rs, t, b4, s4, hD4, hp4, ht4, hk4, hr4⟩
    walk_at "go"
    refine ⟨rfl, ?_⟩
    walk_at "go"
    refine lcAt_open (rng_open ?_)
    walk_at "go"
    refine ⟨_, rfl, by omega, by omega, fun D2 hD2 => ?_⟩
    rw [Int.toNat_natCast]
    have D2s : D2 ≠ s := src_ne s4.src hD2
    have D2D : D2 ≠ D := fun z => by rw [z, hD4] at hD2; cases hD2
    refine lc_range (lo := 0) (n := k) (fun (j : Nat) H' => ∃ row : List Int, BM [s] H4 H' ∧ Sd H' s ∧ H' D2 = some (.lst (row.map V.int)) ∧ row.length = j ∧ ∀ y ∈ row, 0 ≤ y ∧ y < x)
      ⟨[], BM.of (Same.new hD2 _), s4.upd D2s _, upd_same, rfl, fun y hy => (by cases hy)⟩ ?_ ?_
    · rintro j H5 hj ⟨row, b5, s5, hD25, lr5, hx5⟩
      walk_at "go"
      refine ⟨rfl, ?_⟩
      walk_at "go"
      refine ⟨s, x, rfl, s5, x0, x1, fun r H6 r1 b6 s6 => ?_⟩
      walk_at "go"
      refine ⟨s, 5, rfl, s6, by decide, by decide, fun r' H7 r1' b7 s7 => ?_⟩
      walk_at "go"
      refine .inr ⟨_, rfl, ?_⟩
      refine w_i (mul01 _ _) ?_
      have hD27 := b7.at (b6.at hD25 (by simpa using D2s)) (by simpa using D2s)
      have hy : ∀ z : Bool, 0 ≤ (r : Int) * (if z = true then 1 else 0) ∧ (r : Int) * (if z = true then 1 else 0) < x := fun z => by
        cases z
        · simpa using x0
        · simpa using r1
      generalize hz : decide ((r' : Int) > 0) = z at hy ⊢
      have hyz := hy z
      generalize (r : Int) * (if z = true then 1 else 0) = y at hyz ⊢
      refine ⟨_, hD27, Nat.lt_of_le_of_lt (show (row.map V.int).length ≤ 100 by rw [List.length_map]; omega) (by decide), row ++ [y], ((b5.trans b6).trans b7).mut hD2, s7.upd D2s _, by rw [upd_same, List.map_append]; rfl, by rw [List.length_append, lr5]; rfl, fun v hv => ?_⟩
      rcases List.mem_append.mp hv with hv | hv
      · exact hx5 v hv
      · rw [List.mem_singleton.mp hv]; exact hyz
    · rintro H5 ⟨row, b5, s5, hD25, lr5, hx5⟩
      have hD5 := b5.at hD4 (by simpa using Ds)
      have up : ∀ r row', RowAt H4 r row' → r ≠ s → r ≠ D → RowAt (upd H5 D (.lst (rs.map V.ref ++ [.ref D2]))) r row' := fun r row' z h1 h2 => by
        show upd H5 D _ r = _
        rw [upd_ne h2]
        exact b5.at z (by simpa using h1)
      refine ⟨_, hD5, Nat.lt_of_le_of_lt (show (rs.map V.ref).length ≤ 100 by rw [List.length_map, hp4.length]; omega) (by decide), rs ++ [D2], t ++ [row], (b4.trans b5).mut hD, s5.upd Ds _, by rw [upd_same, List.map_append]; rfl, K3.Paired.app (paired_up hp4 fun r row' hr z => up r row' z (hr4 r hr).1 (hr4 r hr).2) (.cons (by show upd H5 D _ D2 = _; rw [upd_ne D2D]; exact hD25) .nil), by rw [List.length_append, ht4]; rfl, fun r hr => ?_, fun r hr => ?_⟩
      · rcases List.mem_append.mp hr with hr | hr
        · exact hk4 r hr
        · rw [List.mem_singleton.mp hr]; exact ⟨lr5, hx5⟩
      · rcases List.mem_append.mp hr with hr | hr
        · exact hr4 r hr
        · rw [List.mem_singleton.mp hr]; exact ⟨D2s, D2D⟩
  · rintro H4 ⟨rs, t, b4, s4, hD4, hp4, ht4, hk4, hr4⟩
    refine ⟨D, rs, t, k, rfl, ⟨hD4, hp4⟩, fun r hr => (hk4 r hr).1, fun z => by rw [z] at ht4; simp at ht4; omega, by omega, by omega, fun p' H5 rs' e5 hnew htab => ?_⟩
    exact q p' H5 rs' t (b4.same e5) (s4.same e5) ⟨b4.free hnew.p0, fun r hr => b4.free (hnew.rs0 r hr), hnew.nd, hnew.ne⟩ htab ht4 hk4
end
end K3
end L4_part
section K1_part
set_option Elab.async false
set_option linter.all false
set_option maxRecDepth 100000
set_option maxHeartbeats 1000000
set_option pp.deepTerms.threshold 5
open PySem PySem.Spec PyProof.Rows L2
/-- go on as far as nothing is open -/
local macro_rules | `(tactic| walk_at "go") => `(tactic| repeat (first
  | with_reducible refine w_seq ?_ | with_reducible refine w_next ?_ | with_reducible refine w_set ?_ | with_reducible refine w_drop ?_ | with_reducible refine w_ret ?_ | with_reducible refine w_retN ?_
  | with_reducible refine w_if ?_ | ((with_reducible refine' w_var ?hv ?_); (case hv => exact rfl)) | with_reducible refine w_c ?_ | with_reducible refine w_nil ?_ | with_reducible refine w_cons ?_ | with_reducible refine w_op ?_ | with_reducible refine w_un ?_
  | with_reducible refine w_test ?_ | with_reducible refine w_tB ?_ | with_reducible refine w_not ?_ | with_reducible refine w_and ?_ | with_reducible refine w_or ?_ | with_reducible refine w_bl ?_
  | with_reducible refine w_andV ?_ | with_reducible refine w_orV ?_ | with_reducible refine w_notV ?_ | with_reducible refine w_ifE ?_ | with_reducible refine w_chain ?_ | with_reducible refine w_i0 ?_
  | with_reducible refine w_call ?_ | with_reducible refine w_callS ?_ | with_reducible refine w_cB ?_ | with_reducible refine w_tup ?_ | with_reducible refine w_lst ?_ | with_reducible refine w_fldV ?_
  | with_reducible refine w_neF ?_ | with_reducible refine w_neT ?_ | with_reducible refine w_notN ?_ | with_reducible refine w_isN ?_ | with_reducible refine w_gname ?_ | with_reducible refine w_gsub ?_ | with_reducible refine w_asg ?_ | with_reducible refine w_sl ?_ | with_reducible refine w_noP ?_ | with_reducible refine w_int1 ?_ | with_reducible refine w_part ?_ | with_reducible refine w_yes ?_ | with_reducible refine w_nT ?_ | with_reducible refine w_nF ?_ | with_reducible refine w_iteT ?_ | with_reducible refine w_iteF ?_))
namespace K3
theorem w_g4 {i j k l : Nat} {v1 v2 v3 v4 : V} {σ : L2.St} {H : Hp} {Q : L2.St → Hp → Prop} (h : Q ((((σ.set i (some v1)).set j (some v2)).set k (some v3)).set l (some v4)) H) : gCons (gName i) (gCons (gName j) (gCons (gName k) (gCons (gName l) gNil))) [v1, v2, v3, v4] σ H Q := ⟨_, _, rfl, _, _, rfl, _, _, rfl, _, _, rfl, rfl, h⟩
theorem HidIn.same {K : PySem.W.Frag} {H H' : Hp} {v : V} {hs : List (Nat × Nat)} {m n : Nat} (h : HidIn K H v hs m n) (e : Same H H') : HidIn K H' v hs m n := by
  obtain ⟨p, ws, h1, h2, h3, h4⟩ := h
  exact ⟨p, ws, h1, h2.imp (fun z => e.seq z) (fun z => e.sqt z), L2.Paired.mapP h3 fun _ _ z => CellAt.same e z, h4⟩
theorem srt_len {cs : List (Nat × Nat)} {m n : Nat} (h : Srt cs) (b : ∀ k ∈ cs, k.1 < m ∧ k.2 < n) : cs.length ≤ m * n := by
  have nd : cs.Nodup := by
    refine List.Pairwise.imp ?_ h
    intro a b hab z
    rw [z] at hab
    omega
  have := nodup_len nd (k := cellsOf m n) fun x hx => cells_mem.mpr (b x hx)
  rw [cells_len] at this
  exact this
def spLSecret (K : PySem.W.Frag) : Sp := fun vs H Q _ => ∃ (g : Addr) (rs : List Addr) (t : List (List Int)) (m n : Nat) (few : Int), vs = [.ref g, .int few] ∧ Tab H g rs t ∧ Rect t m n ∧ 1 ≤ m ∧ m ≤ 60 ∧ n ≤ 60 ∧ ∀ p H' ws, Same H H' → H p = none → H' p = some (.lst ws) → Paired (CellAt H') ws (secretL t m n few) → Q (.ref p) H'
def spLFirst (K : PySem.W.Frag) : Sp := fun vs H Q _ => ∃ (g : Addr) (hv : V) (few width : Int) (rs : List Addr) (t : List (List Int)) (m n : Nat) (hs : List (Nat × Nat)), vs = [.ref g, hv, .int few, .int width] ∧ Tab H g rs t ∧ Grid t m n ∧ m ≤ 10 ∧ n ≤ 10 ∧ HidIn K H hv hs m n ∧
  ∀ H', Same H H' → (firstF t m n hs (secretL t m n few) width = none → Q .non H') ∧ (∀ c, firstF t m n hs (secretL t m n few) width = some c → ∀ v, CellAt H' v c → Q v H')
section
variable {P : Program} {w : World} {K : PySem.W.Frag} {mg : Str → Option Value} {base : Heap}
theorem sc_secret : FnScope ["_law_grid", "_law_scarce", "_law_row", "_law_column"] ["_law_grid", "_law_scarce"] (defScope s__law_secret) := ⟨rfl, rfl, rfl, by decide +kernel, rfl, by decide +kernel, by decide +kernel⟩
theorem ok_secret (T : Tx K mg) : Ok P w K mg base 2 (He.ga K "_law_secret") ["_law_grid", "_law_scarce"] (spLSecret K) := by
  obtain ⟨fd, F⟩ := T.f__law_secret
  have O_law_cells := ok_cells (P := P) (w := w) (base := base) T
  refine ⟨fd, F.ok (k := 1) sc_secret (fun vs H Q E h => ?_) (fun cdv A outer s_ H vs Q E hr h => ?_), F.bindsN fun _ _ _ _ _ _ us hl => match us, hl with | [_, _], _ => rfl, F.kp⟩
  · obtain ⟨g, rs, t, m, n, few, rfl, ht, hR, m1, m60, n60, q⟩ := h
    rfl
  obtain ⟨g, rs, t, m, n, few, rfl, ht, hR, m1, m60, n60, q⟩ := h
  have hu65 := K3.Room.units65 hr
  have hu64 := Nat.lt_of_succ_lt hu65
  have hu0 := Nat.lt_of_le_of_lt (Nat.le_add_right _ 65) hu65
  have hu1 := Nat.lt_of_le_of_lt (Nat.add_le_add_left (show 1 ≤ 65 by decide) _) hu65
  have r_law_cells : Room 1 _ := hr.mono (by decide)
  refine ⟨_, pss_one (ps_ret (by exact pe_lc (own := [("_law_row", 2), ("_law_column", 3)]) (g := gTup K 2 (gCons (gName 2) (gCons (gName 3) gNil))) (tt := (tB (tChain (rI0 fun i j => .bl (decide (i ≤ j))) (rI0 fun i j => .bl (decide (i < j))) (tC (.int 1)) (tOp (rIxL K) (tOp (rIxL K) (tVar 0) (tVar 2)) (tVar 3)) (tVar 1)))) (te := (tTup (tCons (tVar 2) (tCons (tVar 3) tNil)))) (by rfl) sc_secret.nd (pi_list (pe_f O_law_cells r_law_cells T.g__law_cells (pa_cons (pv 0) pa_nil))) (blkOk_by (own := [("_law_row", 2), ("_law_column", 3)]) (N := ["_law_grid", "_law_scarce", "_law_row", "_law_column"]) (sc := defScope s__law_secret) (by decide +kernel)) (fun _ _ _ _ _ => (pg_tup (by rfl) (pgs_cons (pg_name (i := 2) sc_secret.nd rfl (Or.inl rfl)) (pgs_cons (pg_name (i := 3) sc_secret.nd rfl (Or.inl rfl)) pgs_nil)))) (fun _ _ _ _ _ => (pts_one (pt_chain op_le op_lt pe_int (pe_ix ix_list (pe_ix ix_list (pv 0) (pv 2) (fun _ _ => rfl)) (pv 3) (fun _ _ => rfl)) (pv 1)))) (fun _ _ _ _ _ => (pe_tup (pa_cons (pv 2) (pa_cons (pv 3) pa_nil)))))), ?_⟩
  walk_at "go"
  refine lcAt_open (list_open ?_)
  walk_at "go"
  refine ⟨g, rs, t, m, n, rfl, ht, hR, m1, m60, n60, fun p1 H1 w1 e1 hp1 h1 hw1 => ?_⟩
  have l1 : w1.length ≤ 3600 := by
    rw [hw1.length, List.length_dropLast, cells_len]
    exact Nat.le_trans (Nat.sub_le _ _) (Nat.mul_le_mul m60 n60)
  refine ⟨p1, rfl, ⟨_, SqL.of h1⟩, fun D hD => ?_⟩
  refine items_gen (F := CellAt) (G := CellAt) (fun e h => CellAt.same e h) (fun e h => CellAt.tk e h) (fun k => decide (1 ≤ at2 t k.1 k.2) && decide (at2 t k.1 k.2 < few)) (fun c => c) (SqL.of h1) hw1 hD (by omega) ?_ ?_
  · rintro v c H2 e2 hc ⟨a, rfl, ha⟩ R' r1 r2
    obtain ⟨c1, c2⟩ := cells_mem.mp (List.dropLast_subset _ hc)
    have ht2 := (ht.same e1).same e2
    obtain ⟨ar, r, har, hr, hxr⟩ := row_of ht2 (i := c.1) (by rw [hR.1]; exact c1)
    have lr := hR.2 r (List.mem_of_getElem? hr)
    refine w_gtup (SqT.of ha) rfl (w_gnn ⟨rfl, ?_⟩)
    walk_at "go"
    refine w_ixL ht2.at_ (ref_at har) ?_
    walk_at "go"
    refine w_ixL hxr (at_getD (by omega)) ?_
    rw [← at2_of hr]
    walk_at "go"
    by_cases z1 : 1 ≤ at2 t c.1 c.2
    · rw [decide_eq_true z1]
      walk_at "go"
      by_cases z2 : at2 t c.1 c.2 < few
      · rw [decide_eq_true z2]
        walk_at "go"
        refine ⟨(by show 2 ≤ sizeLine; decide), fun c5 hc5 => ?_⟩
        exact r2 _ _ (Same.new hc5 _) (by simp [z1, z2]) ⟨c5, rfl, upd_same⟩
      · rw [decide_eq_false z2]
        walk_at "go"
        exact r1 _ (Same.refl _) (by simp [z2])
    · rw [decide_eq_false z1]
      walk_at "go"
      exact r1 _ (Same.refl _) (by simp [z1])
  intro H2 zs e2 hD2 hz
  rw [List.map_id'] at hz
  walk_at "go"
  exact q D H2 zs (e1.trans e2) (e1.free hD) hD2 hz
theorem sc_first_near : FnScope ["_law_grid", "_law_hidden_here", "_law_scarce", "_law_span", "_law_place", "_law_low", "_law_high", "_law_least", "_law_most"] ["_law_grid", "_law_hidden_here", "_law_scarce", "_law_span"] (defScope s__law_first_near) := ⟨rfl, rfl, rfl, by decide +kernel, rfl, by decide +kernel, by decide +kernel⟩
theorem ok_first_near (T : Tx K mg) : Ok P w K mg base 9 (He.ga K "_law_first_near") ["_law_grid", "_law_hidden_here", "_law_scarce", "_law_span"] (spLFirst K) := by
  obtain ⟨fd, F⟩ := T.f__law_first_near
  have O_law_secret := ok_secret (P := P) (w := w) (base := base) T
  refine ⟨fd, F.ok (k := 8) sc_first_near (fun vs H Q E h => ?_) (fun cdv A outer s_ H vs Q E hr h => ?_), F.bindsN fun _ _ _ _ _ _ us hl => match us, hl with | [_, _, _, _], _ => rfl, F.kp⟩
  · obtain ⟨g, hv, few, width, rs, t, m, n, hs, rfl, ht, gt, m10, n10, hid, q⟩ := h
    rfl
  obtain ⟨g, hv, few, width, rs, t, m, n, hs, rfl, ht, gt, m10, n10, hid, q⟩ := h
  have Oreach := ok_reach (P := P) (w := w) (base := base) T
  have rreach : Room 8 _ := hr.mono (by decide)
  have hu65 := K3.Room.units65 hr
  have hu64 := Nat.lt_of_succ_lt hu65
  have hu0 := Nat.lt_of_le_of_lt (Nat.le_add_right _ 65) hu65
  have hu1 := Nat.lt_of_le_of_lt (Nat.add_le_add_left (show 1 ≤ 65 by decide) _) hu65
  have r_law_secret : Room 2 _ := hr.mono (by decide)
  refine ⟨_, pss_cons (ps_for (passes_of rfl) (by rfl) (pi_list (pe_f O_law_secret r_law_secret T.g__law_secret (pa_cons (pv 0) (pa_cons (pv 2) pa_nil)))) (pg_name (i := 4) sc_first_near.nd rfl (Or.inl rfl)) (pss_cons (ps_if (pt_cmpR (op_notInC hu65) (pv 4) (pv 1) (by rfl)) (pss_one (ps_ret (pv 4))) pss_nil)
      (pss_cons (ps_asg (pe_fK Oreach rreach T.g_reach (pa_cons (pv 0) (pa_cons (pv 1) pa_nil)) (pk_cons (pv 4) pk_nil)) (pg_tup (by rfl) (pgs_cons (pg_name (i := 5) sc_first_near.nd rfl (Or.inl rfl)) (pgs_cons (pg_name (i := 6) sc_first_near.nd rfl (Or.inl rfl)) (pgs_cons (pg_name (i := 7) sc_first_near.nd rfl (Or.inl rfl)) (pgs_cons (pg_name (i := 8) sc_first_near.nd rfl (Or.inl rfl)) pgs_nil))))))
      (pss_one (ps_if (pt_cmpR op_lt (pe_op op_sub (pv 6) (pv 5)) (pv 3) (nomark _)) (pss_one (ps_ret (pv 4))) pss_nil)))))
      (pss_one (ps_ret pe_non)), ?_⟩
  have hR := gt.rect
  have m1 := gt.m1
  have n1 := gt.n1
  have m60 : m ≤ 60 := by omega
  have n60 : n ≤ 60 := by omega
  obtain ⟨hp, hws, rfl, hsq, hcells, hmem, hlen⟩ := id hid
  have inb : ∀ k ∈ hs, k.1 < m ∧ k.2 < n := fun k hk => cells_mem.mp (List.dropLast_subset _ (hmem k hk))
  walk_at "go"
  refine list_open ?_
  walk_at "go"
  refine ⟨g, rs, t, m, n, few, rfl, ht, hR, m1, m60, n60, fun sl H1 us e1 sl0 hsl hus => ?_⟩
  refine ⟨sl, rfl, ⟨_, SqL.of hsl⟩, ?_⟩
  have ins : ∀ k ∈ secretL t m n few, k.1 < m ∧ k.2 < n := fun k hk => cells_mem.mp (List.dropLast_subset _ (List.mem_filter.mp hk).1)
  unfold firstF at q
  generalize secretL t m n few = ss at q hus ins
  have ht1 := ht.same e1
  have hid1 := hid.same e1
  have q1 : ∀ H', Same H1 H' → (ss.find? (badF t m n hs width) = none → Q .non H') ∧ (∀ c, ss.find? (badF t m n hs width) = some c → ∀ v, CellAt H' v c → Q v H') := fun H' e => q H' (e1.trans e)
  have hcells1 := L2.Paired.mapP hcells fun _ _ z => CellAt.same e1 z
  have hsq1 := hsq.imp (fun z => e1.seq z) (fun z => e1.sqt z)
  clear q ht hid hcells hsq e1
  refine for_list (xs := us) (fun (i : Nat) σ H' => ∃ o4 o5 o6 o7 o8 : Option V, σ = [some (.ref g), some (.ref hp), some (.int few), some (.int width), o4, o5, o6, o7, o8] ∧ Same H1 H' ∧ (ss.take i).find? (badF t m n hs width) = none) ⟨_, _, _, _, _, rfl, Same.refl _, rfl⟩ (fun i σ H' _ ⟨_, _, _, _, _, _, e, _⟩ => SqL.of (e _ _ hsl)) ?_ ?_
  · rintro i v σ H2 hx ⟨o4, o5, o6, o7, o8, rfl, e2, sf⟩
    obtain ⟨c, hc, hv⟩ := K3.Paired.get hus hx
    obtain ⟨c1, c2⟩ := ins c (List.mem_of_getElem? hc)
    have hv2 := hv.same e2
    obtain ⟨next, bad⟩ := find_at sf hc
    have bc : badF t m n hs width c = !(decide (c ∈ hs) && decide (width ≤ widthF t m n hs c)) := rfl
    walk_at "go"
    refine ⟨hp, hws, hs, c, hv2, rfl, hsq1.imp (fun z => e2.seq z) (fun z => e2.sqt z), L2.Paired.mapP hcells1 fun _ _ z => z.same e2, by omega, fun k hk => by have := inb k hk; omega, ⟨by omega, by omega⟩, ?_⟩
    walk_at "go"
    by_cases z1 : c ∈ hs
    case neg =>
      rw [decide_eq_false z1] at bc ⊢
      walk_at "go"
      exact (q1 H2 e2).2 c (bad (by rw [bc]; rfl)) v hv2
    rw [decide_eq_true z1] at bc ⊢
    walk_at "go"
    refine w_callN ?_
    walk_at "go"
    refine ⟨rfl, rfl, ?_⟩
    refine ⟨g, .ref hp, v, rs, t, m, n, hs, c, rfl, (ht1.same e2).gt, hR, m1, n1, m60, n60, hid1.same e2, hv2, z1, gt.nn c.1 c1 c.2 c2, gt.room c1 c2, fun cs b H3 np1 rs1 np2 rs2 hcs srt e3 hb0 hb _ _ _ _ _ _ _ _ _ _ _ => ?_⟩
    have lcs : cs.length ≤ 100 := Nat.le_trans (srt_len srt fun k hk => inb k ((hcs k).mp hk)) (Nat.mul_le_mul m10 n10)
    have ws : widthF t m n cs c = widthF t m n hs c := width_same gt hmem (by omega) lcs hcs z1
    unfold widthF at ws bc
    refine w_gtup (SqT.of hb) rfl (w_g4 ?_)
    dsimp only
    walk_at "go"
    have e23 := e2.trans e3
    rw [← ws] at bc
    generalize at2 (mostF m n cs t c) c.1 c.2 = hi at bc ⊢
    generalize at2 (leastF m n cs t c) c.1 c.2 = lo at bc ⊢
    by_cases z2 : width ≤ hi - lo
    · rw [decide_eq_false (by omega : ¬ hi - lo < width)]
      walk_at "go"
      exact ⟨_, _, _, _, _, rfl, e23, next (by rw [bc, decide_eq_true z2]; rfl)⟩
    · rw [decide_eq_true (by omega : hi - lo < width)]
      walk_at "go"
      exact (q1 H3 e23).2 c (bad (by rw [bc, decide_eq_false z2]; rfl)) v (hv2.same e3)
  rintro σ H2 ⟨o4, o5, o6, o7, o8, rfl, e2, sf⟩
  rw [hus.length, List.take_length] at sf
  walk_at "go"
  exact (q1 H2 e2).1 sf
end
end K3
end K1_part
section K2_part
set_option Elab.async false
set_option linter.all false
set_option maxRecDepth 100000
set_option maxHeartbeats 1000000
set_option pp.deepTerms.threshold 5
open PySem PySem.Spec PyProof.Rows L2
/-- go on as far as nothing is open -/
local macro_rules | `(tactic| walk_at "go") => `(tactic| repeat (first
  | with_reducible refine w_seq ?_ | with_reducible refine w_next ?_ | with_reducible refine w_set ?_ | with_reducible refine w_drop ?_ | with_reducible refine w_ret ?_ | with_reducible refine w_retN ?_
  | with_reducible refine w_if ?_ | ((with_reducible refine' w_var ?hv ?_); (case hv => exact rfl)) | with_reducible refine w_c ?_ | with_reducible refine w_nil ?_ | with_reducible refine w_cons ?_ | with_reducible refine w_op ?_ | with_reducible refine w_un ?_
  | with_reducible refine w_test ?_ | with_reducible refine w_tB ?_ | with_reducible refine w_not ?_ | with_reducible refine w_and ?_ | with_reducible refine w_or ?_ | with_reducible refine w_bl ?_
  | with_reducible refine w_andV ?_ | with_reducible refine w_orV ?_ | with_reducible refine w_notV ?_ | with_reducible refine w_ifE ?_ | with_reducible refine w_chain ?_ | with_reducible refine w_i0 ?_
  | with_reducible refine w_call ?_ | with_reducible refine w_callS ?_ | with_reducible refine w_cB ?_ | with_reducible refine w_tup ?_ | with_reducible refine w_lst ?_ | with_reducible refine w_fldV ?_
  | with_reducible refine w_neF ?_ | with_reducible refine w_neT ?_ | with_reducible refine w_notN ?_ | with_reducible refine w_isN ?_ | with_reducible refine w_gname ?_ | with_reducible refine w_gsub ?_ | with_reducible refine w_asg ?_ | with_reducible refine w_sl ?_ | with_reducible refine w_noP ?_ | with_reducible refine w_int1 ?_ | with_reducible refine w_part ?_ | with_reducible refine w_yes ?_ | with_reducible refine w_nT ?_ | with_reducible refine w_nF ?_ | with_reducible refine w_iteT ?_ | with_reducible refine w_iteF ?_))
namespace K3
/-! ### the greatest first: one after another -/
def lexP (a b : Nat × Nat) : Prop := a.1 < b.1 ∨ (a.1 = b.1 ∧ a.2 < b.2)
theorem rowCells_lex (n r : Nat) : (rowCells n r).Pairwise lexP := by
  unfold rowCells
  refine List.pairwise_map.mpr (List.pairwise_lt_range.imp fun h => .inr ⟨rfl, h⟩)
theorem cells_lex : ∀ m n : Nat, (cellsOf m n).Pairwise lexP
  | 0, n => by
    have : cellsOf 0 n = [] := by unfold cellsOf; simp
    rw [this]
    exact .nil
  | m + 1, n => by
    rw [cellsOf_succ]
    refine List.pairwise_append.mpr ⟨cells_lex m n, rowCells_lex n m, fun a ha b hb => .inl ?_⟩
    have h1 := (cells_mem.mp ha).1
    unfold rowCells at hb
    obtain ⟨j, _, rfl⟩ := List.mem_map.mp hb
    exact h1
theorem drop_lex (m n : Nat) : (cellsOf m n).dropLast.Pairwise lexP := (cells_lex m n).sublist (List.dropLast_sublist _)
theorem ord_mem {t : List (List Int)} {cs : List (Nat × Nat)} {k : Nat × Nat} : k ∈ ordF t cs ↔ k ∈ cs := (List.mergeSort_perm _ _).mem_iff
theorem ord_srt {t : List (List Int)} {cs : List (Nat × Nat)} : (ordF t cs).Pairwise fun a b => lex3 (keyF t a) (keyF t b) := by
  have srt : (ordF t cs).Pairwise fun a b => decide (lex3 (keyF t a) (keyF t b)) = true := List.pairwise_mergeSort (le := fun a b => decide (lex3 (keyF t a) (keyF t b))) (fun a b c h1 h2 => decide_eq_true (lex3_trans (of_decide_eq_true h1) (of_decide_eq_true h2))) (fun a b => by
        rcases lex3_total (keyF t a) (keyF t b) with h | h
        · rw [decide_eq_true h]; rfl
        · rw [decide_eq_true h, Bool.or_true]) cs
  exact srt.imp fun h => of_decide_eq_true h
theorem ord_nil {t : List (List Int)} : ordF t [] = [] := by
  have : ordF t [] = [] := (List.mergeSort_perm [] fun a b => decide (lex3 (keyF t a) (keyF t b))).eq_nil
  exact this
theorem ord_cons {t : List (List Int)} {rest rest' fl : List (Nat × Nat)} {c : Nat × Nat} {gr : Int} (pm : rest.Perm (c :: rest')) (lx : rest.Pairwise lexP) (mx : ∀ k ∈ rest, at2 t k.1 k.2 ≤ gr) (hf : rest.filter (fun k => decide (at2 t k.1 k.2 = gr)) = c :: fl) : ordF t rest = c :: ordF t rest' := by
  refine (ord_one (((List.mergeSort_perm rest' _).cons c).trans pm.symm) (List.pairwise_cons.mpr ⟨fun k hk => ?_, ord_srt⟩)).symm
  have hc : c ∈ rest.filter (fun k => decide (at2 t k.1 k.2 = gr)) := by rw [hf]; exact List.mem_cons_self ..
  obtain ⟨c1, c2⟩ := List.mem_filter.mp hc
  have c2 := of_decide_eq_true c2
  have kr : k ∈ rest := pm.mem_iff.mpr (List.mem_cons_of_mem _ (ord_mem.mp hk))
  have k1 := mx k kr
  unfold lex3 keyF
  dsimp only
  by_cases e : at2 t k.1 k.2 = gr
  · have kf : k ∈ rest.filter (fun k => decide (at2 t k.1 k.2 = gr)) := List.mem_filter.mpr ⟨kr, decide_eq_true e⟩
    rw [hf] at kf
    have lf : (c :: fl).Pairwise lexP := by rw [← hf]; exact lx.filter _
    rcases List.mem_cons.mp kf with e2 | e2
    · rw [e2]
      omega
    · have := (List.pairwise_cons.mp lf).1 k e2
      unfold lexP at this
      omega
  · omega
/-! ### what is told of a grid -/
def OutAt (H : Hp) (v : V) (r : Option (Nat × Nat)) (hs : List (Nat × Nat)) : Prop := ∃ a, v = .ref a ∧ ((r = none ∧ ∃ p ws, H a = some (.tup [.str ("told" : Str), .ref p]) ∧ H p = some (.lst ws) ∧ Paired (CellAt H) ws hs) ∨ ∃ c, r = some c ∧ ∃ x, H a = some (.tup [.str ("unsafe" : Str), x]) ∧ CellAt H x c)
open SLam LamX in
theorem OutAt.ext {H H' : Hp} (e : ExtN H H') {v : V} {r : Option (Nat × Nat)} {hs : List (Nat × Nat)} (h : OutAt H v r hs) : OutAt H' v r hs := by
  obtain ⟨a, h1, h | h⟩ := h
  · obtain ⟨h2, p, ws, h3, h4, h5⟩ := h
    exact ⟨a, h1, .inl ⟨h2, p, ws, e _ _ h3 (fun ps z => by cases z), e _ _ h4 (fun ps z => by cases z), L2.Paired.mapP h5 fun _ _ z => CellAt.extn e z⟩⟩
  · obtain ⟨c, h2, x, h3, h4⟩ := h
    exact ⟨a, h1, .inr ⟨c, h2, x, e _ _ h3 (fun ps z => by cases z), h4.extn e⟩⟩
open SLam LamX in
theorem OutAt.same {H H' : Hp} (e : Same H H') {v : V} {r : Option (Nat × Nat)} {hs : List (Nat × Nat)} (h : OutAt H v r hs) : OutAt H' v r hs := h.ext (ExtN.of e)
def outD : Option (Nat × Nat) → List (Nat × Nat) → PyData
  | none, hs => .tuple [.str ("told" : Str), .list (hs.map cellD)]
  | some c, _ => .tuple [.str ("unsafe" : Str), cellD c]
theorem OutAt.dp {K : PySem.W.Frag} {H : Hp} {v : V} {r : Option (Nat × Nat)} {hs : List (Nat × Nat)} (h : OutAt H v r hs) : Dp K H v (outD r hs) := by
  obtain ⟨a, rfl, h | h⟩ := h
  · obtain ⟨rfl, p, ws, h3, h4, h5⟩ := h
    exact Dp.tup (SqT.of h3) (.cons (.str _) (.cons (Dp.lst (SqL.of h4) (cells_dp h5)) .nil))
  · obtain ⟨c, rfl, x, h3, h4⟩ := h
    exact Dp.tup (SqT.of h3) (.cons (.str _) (.cons (cell_dp h4) .nil))
theorem plain_cell (c : Nat × Nat) : (cellD c).plain = true ∧ (cellD c).depth ≤ 2 := by
  unfold cellD
  simp [PyData.plain, PyData.plainAll, PyData.depth, PyData.depthAll]
theorem plain_cells : ∀ hs : List (Nat × Nat), PyData.plainAll (hs.map cellD) = true ∧ PyData.depthAll (hs.map cellD) ≤ 2
  | [] => by simp [PyData.plainAll, PyData.depthAll]
  | c :: hs => by
    obtain ⟨a, b⟩ := plain_cells hs
    obtain ⟨c1, c2⟩ := plain_cell c
    simp only [List.map_cons, PyData.plainAll, PyData.depthAll]
    exact ⟨by rw [a, c1]; rfl, by omega⟩
theorem out_lay (r : Option (Nat × Nat)) (hs : List (Nat × Nat)) : (outD r hs).canLay0 = true ∧ (outD r hs).depth ≤ 5 := by
  cases r with
  | none =>
    obtain ⟨b1, b2⟩ := lay_cells hs
    unfold outD
    simp only [PyData.canLay0, PyData.canLayAll0, PyData.depth, PyData.depthAll, b1]
    have := (plain_cells hs).2
    exact ⟨by decide +kernel, by omega⟩
  | some c =>
    unfold outD cellD
    simp only [PyData.canLay0, PyData.canLayAll0, PyData.depth, PyData.depthAll]
    exact ⟨by decide +kernel, by omega⟩
theorem out_shaped (r : Option (Nat × Nat)) (hs : List (Nat × Nat)) : SeqAt.shaped (outD r hs) = true := by
  obtain ⟨a, b⟩ := out_lay r hs
  unfold SeqAt.shaped
  rw [a, decide_eq_true (by omega : (outD r hs).depth ≤ 64)]
  rfl
theorem out_eqv (r : Option (Nat × Nat)) (hs : List (Nat × Nat)) : PyData.eqv (outD r hs) (outD r hs) = true := SeqAt.eqv_refl _ (out_lay r hs).1
theorem place_of {hs : List (Nat × Nat)} {c : Nat × Nat} (h : c ∈ hs) : ∃ j, SeqAt.dataPlace (hs.map cellD) (cellD c) = some j ∧ hs[j]? = some c := by
  unfold SeqAt.dataPlace
  obtain ⟨j, hj⟩ : ∃ j, (hs.map cellD).findIdx? (fun y => PyData.eqv y (cellD c)) = some j := by
    cases q : (hs.map cellD).findIdx? (fun y => PyData.eqv y (cellD c)) with
    | some j => exact ⟨j, rfl⟩
    | none =>
      have := List.findIdx?_eq_none_iff.mp q (cellD c) (List.mem_map.mpr ⟨c, h, rfl⟩)
      rw [cell_eqv, decide_eq_true rfl] at this
      cases this
  refine ⟨j, hj, ?_⟩
  obtain ⟨h1, h2, _⟩ := List.findIdx?_eq_some_iff_getElem.mp hj
  rw [List.getElem_map, cell_eqv] at h2
  rw [List.getElem?_eq_getElem (by simpa using h1), of_decide_eq_true h2]
theorem erase_paired {α β : Type} {F : α → β → Prop} : ∀ {xs : List α} {ys : List β} (j : Nat), Paired F xs ys → Paired F (xs.eraseIdx j) (ys.eraseIdx j)
  | _, _, _, .nil => by simp; exact .nil
  | _, _, 0, .cons _ t => by simpa using t
  | _, _, j + 1, .cons h t => by
    rw [List.eraseIdx_cons_succ, List.eraseIdx_cons_succ]
    exact .cons h (erase_paired j t)
theorem erase_perm : ∀ {l : List (Nat × Nat)} {j : Nat} {c : Nat × Nat}, l[j]? = some c → l.Perm (c :: l.eraseIdx j)
  | [], j, c, h => by simp at h
  | x :: l, 0, c, h => by
    have e : x = c := by simpa using h
    subst e
    simp
  | x :: l, j + 1, c, h => by
    have h : l[j]? = some c := by simpa using h
    rw [List.eraseIdx_cons_succ]
    exact ((erase_perm h).cons x).trans (List.Perm.swap ..)
theorem paired_int : ∀ {zs : List V} {xs : List Int}, Paired (fun v (x : Int) => v = V.int x) zs xs → zs = xs.map V.int
  | _, _, .nil => rfl
  | _, _, .cons h t => by rw [h, paired_int t]; rfl
end K3
end K2_part
section K3_part
set_option Elab.async false
set_option linter.all false
set_option maxRecDepth 100000
set_option maxHeartbeats 1000000
set_option pp.deepTerms.threshold 5
open PySem PySem.Spec PyProof.Rows L2
/-- go on as far as nothing is open -/
local macro_rules | `(tactic| walk_at "go") => `(tactic| repeat (first
  | with_reducible refine w_seq ?_ | with_reducible refine w_next ?_ | with_reducible refine w_set ?_ | with_reducible refine w_drop ?_ | with_reducible refine w_ret ?_ | with_reducible refine w_retN ?_
  | with_reducible refine w_if ?_ | ((with_reducible refine' w_var ?hv ?_); (case hv => exact rfl)) | with_reducible refine w_c ?_ | with_reducible refine w_nil ?_ | with_reducible refine w_cons ?_ | with_reducible refine w_op ?_ | with_reducible refine w_un ?_
  | with_reducible refine w_test ?_ | with_reducible refine w_tB ?_ | with_reducible refine w_not ?_ | with_reducible refine w_and ?_ | with_reducible refine w_or ?_ | with_reducible refine w_bl ?_
  | with_reducible refine w_andV ?_ | with_reducible refine w_orV ?_ | with_reducible refine w_notV ?_ | with_reducible refine w_ifE ?_ | with_reducible refine w_chain ?_ | with_reducible refine w_i0 ?_
  | with_reducible refine w_call ?_ | with_reducible refine w_callS ?_ | with_reducible refine w_cB ?_ | with_reducible refine w_tup ?_ | with_reducible refine w_lst ?_ | with_reducible refine w_fldV ?_
  | with_reducible refine w_neF ?_ | with_reducible refine w_neT ?_ | with_reducible refine w_notN ?_ | with_reducible refine w_isN ?_ | with_reducible refine w_gname ?_ | with_reducible refine w_gsub ?_ | with_reducible refine w_asg ?_ | with_reducible refine w_sl ?_ | with_reducible refine w_noP ?_ | with_reducible refine w_int1 ?_ | with_reducible refine w_part ?_ | with_reducible refine w_yes ?_ | with_reducible refine w_nT ?_ | with_reducible refine w_nF ?_ | with_reducible refine w_iteT ?_ | with_reducible refine w_iteF ?_))
namespace K3
open SLam LamX
def spLDue (K : PySem.W.Frag) : Sp := fun vs H Q _ => ∃ (g : Addr) (few width : Int) (rs : List Addr) (t : List (List Int)) (m n : Nat), vs = [.ref g, .int few, .int width] ∧ Tab H g rs t ∧ Grid t m n ∧ m ≤ 7 ∧ n ≤ 7 ∧ (cellsOf m n).dropLast.length ≤ 60 ∧
  ∀ H' v, Same H H' → OutAt H' v (firstF t m n (cellsOf m n).dropLast (secretL t m n few) width) (hidF t m n few width) → Q v H'
/-- the while loop's state -/
def DI (g sl : Addr) (few width : Int) (t : List (List Int)) (m n : Nat) (cs ss : List (Nat × Nat)) (H2 : Hp) (mm : Nat) (σ : L2.St) (H' : Hp) : Prop :=
  ∃ (ph pr : Addr) (wh wr : List V) (hi rest os : List (Nat × Nat)) (o6 o7 o8 o9 o10 o11 : Option V), σ = [some (.ref g), some (.int few), some (.int width), some (.ref ph), some .non, some (.ref pr), o6, o7, o8, o9, o10, o11] ∧ Same H2 H' ∧ H2 pr = none ∧ H' pr = some (.lst wr) ∧ Paired (CellAt H') wr rest ∧ rest.length = mm ∧ mm ≤ 60 ∧ rest.Pairwise lexP ∧ (∀ k ∈ rest, k ∈ cs) ∧
    ordF t cs = os ++ ordF t rest ∧ H' ph = some (.lst wh) ∧ ph ≠ pr ∧ Paired (CellAt H') wh hi ∧ (∀ k ∈ hi, k ∈ cs) ∧ hi.length ≤ 60 ∧ os.foldl (stepF t m n ss width) cs = hi
section
variable {P : Program} {w : World} {K : PySem.W.Frag} {mg : Str → Option Value} {base : Heap}
theorem sc_due : FnScope ["_law_grid", "_law_scarce", "_law_span", "_law_hidden_here", "_law_near", "_law_rest", "_law_greatest", "_law_place", "_law_fewer", "_law_one", "_law_row", "_law_column"] ["_law_grid", "_law_scarce", "_law_span"] (defScope s__law_due) := ⟨rfl, rfl, rfl, by decide +kernel, rfl, by decide +kernel, by decide +kernel⟩
theorem ok_due (T : Tx K mg) : Ok P w K mg base 10 (He.ga K "_law_due") ["_law_grid", "_law_scarce", "_law_span"] (spLDue K) := by
  obtain ⟨fd, F⟩ := T.f__law_due
  have O_law_first_near := ok_first_near (P := P) (w := w) (base := base) T
  have O_law_secret := ok_secret (P := P) (w := w) (base := base) T
  have O_law_cells := ok_cells (P := P) (w := w) (base := base) T
  refine ⟨fd, F.ok (k := 9) sc_due (fun vs H Q E h => ?_) (fun cdv A outer s_ H vs Q E hr h => ?_), F.bindsN fun _ _ _ _ _ _ us hl => match us, hl with | [_, _, _], _ => rfl, F.kp⟩
  · obtain ⟨g, few, width, rs, t, m, n, rfl, ht, gt, m7, n7, l60, q⟩ := h
    rfl
  obtain ⟨g, few, width, rs, t, m, n, rfl, ht, gt, m7, n7, l60, q⟩ := h
  have hu65 := K3.Room.units65 hr
  have hu64 := Nat.lt_of_succ_lt hu65
  have hu0 := Nat.lt_of_le_of_lt (Nat.le_add_right _ 65) hu65
  have hu1 := Nat.lt_of_le_of_lt (Nat.add_le_add_left (show 1 ≤ 65 by decide) _) hu65
  have r_law_first_near : Room 9 _ := hr.mono (by decide)
  have r_law_secret : Room 2 _ := hr.mono (by decide)
  have r_law_cells : Room 1 _ := hr.mono (by decide)
  refine ⟨_, pss_cons (ps_set (i := 3) sc_due.nd rfl (Or.inl rfl) (pe_f O_law_cells r_law_cells T.g__law_cells (pa_cons (pv 0) pa_nil)))
      (pss_cons (ps_set (i := 4) sc_due.nd rfl (Or.inl rfl) (pe_f O_law_first_near r_law_first_near T.g__law_first_near (pa_cons (pv 0) (pa_cons (pv 3) (pa_cons (pv 1) (pa_cons (pv 2) pa_nil))))))
      (pss_cons (ps_if (pt_cmp (pc_notN (pv 4))) (pss_one (ps_ret (pe_tup (pa_cons pe_str (pa_cons (pv 4) pa_nil))))) pss_nil)
      (pss_cons (ps_set (i := 5) sc_due.nd rfl (Or.inl rfl) (pe_callTy call_list_of (by rfl) T.z_list (by decide +kernel) (pa_cons (pv 3) pa_nil)))
      (pss_cons (ps_while (passes_of rfl) (pt_cmpR (op_neE hu0) (pv 5) (pe_lst pa_nil) (nomark _)) (pss_cons (ps_set (i := 6) sc_due.nd rfl (Or.inr rfl) (pe_callB (cr_max (by rfl)) (by rfl) T.z_max (by decide +kernel) (pa_cons (by exact pe_lc (own := [("_law_row", 10), ("_law_column", 11)]) (g := gTup K 2 (gCons (gName 10) (gCons (gName 11) gNil))) (tt := tYes) (te := (tOp (rIxL K) (tOp (rIxL K) (tVar 0) (tVar 10)) (tVar 11))) (by rfl) sc_due.nd (pi_list (pv 5)) (blkOk_by (own := [("_law_row", 10), ("_law_column", 11)]) (N := ["_law_grid", "_law_scarce", "_law_span", "_law_hidden_here", "_law_near", "_law_rest", "_law_greatest", "_law_place", "_law_fewer", "_law_one", "_law_row", "_law_column"]) (sc := defScope s__law_due) (by decide +kernel)) (fun _ _ _ _ _ => (pg_tup (by rfl) (pgs_cons (pg_name (i := 10) sc_due.nd rfl (Or.inl rfl)) (pgs_cons (pg_name (i := 11) sc_due.nd rfl (Or.inl rfl)) pgs_nil)))) (fun _ _ _ _ _ => pts_nil) (fun _ _ _ _ _ => (pe_ix ix_list (pe_ix ix_list (pv 0) (pv 10) (fun _ _ => rfl)) (pv 11) (fun _ _ => rfl)))) pa_nil)))
      (pss_cons (ps_set (i := 7) sc_due.nd rfl (Or.inr rfl) (pe_ix ix_list (by exact pe_lc (own := [("_law_one", 9)]) (g := gName 9) (tt := (tTest (tOp rEq (tOp (rIxL K) (tOp (rIxL K) (tVar 0) (tOp (rIxT K) (tVar 9) (tC (.int 0)))) (tOp (rIxT K) (tVar 9) (tC (.int 1)))) (tVar 6)))) (te := (tVar 9)) (by rfl) sc_due.nd (pi_list (pv 5)) (blkOk_by (own := [("_law_one", 9)]) (N := ["_law_grid", "_law_scarce", "_law_span", "_law_hidden_here", "_law_near", "_law_rest", "_law_greatest", "_law_place", "_law_fewer", "_law_one", "_law_row", "_law_column"]) (sc := defScope s__law_due) (by decide +kernel)) (fun _ _ _ _ _ => (pg_name (i := 9) sc_due.nd rfl (Or.inl rfl))) (fun _ _ _ _ _ => (pts_one (pt_cmpR op_eq (pe_ix ix_list (pe_ix ix_list (pv 0) (pe_ix ix_tup (pv 9) pe_int (fun _ _ => rfl)) (fun _ _ => rfl)) (pe_ix ix_tup (pv 9) pe_int (fun _ _ => rfl)) (fun _ _ => rfl)) (pv 6) (nomark _)))) (fun _ _ _ _ _ => (pv 9))) pe_int (fun _ _ => rfl)))
      (pss_cons (ps_expr (pe_bm PySem.F.plainAttrs_list PySem.F.slot_list_remove PySem.F.type_list_remove (mt_remD hu65) (pv 5) (pa_cons (pv 7) pa_nil)))
      (pss_cons (by exact ps_setLc (i := 8) (own := [("_law_one", 9)]) (g := gName 9) (tt := (tTest (tOp (rNeD K) (tVar 9) (tVar 7)))) (te := (tVar 9)) (by rfl) sc_due.nd rfl rfl (by rfl) (pi_list (pv 3)) (blkOk_by (own := [("_law_one", 9)]) (N := ["_law_grid", "_law_scarce", "_law_span", "_law_hidden_here", "_law_near", "_law_rest", "_law_greatest", "_law_place", "_law_fewer", "_law_one", "_law_row", "_law_column"]) (sc := defScope s__law_due) (by decide +kernel)) (fun _ _ _ _ _ => (pg_name (i := 9) sc_due.nd rfl (Or.inl rfl))) (fun _ _ _ _ _ => (pts_one (pt_cmpR (op_neD hu64) (pv 9) (pv 7) (nomark _)))) (fun _ _ _ _ _ => (pv 9)))
      (pss_one (ps_if (pw_and (pt_cmpR (op_notInC hu65) (pv 7) (pe_f O_law_secret r_law_secret T.g__law_secret (pa_cons (pv 0) (pa_cons (pv 1) pa_nil))) (by rfl)) (pw_and1 (pt_cmp (pc_isN (pe_f O_law_first_near r_law_first_near T.g__law_first_near (pa_cons (pv 0) (pa_cons (pv 8) (pa_cons (pv 1) (pa_cons (pv 2) pa_nil))))))))).pt (pss_one (ps_set (i := 3) sc_due.nd rfl (Or.inl rfl) (pv 8))) pss_nil)))))))
      (pss_one (ps_ret (pe_tup (pa_cons pe_str (pa_cons (pv 3) pa_nil))))))))), ?_⟩
  have hR := gt.rect
  have m1 := gt.m1
  have n1 := gt.n1
  have m60 : m ≤ 60 := by omega
  have n60 : n ≤ 60 := by omega
  have m10 : m ≤ 10 := by omega
  have n10 : n ≤ 10 := by omega
  have dl := drop_lex m n
  unfold hidF at q
  have inb : ∀ k ∈ (cellsOf m n).dropLast, k.1 < m ∧ k.2 < n := fun k hk => cells_mem.mp (List.dropLast_subset _ hk)
  have hidc : ∀ {H : Hp} {p : Addr} {ws : List V} {hs : List (Nat × Nat)}, H p = some (.lst ws) → Paired (CellAt H) ws hs → (∀ k ∈ hs, k ∈ (cellsOf m n).dropLast) → hs.length ≤ 60 → HidIn K H (.ref p) hs m n := fun h1 h2 h3 h4 => ⟨_, _, rfl, .inl (SqL.of h1), h2, h3, h4⟩
  have insub : ∀ k ∈ secretL t m n few, k ∈ (cellsOf m n).dropLast := fun k hk => (List.mem_filter.mp hk).1
  have lss : (secretL t m n few).length ≤ 60 := Nat.le_trans (List.length_filter_le _ _) l60
  walk_at "go"
  refine ⟨g, rs, t, m, n, rfl, ht, hR, m1, m60, n60, fun ph H1 wh e1 ph0 hh hw => ?_⟩
  walk_at "go"
  refine ⟨g, .ref ph, few, width, rs, t, m, n, _, rfl, ht.same e1, gt, m10, n10, hidc hh hw (fun _ h => h) l60, fun H2 e2 => ⟨fun sf => ?_, fun c sf v hv => ?_⟩⟩
  case refine_2 =>
    obtain ⟨va, rfl, hva⟩ := id hv
    walk_at "go"
    rw [decide_eq_false ((fun z => nomatch z) : ¬ V.ref va = V.non)]
    walk_at "go"
    refine ⟨(by show 2 ≤ sizeLine; decide), fun p hp => ?_⟩
    have e3 := Same.new hp (.tup [V.str ("unsafe" : Str), V.ref va])
    exact q _ _ ((e1.trans e2).trans e3) ⟨p, rfl, .inr ⟨c, sf, _, upd_same, hv.same e3⟩⟩
  have e12 := e1.trans e2
  have ht2 := ht.same e12
  have hh2 := e2 _ _ hh
  have hw2 := L2.Paired.mapP hw fun _ _ z => CellAt.same e2 z
  have q2 : ∀ H' v, Same H2 H' → OutAt H' v none (List.foldl (stepF t m n (secretL t m n few) width) (cellsOf m n).dropLast (ordF t (cellsOf m n).dropLast)) → Q v H' := fun H' v e o => q H' v (e12.trans e) (by rw [sf]; exact o)
  clear q ht hh hw e1 e2 e12 ph0 sf
  have hsecr : ∀ {H' : Hp}, Same H2 H' → Tab H' g rs t := fun e => ht2.same e
  generalize hC : (cellsOf m n).dropLast = cs at l60 inb hidc insub q2 hw2 dl
  walk_at "go"
  rw [decide_eq_true (rfl : V.non = V.non)]
  walk_at "go"
  refine ⟨ph, _, rfl, .inl (SqL.of hh2), fun pr hpr => ?_⟩
  have e3 := Same.new hpr (.lst wh)
  walk_at "go"
  generalize hS : secretL t m n few = ss at q2 insub lss
  refine ⟨DI g ph few width t m n cs ss H2, ⟨cs.length, ph, pr, wh, wh, cs, cs, [], _, _, _, _, _, _, rfl, e3, hpr, upd_same, L2.Paired.mapP hw2 fun _ _ z => CellAt.same e3 z, rfl, l60, dl, fun _ h => h, rfl, e3 _ _ hh2, (fun z => by rw [z, hpr] at hh2; cases hh2), L2.Paired.mapP hw2 fun _ _ z => CellAt.same e3 z, fun _ h => h, l60, rfl⟩, ?_⟩
  clear e3 hpr dl hh2 hw2
  rintro mm σ H3 ⟨ph, pr, wh, wr, hi, rest, os, o6, o7, o8, o9, o10, o11, rfl, e3, pr0, hpr, hwr, lr, mm60, lx, sub, hos, hph, hne, hwh, subh, lh, fold⟩
  walk_at "go"
  refine ⟨Nat.zero_le _, fun p0 hp0 => ?_⟩
  have e4 := Same.new hp0 (.lst [])
  refine ⟨pr, p0, wr, [], rfl, rfl, SqL.of (e4 _ _ hpr), SqL.of upd_same, .inr (.inl rfl), ?_⟩
  generalize upd H3 p0 (.lst []) = H4 at e4 ⊢
  have hwr4 := L2.Paired.mapP hwr fun _ _ z => CellAt.same e4 z
  have hwh4 := L2.Paired.mapP hwh fun _ _ z => CellAt.same e4 z
  have hpr4 := e4 _ _ hpr
  have hph4 := e4 _ _ hph
  have e24 := e3.trans e4
  have lwr : wr.length = rest.length := hwr.length
  clear e3 e4 hpr hph hwr hwh hp0
  by_cases hz : wr = []
  · rw [decide_eq_true (⟨hz, rfl⟩ : wr = [] ∧ ([] : List V) = [])]
    walk_at "go"
    refine ⟨(by show 2 ≤ sizeLine; decide), fun p hp => ?_⟩
    have e5 := Same.new hp (.tup [V.str ("told" : Str), V.ref ph])
    have r0 : rest = [] := List.length_eq_zero_iff.mp (by rw [← lwr, hz]; rfl)
    subst r0
    rw [ord_nil, List.append_nil] at hos
    refine q2 _ _ (e24.trans e5) ⟨p, rfl, .inl ⟨rfl, ph, wh, upd_same, e5 _ _ hph4, ?_⟩⟩
    rw [hos, fold]
    exact L2.Paired.mapP hwh4 fun _ _ z => CellAt.same e5 z
  rw [decide_eq_false (fun z => hz z.1 : ¬ (wr = [] ∧ ([] : List V) = []))]
  walk_at "go"
  refine ⟨fun σ' H' => ∃ m', m' < mm ∧ DI g ph few width t m n cs ss H2 m' σ' H', fun _ _ h => h, ?_⟩
  have ht4 := ht2.same e24
  have at_ : ∀ {H' : Hp} {a : Addr} {k : Nat × Nat}, Tab H' g rs t → k ∈ cs → ∃ ar r, rs[k.1]? = some ar ∧ t[k.1]? = some r ∧ RowAt H' ar r ∧ k.2 < r.length := fun h hk => by
    obtain ⟨k1, k2⟩ := inb _ hk
    obtain ⟨ar, r, har, hr, hxr⟩ := row_of h (i := _) (by rw [hR.1]; exact k1)
    exact ⟨ar, r, har, hr, hxr, by rw [hR.2 r (List.mem_of_getElem? hr)]; exact k2⟩
  walk_at "go"
  refine lcAt_open (list_open ?_)
  walk_at "go"
  refine ⟨pr, rfl, ⟨_, SqL.of hpr4⟩, fun D hD => ?_⟩
  refine items_gen (F := CellAt) (G := fun _ v (x : Int) => v = V.int x) (fun e h => CellAt.same e h) (fun _ h => h) (fun _ => true) (fun c => at2 t c.1 c.2) (SqL.of hpr4) hwr4 hD (by omega) ?_ ?_
  · rintro v c H5 e5 hc ⟨a, rfl, ha⟩ R' _ r2
    obtain ⟨ar, r, har, hr, hxr, lr2⟩ := at_ (a := a) (ht4.same e5) (sub c hc)
    refine w_gtup (SqT.of ha) rfl (w_gnn ⟨rfl, ?_⟩)
    walk_at "go"
    refine w_ixL (ht4.same e5).at_ (ref_at har) ?_
    walk_at "go"
    refine w_ixL hxr (at_getD lr2) ?_
    rw [← at2_of hr]
    exact r2 _ _ (Same.refl _) rfl rfl
  intro H5 z5 e5 hD5 hz5
  have hf : rest.filter (fun _ => true) = rest := List.filter_eq_self.mpr fun _ _ => rfl
  rw [hf] at hz5
  rw [paired_int hz5] at hD5
  have rne : rest ≠ [] := fun z => hz (List.length_eq_zero_iff.mp (by rw [lwr, z]; rfl))
  walk_at "go"
  refine ⟨D, _, rfl, SqL.of hD5, by rw [List.length_map]; exact List.length_pos_iff.mpr rne, fun gr gr1 gr2 => ?_⟩
  have e25 := e24.trans e5
  have hwr5 := L2.Paired.mapP hwr4 fun _ _ z => CellAt.same e5 z
  have hwh5 := L2.Paired.mapP hwh4 fun _ _ z => CellAt.same e5 z
  have hpr5 := e5 _ _ hpr4
  have hph5 := e5 _ _ hph4
  have mx : ∀ k ∈ rest, at2 t k.1 k.2 ≤ gr := fun k hk => gr2 _ (List.mem_map.mpr ⟨k, hk, rfl⟩)
  obtain ⟨c0, fl, hfl⟩ : ∃ c0 fl, rest.filter (fun k => decide (at2 t k.1 k.2 = gr)) = c0 :: fl := by
    obtain ⟨k, hk, e⟩ := List.mem_map.mp gr1
    have : k ∈ rest.filter (fun k => decide (at2 t k.1 k.2 = gr)) := List.mem_filter.mpr ⟨hk, decide_eq_true e⟩
    cases q : rest.filter (fun k => decide (at2 t k.1 k.2 = gr)) with
    | nil => rw [q] at this; cases this
    | cons c fl => exact ⟨c, fl, rfl⟩
  have ht5 := ht4.same e5
  clear gr1 gr2 hz5 hD5 hD hwr4 hwh4 hpr4 hph4 ht4 e5 e24
  walk_at "go"
  refine lcAt_open (list_open ?_)
  walk_at "go"
  refine ⟨pr, rfl, ⟨_, SqL.of hpr5⟩, fun D2 hD2 => ?_⟩
  refine items_gen (F := CellAt) (G := CellAt) (fun e h => CellAt.same e h) (fun e h => CellAt.tk e h) (fun k => decide (at2 t k.1 k.2 = gr)) (fun c => c) (SqL.of hpr5) hwr5 hD2 (by omega) ?_ ?_
  · rintro v c H6 e6 hc hv R' r1 r2
    obtain ⟨a, rfl, ha⟩ := id hv
    obtain ⟨ar, r, har, hr, hxr, lr2⟩ := at_ (a := a) (ht5.same e6) (sub c hc)
    walk_at "go"
    refine ⟨rfl, ?_⟩
    walk_at "go"
    refine w_ixT (SqT.of ha) rfl ?_
    walk_at "go"
    refine w_ixL (ht5.same e6).at_ (ref_at har) ?_
    walk_at "go"
    refine w_ixT (SqT.of ha) rfl ?_
    refine w_ixL hxr (at_getD lr2) ?_
    rw [← at2_of hr]
    walk_at "go"
    refine w_eqI ?_
    rw [decV]
    by_cases z : at2 t c.1 c.2 = gr
    · rw [decide_eq_true z]
      walk_at "go"
      exact r2 _ _ (Same.refl _) (decide_eq_true z) hv
    · rw [decide_eq_false z]
      walk_at "go"
      exact r1 _ (Same.refl _) (decide_eq_false z)
  intro H6 z6 e6 hD6 hz6
  rw [List.map_id', hfl] at hz6
  have c0r : c0 ∈ rest := (List.mem_filter.mp (show c0 ∈ rest.filter (fun k => decide (at2 t k.1 k.2 = gr)) by rw [hfl]; exact List.mem_cons_self ..)).1
  obtain ⟨v0, z6', rfl, hv0⟩ : ∃ v0 z', z6 = v0 :: z' ∧ CellAt H6 v0 c0 := by
    cases hz6 with
    | cons h t => exact ⟨_, _, rfl, h⟩
  walk_at "go"
  refine w_ixL hD6 (atI_nat (show (v0 :: z6')[0]? = some v0 from rfl)) ?_
  walk_at "go"
  obtain ⟨j, hj, hjc⟩ := place_of c0r
  have pm := erase_perm hjc
  obtain ⟨pl1, pl2⟩ := plain_cells rest
  obtain ⟨pc1, pc2⟩ := plain_cell c0
  have hpr6 := e6 _ _ hpr5
  have hwr6 := L2.Paired.mapP hwr5 fun _ _ z => CellAt.same e6 z
  refine ⟨_, rfl, .inl ⟨rfl, _, SqL.of hpr6⟩, ?_⟩
  walk_at "go"
  refine ⟨pr, wr, v0, rest.map cellD, cellD c0, j, rfl, rfl, hpr6, cells_dp hwr6, cell_dp hv0, pl1, pc1, by omega, by omega, hj, ?_⟩
  have e26 := e25.trans e6
  have tk7 : Tk H6 (upd H6 pr (.lst (wr.eraseIdx j))) := Tk.upd hpr6 fun _ e => by cases e
  have e27 : Same H2 (upd H6 pr (.lst (wr.eraseIdx j))) := e26.mut pr0
  have hpr7 : (upd H6 pr (.lst (wr.eraseIdx j))) pr = some (.lst (wr.eraseIdx j)) := upd_same
  have hph7 : (upd H6 pr (.lst (wr.eraseIdx j))) ph = some (.lst wh) := by rw [upd_ne hne]; exact e6 _ _ hph5
  have hwr7 := erase_paired j (L2.Paired.mapP hwr6 fun _ _ z => CellAt.tk tk7 z)
  have hwh7 := L2.Paired.mapP hwh5 fun _ _ z => CellAt.tk tk7 (CellAt.same e6 z)
  have hv7 := hv0.tk tk7
  generalize upd H6 pr (.lst (wr.eraseIdx j)) = H7 at e27 hpr7 hph7 hwr7 hwh7 hv7 ⊢
  clear tk7 e26 hwr6 hpr6 hv0 hD6 hz6 e6 hwr5 hwh5 hpr5 hph5 ht5 e25
  have oc := ord_cons pm lx mx hfl
  have os' : ordF t cs = (os ++ [c0]) ++ ordF t (rest.eraseIdx j) := by rw [hos, oc, List.append_assoc]; rfl
  have lr' : (rest.eraseIdx j).length < rest.length := by
    have := pm.length_eq
    rw [List.length_cons] at this
    omega
  have sub' : ∀ k ∈ rest.eraseIdx j, k ∈ cs := fun k hk => sub k (List.mem_of_mem_eraseIdx hk)
  have lx' : (rest.eraseIdx j).Pairwise lexP := lx.sublist (List.eraseIdx_sublist ..)
  have fold' : (os ++ [c0]).foldl (stepF t m n ss width) cs = stepF t m n ss width hi c0 := by rw [List.foldl_append, fold]; rfl
  have subo : ∀ k ∈ othersF hi c0, k ∈ cs := fun k hk => subh k (others_mem.mp hk).1
  have lo : (othersF hi c0).length ≤ 60 := Nat.le_trans (List.length_filter_le _ _) lh
  obtain ⟨c1, c2⟩ := inb c0 (sub c0 c0r)
  have lwh := hwh7.length
  walk_at "go"
  refine lcAt_open (list_open ?_)
  walk_at "go"
  refine ⟨ph, rfl, ⟨_, SqL.of hph7⟩, fun D3 hD3 => ?_⟩
  refine items_gen (F := CellAt) (G := CellAt) (fun e h => CellAt.same e h) (fun e h => CellAt.tk e h) (fun k => !decide (k = c0)) (fun c => c) (SqL.of hph7) hwh7 hD3 (by omega) ?_ ?_
  · intro v' c' H8 e8 hc' hv' R' r1 r2
    walk_at "go"
    refine ⟨rfl, ?_⟩
    walk_at "go"
    refine ⟨cellD c', cellD c0, cell_dp hv', cell_dp (hv7.same e8), cell_shaped _, cell_shaped _, ?_⟩
    rw [cell_eqv]
    by_cases z : c' = c0
    · rw [decide_eq_true z]
      walk_at "go"
      exact r1 _ (Same.refl _) (by rw [decide_eq_true z]; rfl)
    · rw [decide_eq_false z]
      walk_at "go"
      exact r2 _ _ (Same.refl _) (by rw [decide_eq_false z]; rfl) hv'
  intro H8 z8 e8 hD8 hz8
  rw [List.map_id'] at hz8
  have hz8 : Paired (CellAt H8) z8 (othersF hi c0) := hz8
  have e28 := e27.trans e8
  have Dpr : D3 ≠ pr := fun z => by rw [z, hpr7] at hD3; cases hD3
  walk_at "go"
  refine ⟨g, rs, t, m, n, few, rfl, hsecr e28, hR, m1, m60, n60, fun sl H9 us e9 sl0 hsl hus => ?_⟩
  rw [hS] at hus
  have e29 := e28.trans e9
  have e79 := e8.trans e9
  walk_at "go"
  refine ⟨sl, us, ss, c0, hv7.same e79, rfl, .inl (SqL.of hsl), hus, by omega, fun k hk => by have := inb k (insub k hk); omega, ⟨by omega, by omega⟩, ?_⟩
  walk_at "go"
  by_cases z1 : c0 ∈ ss
  · rw [decide_eq_true z1]
    walk_at "go"
    exact ⟨_, by omega, ph, pr, wh, _, hi, _, os ++ [c0], _, _, _, _, _, _, rfl, e29, pr0, e79 _ _ hpr7, L2.Paired.mapP hwr7 fun _ _ z => CellAt.same e79 z, rfl, by omega, lx', sub', os', e79 _ _ hph7, hne, L2.Paired.mapP hwh7 fun _ _ z => CellAt.same e79 z, subh, lh, by rw [fold']; unfold stepF; rw [if_neg fun z => z.1 z1]⟩
  rw [decide_eq_false z1]
  walk_at "go"
  refine ⟨g, .ref D3, few, width, rs, t, m, n, othersF hi c0, rfl, hsecr e29, gt, m10, n10, hidc (e9 _ _ hD8) (L2.Paired.mapP hz8 fun _ _ z => CellAt.same e9 z) subo lo, fun H10 e10 => ⟨fun sf2 => ?_, fun k2 sf2 v2 hv2 => ?_⟩⟩
  · rw [hS] at sf2
    walk_at "go"
    rw [decide_eq_true (rfl : V.non = V.non)]
    walk_at "go"
    have e710 := e79.trans e10
    exact ⟨_, by omega, D3, pr, z8, _, othersF hi c0, _, os ++ [c0], _, _, _, _, _, _, rfl, e29.trans e10, pr0, e710 _ _ hpr7, L2.Paired.mapP hwr7 fun _ _ z => CellAt.same e710 z, rfl, by omega, lx', sub', os', e10 _ _ (e9 _ _ hD8), Dpr, L2.Paired.mapP hz8 fun _ _ z => CellAt.same e10 (CellAt.same e9 z), subo, lo, by rw [fold']; unfold stepF; rw [if_pos ⟨z1, sf2⟩]⟩
  · rw [hS] at sf2
    obtain ⟨va, rfl, hva⟩ := id hv2
    walk_at "go"
    rw [decide_eq_false ((fun z => nomatch z) : ¬ V.ref va = V.non)]
    walk_at "go"
    have e710 := e79.trans e10
    exact ⟨_, by omega, ph, pr, wh, _, hi, _, os ++ [c0], _, _, _, _, _, _, rfl, e29.trans e10, pr0, e710 _ _ hpr7, L2.Paired.mapP hwr7 fun _ _ z => CellAt.same e710 z, rfl, by omega, lx', sub', os', e710 _ _ hph7, hne, L2.Paired.mapP hwh7 fun _ _ z => CellAt.same e710 z, subh, lh, by rw [fold']; unfold stepF; rw [if_neg fun z => by rw [sf2] at z; cases z.2]⟩
end
end K3
end K3_part
section K4_part
set_option Elab.async false
set_option linter.all false
set_option maxRecDepth 100000
set_option maxHeartbeats 1000000
set_option pp.deepTerms.threshold 5
open PySem PySem.Spec PyProof.Rows L2
/-- go on as far as nothing is open -/
local macro_rules | `(tactic| walk_at "go") => `(tactic| repeat (first
  | with_reducible refine w_seq ?_ | with_reducible refine w_next ?_ | with_reducible refine w_set ?_ | with_reducible refine w_drop ?_ | with_reducible refine w_ret ?_ | with_reducible refine w_retN ?_
  | with_reducible refine w_if ?_ | ((with_reducible refine' w_var ?hv ?_); (case hv => exact rfl)) | with_reducible refine w_c ?_ | with_reducible refine w_nil ?_ | with_reducible refine w_cons ?_ | with_reducible refine w_op ?_ | with_reducible refine w_un ?_
  | with_reducible refine w_test ?_ | with_reducible refine w_tB ?_ | with_reducible refine w_not ?_ | with_reducible refine w_and ?_ | with_reducible refine w_or ?_ | with_reducible refine w_bl ?_
  | with_reducible refine w_andV ?_ | with_reducible refine w_orV ?_ | with_reducible refine w_notV ?_ | with_reducible refine w_ifE ?_ | with_reducible refine w_chain ?_ | with_reducible refine w_i0 ?_
  | with_reducible refine w_call ?_ | with_reducible refine w_callS ?_ | with_reducible refine w_cB ?_ | with_reducible refine w_tup ?_ | with_reducible refine w_lst ?_ | with_reducible refine w_fldV ?_
  | with_reducible refine w_neF ?_ | with_reducible refine w_neT ?_ | with_reducible refine w_notN ?_ | with_reducible refine w_isN ?_ | with_reducible refine w_gname ?_ | with_reducible refine w_gsub ?_ | with_reducible refine w_asg ?_ | with_reducible refine w_sl ?_ | with_reducible refine w_noP ?_ | with_reducible refine w_int1 ?_ | with_reducible refine w_part ?_ | with_reducible refine w_yes ?_ | with_reducible refine w_nT ?_ | with_reducible refine w_nF ?_ | with_reducible refine w_iteT ?_ | with_reducible refine w_iteF ?_))
namespace K3
open SLam LamX
/-- the object of a caught error that has a dict -/
theorem inst_at {X : Cx} {a D dd : Addr} {oe : Obj} {pn pins : List (Addr × Obj)} {σ : L2.St} {H : Hp} {s : Shared} {fs : List (Str × V)} (hz : Zc (.ref D) (some dd) oe) (hf : ∃ vs, oe.data = .fields vs) (I : Inv (X.suite a ((a, oe) :: pn)) pins σ H s) (ed : H dd = some (.xd fs)) :
    ∃ od, PySem.W.InstAt s.heap a oe D (some od) ∧ (∀ n v, fs.lookup n = some v → ∃ u, PySem.W.lookIn n od = some (some u) ∧ RelV v u) := by
  have pin := (I.pin (a, oe) (List.mem_append_left _ List.mem_cons_self)).1
  obtain ⟨vs, dat⟩ := hf
  have obj : ObjOk X.prog X.w H s.heap dd (.xd fs) := I.hok dd _ ed
  obtain ⟨names, ns, rel⟩ := obj
  obtain ⟨od, at_, look_⟩ := lookIn_ns ns
  refine ⟨od, ⟨pin, hz.1, by unfold PySem.W.notCls; rw [dat] <;> rfl, by rw [hz.2]; exact at_⟩, fun n v hv => ?_⟩
  obtain ⟨u, hu, ru⟩ := RelO.some_of (v := v) (o := names n) (by rw [← hv]; exact rel n)
  exact ⟨u, by rw [look_, hu], ru⟩
def ErrD (K : PySem.W.Frag) (cls : Value) (d : Option Addr) (D : Addr) (H : Hp) (fs : List (Str × V)) : Prop := cls = .ref D ∧ ∃ dd, d = some dd ∧ H dd = some (.xd fs)
/-- e.n, e the caught error -/
def tXfA (K : PySem.W.Frag) (a : Addr) (cls : Value) (d : Option Addr) (n : Str) (te : TE) : TE := fun σ H Q => te σ H fun x H1 => ∃ (D : Addr) (fs : List (Str × V)) (v : V), x = .ref a ∧ ErrD K cls d D H1 fs ∧ XfC K D ∧ NoAttr K D n ∧ fs.lookup n = some v ∧ Q v H1
theorem pe_xfA {X : Cx} {a : Addr} {oe : Obj} {cls : Value} {d : Option Addr} {pn : List (Addr × Obj)} {e : Expr} {te : TE} {pos : Pos} {n : Str} (hz : Zc cls d oe) (hf : ∃ vs, oe.data = .fields vs) (he : PE (X.suite a ((a, oe) :: pn)) e te) (hb : attributeBase e n X.env (eval e X.env) = eval e X.env := by rfl) :
    PE (X.suite a ((a, oe) :: pn)) (.Attribute e n pos) (tXfA X.K a cls d n te) := ⟨fun pins s σ H Q I h => attr_of hb (thn (he.run pins s σ H _ I h) fun u s1 ⟨x, H1, J, rx, D, fs, v, ex, ⟨ecl, dd, edd, hxd⟩, xf, hno, hl, q⟩ => by
  subst ex ecl edd
  obtain rfl : u = Value.ref a := rx
  obtain ⟨od, at_, look_⟩ := inst_at hz hf J hxd
  obtain ⟨r, hr, rr⟩ := look_ n v hl
  exact HandSPX.exc_get J.kIn at_ xf.ga xf.gg xf.exC (PySem.W.findObj_own xf.hdC hno rfl hr) (handed_of rr) ⟨v, H1, J.tok _, rr, q⟩)⟩
def spLFound (PT : Addr) (K : PySem.W.Frag) : Sp := fun vs H Q _ => ∃ (g : Addr) (few width : Int) (rs : List Addr) (t : List (List Int)) (m n : Nat), vs = [.ref g, .int few, .int width] ∧ GT K H g rs t ∧ Grid t m n ∧ m ≤ 10 ∧ n ≤ 10 ∧ 2 ≤ few ∧ 1 ≤ width ∧ Tabs (lamT PT) H ∧
  ∀ H' v, ExtN H H' → Tabs (lamT PT) H' → OutAt H' v (firstF t m n (cellsOf m n).dropLast (secretL t m n few) width) (hidF t m n few width) → (∀ a p, v = .ref a → H' a = some (.tup [.str ("told" : Str), .ref p]) → Apart H p) → Q v H'
section
variable {P : Program} {w : World} {K : PySem.W.Frag} {mg : Str → Option Value} {base : Heap}
theorem sc_found : FnScope ["_law_grid", "_law_scarce", "_law_span", "_law_found_here", "e"] ["_law_grid", "_law_scarce", "_law_span"] (defScope s__law_found) := ⟨rfl, rfl, rfl, by decide +kernel, rfl, by decide +kernel, by decide +kernel⟩
theorem ok_found {ct PT : Addr} (T : Tx K mg) (B : Told K mg base "greatest_first" ct PT) : Ok P w K mg base 11 (He.ga K "_law_found") ["_law_grid", "_law_scarce", "_law_span"] (spLFound PT K) := by
  obtain ⟨fd, F⟩ := T.f__law_found
  have Ohidden_cells := ok_hidden_cells (P := P) (w := w) (base := base) T B
  refine ⟨fd, F.ok (k := 10) sc_found (fun vs H Q E h => ?_) (fun cdv A outer s_ H vs Q E hr h => ?_), F.bindsN fun _ _ _ _ _ _ us hl => match us, hl with | [_, _, _], _ => rfl, F.kp⟩
  · obtain ⟨g, few, width, rs, t, m, n, rfl, _⟩ := h
    rfl
  obtain ⟨g, few, width, rs, t, m, n, rfl, ht, gt, m10, n10, f2, w1, hT, q⟩ := h
  have rhidden_cells : Room 10 _ := hr
  refine ⟨_, pss_cons (ps_set (i := 3) sc_found.nd rfl (Or.inl rfl) pe_non)
      (pss_cons (ps_try_as (c := .ref (He.ga K "Unsafe")) (i := 4) (n := "e") (tb := fun W => tAsg (tTup (tCons (tC (.str "told")) (tCons (tCallNS 1 2 (spHidC PT K) (fun vs zs => vs ++ zs) (WE W) (tCons (tVar 0) tNil) (tCons (tVar 1) (tCons (tVar 2) tNil))) tNil))) (gName 3)) (ts := fun a cls d => tAsg (tTup (tCons (tC (.str "unsafe")) (tCons (tXfA K a cls d "cell" (tVar 4)) tNil))) (gName 3)) (Wout := fun _ _ _ _ => False) rfl rfl sc_found.nd rfl rfl ⟨rfl, by decide, Or.inl T.g_Unsafe⟩ (fun _ _ ⟨_, _, _, _, _, _, _, _, _, _, _, _, _, _, _, _, w⟩ => w.elim)
        (fun W pn xe tk _ => pss_one (ps_set (i := 3) sc_found.nd rfl (Or.inl rfl) (pe_tup (pa_cons pe_str (pa_cons (pe_fKS tk Ohidden_cells rhidden_cells T.g_hidden_cells (pa_cons (pv 0) pa_nil) (pk_cons (pv 1) (pk_cons (pv 2) pk_nil))) pa_nil)))))
        (fun a oe cls d pn hz hf => pss_one (ps_set (i := 3) sc_found.nd rfl (Or.inl rfl) (pe_tup (pa_cons pe_str (pa_cons (pe_xfA hz hf (pv 4)) pa_nil))))))
      (pss_one (ps_ret (pv 3)))), ?_⟩
  walk_at "go"
  refine w_callNS ?_
  walk_at "go"
  refine ⟨rfl, rfl, ?_⟩
  refine ⟨g, few, width, rs, t, m, n, rfl, ht, gt, m10, n10, f2, w1, hT, fun sf p H1 ws e1 t1 ap hp hw => ?_, fun c sf d H1 v e1 hd hv => ?_⟩
  · walk_at "go"
    refine ⟨(by show 2 ≤ sizeLine; decide), fun a ha => ?_⟩
    have e2 := Same.new ha (.tup [V.str ("told" : Str), V.ref p])
    walk_at "go"
    refine q _ _ (e1.trans (ExtN.of e2)) (t1.ext e2) ⟨a, rfl, .inl ⟨sf, p, ws, upd_same, e2 _ _ hp, L2.Paired.mapP hw fun _ _ z => CellAt.same e2 z⟩⟩ fun a' p' ea hh => ?_
    cases ea
    rw [upd_same] at hh
    injection hh with hh
    injection hh with hh
    injection hh with _ hh
    injection hh with hh _
    injection hh with hh
    exact hh ▸ ap
  · refine ⟨true, T.err.m, fun _ a ha => ?_, fun z => by cases z⟩
    walk_at "go"
    refine ⟨_, rfl, He.ga K "Unsafe", _, v, rfl, ⟨rfl, d, rfl, hd⟩, T.err.f, T.n_Unsafe_cell, by rw [List.lookup_cons, beq_self_eq_true], ?_⟩
    walk_at "go"
    refine ⟨(by show 2 ≤ sizeLine; decide), fun a2 ha2 => ?_⟩
    have e2 := Same.new ha2 (.tup [V.str ("unsafe" : Str), v])
    walk_at "go"
    refine q _ _ (ExtN.of (e1.trans e2)) (hT.ext (e1.trans e2)) ⟨a2, rfl, .inr ⟨c, sf, v, upd_same, hv.same e2⟩⟩ fun a' p' ea hh => ?_
    cases ea
    rw [upd_same] at hh
    injection hh with hh
    injection hh with hh
    injection hh with hh _
    injection hh with hh
    exact absurd hh (by decide)
end
end K3
end K4_part
section K5_part
set_option Elab.async false
set_option linter.all false
set_option maxRecDepth 100000
set_option maxHeartbeats 1000000
set_option pp.deepTerms.threshold 5
open PySem PySem.Spec PyProof.Rows L2
/-- go on as far as nothing is open -/
local macro_rules | `(tactic| walk_at "go") => `(tactic| repeat (first
  | with_reducible refine w_seq ?_ | with_reducible refine w_next ?_ | with_reducible refine w_set ?_ | with_reducible refine w_drop ?_ | with_reducible refine w_ret ?_ | with_reducible refine w_retN ?_
  | with_reducible refine w_if ?_ | ((with_reducible refine' w_var ?hv ?_); (case hv => exact rfl)) | with_reducible refine w_c ?_ | with_reducible refine w_nil ?_ | with_reducible refine w_cons ?_ | with_reducible refine w_op ?_ | with_reducible refine w_un ?_
  | with_reducible refine w_test ?_ | with_reducible refine w_tB ?_ | with_reducible refine w_not ?_ | with_reducible refine w_and ?_ | with_reducible refine w_or ?_ | with_reducible refine w_bl ?_
  | with_reducible refine w_andV ?_ | with_reducible refine w_orV ?_ | with_reducible refine w_notV ?_ | with_reducible refine w_ifE ?_ | with_reducible refine w_chain ?_ | with_reducible refine w_i0 ?_
  | with_reducible refine w_call ?_ | with_reducible refine w_callS ?_ | with_reducible refine w_cB ?_ | with_reducible refine w_tup ?_ | with_reducible refine w_lst ?_ | with_reducible refine w_fldV ?_
  | with_reducible refine w_neF ?_ | with_reducible refine w_neT ?_ | with_reducible refine w_notN ?_ | with_reducible refine w_isN ?_ | with_reducible refine w_gname ?_ | with_reducible refine w_gsub ?_ | with_reducible refine w_asg ?_ | with_reducible refine w_sl ?_ | with_reducible refine w_noP ?_ | with_reducible refine w_int1 ?_ | with_reducible refine w_part ?_ | with_reducible refine w_yes ?_ | with_reducible refine w_nT ?_ | with_reducible refine w_nF ?_ | with_reducible refine w_iteT ?_ | with_reducible refine w_iteF ?_))
namespace K3
/-! ### four numbers greater by one -/
def plusF (m n k j : Nat) : List (Nat × Nat) := [(k, j), (k, n - 1), (m - 1, j), (m - 1, n - 1)]
def moreF (t : List (List Int)) (cs : List (Nat × Nat)) : List (List Int) := cs.foldl (fun u c => addAt u c 1) t
theorem more_snoc (t : List (List Int)) (cs : List (Nat × Nat)) (c : Nat × Nat) : moreF t (cs ++ [c]) = addAt (moreF t cs) c 1 := by
  unfold moreF
  rw [List.foldl_append]
  rfl
theorem more_rect {t : List (List Int)} {m n : Nat} (h : Rect t m n) : ∀ cs : List (Nat × Nat), Rect (moreF t cs) m n := by
  intro cs
  unfold moreF
  induction cs generalizing t with
  | nil => exact h
  | cons c cs ih => exact ih (addAt_len h)
section
variable {t : List (List Int)} {m n k j : Nat}
theorem plus_grid (g : Grid t m n) (hk : k + 1 < m) (hj : j + 1 < n) : Grid (moreF t (plusF m n k j)) m n ∧ at2 (moreF t (plusF m n k j)) k j ≠ at2 t k j := by
  have r1 : Rect (addAt t (k, j) 1) m n := addAt_len g.rect
  have r2 : Rect (addAt (addAt t (k, j) 1) (k, n - 1) 1) m n := addAt_len r1
  have r3 : Rect (addAt (addAt (addAt t (k, j) 1) (k, n - 1) 1) (m - 1, j) 1) m n := addAt_len r2
  have k1 : k < m := by omega
  have j1 : j < n := by omega
  have m1 : m - 1 < m := by omega
  have n1 : n - 1 < n := by omega
  have one : ∀ {u : List (List Int)} (h : Rect u m n) {c : Nat × Nat} (c1 : c.1 < m) (c2 : c.2 < n) {i l : Nat} (hi : i < m) (hl : l < n), at2 u i l ≤ at2 (addAt u c 1) i l ∧ at2 (addAt u c 1) i l = at2 u i l + (if (i, l) = c then 1 else 0) := fun h c c1 c2 i l hi hl => by
    have e := at2_add h c1 c2 1 hi hl
    refine ⟨?_, e⟩
    rw [e]
    split <;> omega
  have all : ∀ i < m, ∀ l < n, at2 t i l ≤ at2 (moreF t (plusF m n k j)) i l := fun i hi l hl => by
    have a := (one g.rect (c := (k, j)) k1 j1 hi hl).1
    have b := (one r1 (c := (k, n - 1)) k1 n1 hi hl).1
    have c := (one r2 (c := (m - 1, j)) m1 j1 hi hl).1
    have d := (one r3 (c := (m - 1, n - 1)) m1 n1 hi hl).1
    show at2 t i l ≤ at2 (addAt (addAt (addAt (addAt t (k, j) 1) (k, n - 1) 1) (m - 1, j) 1) (m - 1, n - 1) 1) i l
    omega
  refine ⟨⟨more_rect g.rect _, g.m1, g.n1, fun i hi l hl => Int.le_trans (g.nn i hi l hl) (all i hi l hl), fun p hp => ?_⟩, ?_⟩
  · show net m n (at2 (addAt (addAt (addAt (addAt t (k, j) 1) (k, n - 1) 1) (m - 1, j) 1) (m - 1, n - 1) 1)) p = 0
    rw [net_addAt r3 m1 n1 1 hp, net_addAt r2 m1 j1 1 hp, net_addAt r1 k1 n1 1 hp, net_addAt g.rect k1 j1 1 hp, g.bal p hp]
    have dk : decide (k = m - 1) = false := decide_eq_false (by omega)
    have dj : decide (j = n - 1) = false := decide_eq_false (by omega)
    have a1 : arcF m n (k, j) = ((true, k), (false, j)) := by unfold arcF; simp [dk, dj]
    have a2 : arcF m n (k, n - 1) = ((false, n - 1), (true, k)) := by unfold arcF; simp [dk]
    have a3 : arcF m n (m - 1, j) = ((false, j), (true, m - 1)) := by unfold arcF; simp [dj]
    have a4 : arcF m n (m - 1, n - 1) = ((true, m - 1), (false, n - 1)) := by unfold arcF; simp
    rw [a1, a2, a3, a4]
    simp only [Int.one_mul]
    omega
  · have a := (one g.rect (c := (k, j)) k1 j1 k1 j1).2
    have b := (one r1 (c := (k, n - 1)) k1 n1 k1 j1).1
    have c := (one r2 (c := (m - 1, j)) m1 j1 k1 j1).1
    have d := (one r3 (c := (m - 1, n - 1)) m1 n1 k1 j1).1
    rw [if_pos rfl] at a
    show at2 (addAt (addAt (addAt (addAt t (k, j) 1) (k, n - 1) 1) (m - 1, j) 1) (m - 1, n - 1) 1) k j ≠ at2 t k j
    omega
end
theorem ixN_any {N q : Nat} {x : Int} (h : x = (q : Int) ∨ x = -1 ∧ q + 1 = N) (hq : q < N) : ixN N x = some q := by
  unfold ixN
  rcases h with rfl | ⟨rfl, e⟩
  · rw [if_pos (by omega), if_pos (by omega)]
    simp
  · rw [if_neg (by omega), if_pos (by omega)]
    congr 1
    omega
theorem atI_any {α : Type} {xs : List α} {q : Nat} {x : Int} {v : α} (h : x = (q : Int) ∨ x = -1 ∧ q + 1 = xs.length) (hv : xs[q]? = some v) : atI xs x = some v := by
  unfold atI
  rw [ixN_any h (List.getElem?_eq_some_iff.mp hv).1]
  exact hv
def PosAt (m n : Nat) (H : Hp) (v : V) (q : Nat × Nat) : Prop := ∃ a x y, v = .ref a ∧ H a = some (.tup [.int x, .int y]) ∧ (x = (q.1 : Int) ∨ x = -1 ∧ q.1 + 1 = m) ∧ (y = (q.2 : Int) ∨ y = -1 ∧ q.2 + 1 = n) ∧ q.1 < m ∧ q.2 < n
theorem PosAt.same {m n : Nat} {H H' : Hp} (e : Same H H') {v : V} {q : Nat × Nat} (h : PosAt m n H v q) : PosAt m n H' v q := let ⟨a, x, y, h1, h2, h3⟩ := h; ⟨a, x, y, h1, e _ _ h2, h3⟩
theorem PosAt.tk {m n : Nat} {H H' : Hp} (e : Tk H H') {v : V} {q : Nat × Nat} (h : PosAt m n H v q) : PosAt m n H' v q := let ⟨a, x, y, h1, h2, h3⟩ := h; ⟨a, x, y, h1, e _ _ h2, h3⟩
theorem Tab.updNe {H : Hp} {p a : Addr} {rs : List Addr} {t : List (List Int)} (h : Tab H p rs t) (ne : p ≠ a) (nr : ∀ r ∈ rs, r ≠ a) (o : HO) : Tab (L2.upd H a o) p rs t :=
  ⟨by rw [upd_ne ne]; exact h.at_, paired_up h.rows fun r row hm z => by show L2.upd H a o r = _; rw [upd_ne (nr r hm)]; exact z⟩
theorem Sd.ne_lst {H : Hp} {s p : Addr} (hs : Sd H s) {B : Hp} (b : B p = none) (e : BM [s] B H) (hb : Sd B s) : p ≠ s := src_ne hb.src b
end K3
end K5_part
section K6_part
set_option Elab.async false
set_option linter.all false
set_option maxRecDepth 100000
set_option maxHeartbeats 1000000
set_option pp.deepTerms.threshold 5
open PySem PySem.Spec PyProof.Rows L2
/-- go on as far as nothing is open -/
local macro_rules | `(tactic| walk_at "go") => `(tactic| repeat (first
  | with_reducible refine w_seq ?_ | with_reducible refine w_next ?_ | with_reducible refine w_set ?_ | with_reducible refine w_drop ?_ | with_reducible refine w_ret ?_ | with_reducible refine w_retN ?_
  | with_reducible refine w_if ?_ | ((with_reducible refine' w_var ?hv ?_); (case hv => exact rfl)) | with_reducible refine w_c ?_ | with_reducible refine w_nil ?_ | with_reducible refine w_cons ?_ | with_reducible refine w_op ?_ | with_reducible refine w_un ?_
  | with_reducible refine w_test ?_ | with_reducible refine w_tB ?_ | with_reducible refine w_not ?_ | with_reducible refine w_and ?_ | with_reducible refine w_or ?_ | with_reducible refine w_bl ?_
  | with_reducible refine w_andV ?_ | with_reducible refine w_orV ?_ | with_reducible refine w_notV ?_ | with_reducible refine w_ifE ?_ | with_reducible refine w_chain ?_ | with_reducible refine w_i0 ?_
  | with_reducible refine w_call ?_ | with_reducible refine w_callS ?_ | with_reducible refine w_cB ?_ | with_reducible refine w_tup ?_ | with_reducible refine w_lst ?_ | with_reducible refine w_fldV ?_
  | with_reducible refine w_neF ?_ | with_reducible refine w_neT ?_ | with_reducible refine w_notN ?_ | with_reducible refine w_isN ?_ | with_reducible refine w_gname ?_ | with_reducible refine w_gsub ?_ | with_reducible refine w_asg ?_ | with_reducible refine w_sl ?_ | with_reducible refine w_noP ?_ | with_reducible refine w_int1 ?_ | with_reducible refine w_part ?_ | with_reducible refine w_yes ?_ | with_reducible refine w_nT ?_ | with_reducible refine w_nF ?_ | with_reducible refine w_iteT ?_ | with_reducible refine w_iteF ?_))
namespace K3
def spLGreat (K : PySem.W.Frag) : Sp := fun vs H Q _ => ∃ s : Addr, vs = [.ref s] ∧ Sd H s ∧ ∀ p H' rs t m k, 3 ≤ m → m ≤ 5 → 3 ≤ k → k ≤ 4 → BM [s] H H' → Sd H' s → New H p rs → Tab H' p rs (withSums k t) → t.length = m → (∀ r ∈ t, r.length = k ∧ ∀ y ∈ r, 1 ≤ y) → Q (.ref p) H'
theorem Sd.ne_tup {H : Hp} {s x : Addr} {zs : List V} (h : Sd H s) (hx : H x = some (.tup zs)) : x ≠ s := fun z => by
  obtain ⟨a, b, c, hs, _⟩ := h
  rw [z, hs] at hx
  cases hx
section
variable {P : Program} {w : World} {K : PySem.W.Frag} {mg : Str → Option Value} {base : Heap}
theorem sc_great_grid : FnScope ["_law_s", "_law_tall", "_law_wide", "_law_k", "_law_inner", "_law_j"] ["_law_s"] (defScope s__law_great_grid) := ⟨rfl, rfl, rfl, by decide +kernel, rfl, by decide +kernel, by decide +kernel⟩
theorem ok_great_grid (T : Tx K mg) : Ok P w K mg base 2 (He.ga K "_law_great_grid") ["_law_s"] (spLGreat K) := by
  obtain ⟨fd, F⟩ := T.f__law_great_grid
  have O_law_summed := ok_summed (P := P) (w := w) (base := base) T
  have O_law_digit := ok_digit (P := P) (w := w) (base := base) T
  refine ⟨fd, F.ok (k := 1) sc_great_grid (fun vs H Q E h => ?_) (fun cdv A outer s_ H vs Q E hr h => ?_), F.bindsN fun _ _ _ _ _ _ us hl => match us, hl with | [_], _ => rfl, F.kp⟩
  · obtain ⟨s, rfl, s2, q⟩ := h
    rfl
  obtain ⟨s, rfl, s2, q⟩ := h
  have hu65 := K3.Room.units65 hr
  have hu64 := Nat.lt_of_succ_lt hu65
  have hu0 := Nat.lt_of_le_of_lt (Nat.le_add_right _ 65) hu65
  have hu1 := Nat.lt_of_le_of_lt (Nat.add_le_add_left (show 1 ≤ 65 by decide) _) hu65
  have r_law_summed : Room 1 _ := hr.mono (by decide)
  have r_law_digit : Room 1 _ := hr.mono (by decide)
  refine ⟨_, pss_cons (ps_asg (pe_ix ix_list (pe_lst (pa_cons (pe_tup (pa_cons pe_int (pa_cons pe_int pa_nil))) (pa_cons (pe_tup (pa_cons pe_int (pa_cons pe_int pa_nil))) (pa_cons (pe_tup (pa_cons pe_int (pa_cons pe_int pa_nil))) (pa_cons (pe_tup (pa_cons pe_int (pa_cons pe_int pa_nil))) (pa_cons (pe_tup (pa_cons pe_int (pa_cons pe_int pa_nil))) (pa_cons (pe_tup (pa_cons pe_int (pa_cons pe_int pa_nil))) pa_nil))))))) (pe_f O_law_digit r_law_digit T.g__law_digit (pa_cons (pv 0) (pa_cons pe_int pa_nil))) (fun _ _ => rfl)) (pg_tup (by rfl) (pgs_cons (pg_name (i := 1) sc_great_grid.nd rfl (Or.inl rfl)) (pgs_cons (pg_name (i := 2) sc_great_grid.nd rfl (Or.inr rfl)) pgs_nil))))
      (pss_cons (by exact ps_setLc (i := 4) (own := [("_law_k", 3)]) (g := gName 3) (tt := tYes) (te := (tLc (iRng1 (tCons (tVar 2) tNil)) (gName 5) tYes (tOp (rI0 fun i j => .int (i + j)) (tC (.int 9)) (tCall (spDigit K) [] E0 (tCons (tVar 0) (tCons (tC (.int 4)) tNil)))) [5])) (by rfl) sc_great_grid.nd rfl rfl (by rfl) (pi_range1 rfl T.z_range (pa_cons (pv 1) pa_nil)) (blkOk_by (own := [("_law_k", 3)]) (N := ["_law_s", "_law_tall", "_law_wide", "_law_k", "_law_inner", "_law_j"]) (sc := defScope s__law_great_grid) (by decide +kernel)) (fun _ _ _ _ _ => (pg_name (i := 3) sc_great_grid.nd rfl (Or.inl rfl))) (fun _ _ _ _ _ => pts_nil) (fun _ _ _ _ _ => (by exact pe_lc (own := [("_law_j", 5)]) (g := gName 5) (tt := tYes) (te := (tOp (rI0 fun i j => .int (i + j)) (tC (.int 9)) (tCall (spDigit K) [] E0 (tCons (tVar 0) (tCons (tC (.int 4)) tNil))))) (by rfl) sc_great_grid.nd (pi_range1 rfl T.z_range (pa_cons (pv 2) pa_nil)) (blkOk_by (own := [("_law_j", 5)]) (N := ["_law_s", "_law_tall", "_law_wide", "_law_k", "_law_inner", "_law_j"]) (sc := { kind := .function, names := [(".0", .local), ("_law_k", .local), ("range", .globalImplicit), ("_law_s", .cell), ("_law_wide", .cell)], isGenerator := false, isCoroutine := false }) (by decide +kernel)) (fun _ _ _ _ _ => (pg_name (i := 5) sc_great_grid.nd rfl (Or.inl rfl))) (fun _ _ _ _ _ => pts_nil) (fun _ _ _ _ _ => (pe_op op_add pe_int (pe_f O_law_digit r_law_digit T.g__law_digit (pa_cons (pv 0) (pa_cons pe_int pa_nil))))))))
      (pss_cons (ps_for (passes_of rfl) (by rfl) (pi_range1 rfl T.z_range (pa_cons pe_int pa_nil)) (pg_name (i := 3) sc_great_grid.nd rfl (Or.inl rfl)) (pss_one (ps_asg (pe_op op_add pe_int (pe_f O_law_digit r_law_digit T.g__law_digit (pa_cons (pv 0) (pa_cons pe_int pa_nil)))) (pg_sub (pe_ix ix_list (pv 4) (pe_f O_law_digit r_law_digit T.g__law_digit (pa_cons (pv 0) (pa_cons (pv 1) pa_nil))) (fun _ _ => rfl)) (pe_f O_law_digit r_law_digit T.g__law_digit (pa_cons (pv 0) (pa_cons (pv 2) pa_nil))) set_list))))
      (pss_one (ps_ret (pe_f O_law_summed r_law_summed T.g__law_summed (pa_cons (pv 4) pa_nil)))))), ?_⟩
  walk_at "go"
  refine ⟨(by show 2 ≤ sizeLine; decide), fun a1 h1 => ?_⟩
  have f1 := Same.new h1 (.tup [V.int 3, V.int 3])
  have g1 : (upd H a1 (.tup [V.int 3, V.int 3])) a1 = some (.tup [V.int 3, V.int 3]) := upd_same
  generalize upd H a1 (.tup [V.int 3, V.int 3]) = G1 at f1 g1 ⊢
  walk_at "go"
  refine ⟨(by show 2 ≤ sizeLine; decide), fun a2 h2 => ?_⟩
  have f2 := Same.new h2 (.tup [V.int 3, V.int 4])
  have g2 : (upd G1 a2 (.tup [V.int 3, V.int 4])) a2 = some (.tup [V.int 3, V.int 4]) := upd_same
  generalize upd G1 a2 (.tup [V.int 3, V.int 4]) = G2 at f2 g2 ⊢
  walk_at "go"
  refine ⟨(by show 2 ≤ sizeLine; decide), fun a3 h3' => ?_⟩
  have f3 := Same.new h3' (.tup [V.int 4, V.int 3])
  have g3 : (upd G2 a3 (.tup [V.int 4, V.int 3])) a3 = some (.tup [V.int 4, V.int 3]) := upd_same
  generalize upd G2 a3 (.tup [V.int 4, V.int 3]) = G3 at f3 g3 ⊢
  walk_at "go"
  refine ⟨(by show 2 ≤ sizeLine; decide), fun a4 h4 => ?_⟩
  have f4 := Same.new h4 (.tup [V.int 4, V.int 4])
  have g4 : (upd G3 a4 (.tup [V.int 4, V.int 4])) a4 = some (.tup [V.int 4, V.int 4]) := upd_same
  generalize upd G3 a4 (.tup [V.int 4, V.int 4]) = G4 at f4 g4 ⊢
  walk_at "go"
  refine ⟨(by show 2 ≤ sizeLine; decide), fun a5 h5 => ?_⟩
  have f5 := Same.new h5 (.tup [V.int 4, V.int 4])
  have g5 : (upd G4 a5 (.tup [V.int 4, V.int 4])) a5 = some (.tup [V.int 4, V.int 4]) := upd_same
  generalize upd G4 a5 (.tup [V.int 4, V.int 4]) = G5 at f5 g5 ⊢
  walk_at "go"
  refine ⟨(by show 2 ≤ sizeLine; decide), fun a6 h6 => ?_⟩
  have f6 := Same.new h6 (.tup [V.int 5, V.int 4])
  have g6 : (upd G5 a6 (.tup [V.int 5, V.int 4])) a6 = some (.tup [V.int 5, V.int 4]) := upd_same
  generalize upd G5 a6 (.tup [V.int 5, V.int 4]) = G6 at f6 g6 ⊢
  walk_at "go"
  refine ⟨(by show 6 ≤ sizeLine; decide), fun al hl => ?_⟩
  have f7 := Same.new hl (.lst [V.ref a1, .ref a2, .ref a3, .ref a4, .ref a5, .ref a6])
  have g7 : (upd G6 al (.lst [V.ref a1, .ref a2, .ref a3, .ref a4, .ref a5, .ref a6])) al = some (.lst [V.ref a1, .ref a2, .ref a3, .ref a4, .ref a5, .ref a6]) := upd_same
  have als : al ≠ s := src_ne (s2.same (f1.trans (f2.trans (f3.trans (f4.trans (f5.trans f6)))))).src hl
  generalize upd G6 al (.lst [V.ref a1, .ref a2, .ref a3, .ref a4, .ref a5, .ref a6]) = G7 at f7 g7 ⊢
  have F67 := f7
  have F57 := f6.trans F67
  have F47 := f5.trans F57
  have F37 := f4.trans F47
  have F27 := f3.trans F37
  have F17 := f2.trans F27
  have F07 := f1.trans F17
  have sG := s2.same F07
  have pick : ∀ r : Nat, (r : Int) < 6 → ∃ (ar : Addr) (m k : Nat), atI [V.ref a1, .ref a2, .ref a3, .ref a4, .ref a5, .ref a6] (r : Int) = some (.ref ar) ∧ G7 ar = some (.tup [V.int (m : Int), V.int (k : Int)]) ∧ 3 ≤ m ∧ m ≤ 5 ∧ 3 ≤ k ∧ k ≤ 4 := by
    intro r hr
    obtain rfl | rfl | rfl | rfl | rfl | rfl : r = 0 ∨ r = 1 ∨ r = 2 ∨ r = 3 ∨ r = 4 ∨ r = 5 := by omega
    · exact ⟨a1, 3, 3, rfl, F17 _ _ g1, by decide, by decide, by decide, by decide⟩
    · exact ⟨a2, 3, 4, rfl, F27 _ _ g2, by decide, by decide, by decide, by decide⟩
    · exact ⟨a3, 4, 3, rfl, F37 _ _ g3, by decide, by decide, by decide, by decide⟩
    · exact ⟨a4, 4, 4, rfl, F47 _ _ g4, by decide, by decide, by decide, by decide⟩
    · exact ⟨a5, 4, 4, rfl, F57 _ _ g5, by decide, by decide, by decide, by decide⟩
    · exact ⟨a6, 5, 4, rfl, F67 _ _ g6, by decide, by decide, by decide, by decide⟩
  clear f1 f2 f3 f4 f5 f6 f7 F67 F57 F47 F37 F27 F17 g1 g2 g3 g4 g5 g6
  walk_at "go"
  refine ⟨s, 6, rfl, sG, by decide, by decide, fun r H3 r1 b3 s3 => ?_⟩
  obtain ⟨ar, m, k, har, hat, m3, m5, k3, k4⟩ := pick r r1
  refine w_ixL (b3.at g7 (by simpa using als)) har ?_
  refine w_gtup (SqT.of (b3.at hat (by simpa using sG.ne_tup hat))) rfl (w_gnn ?_)
  dsimp only
  have b03 : BM [s] H H3 := (BM.of F07).trans b3
  clear pick g7 hat har als sG b3 F07
  walk_at "go"
  refine lcAt_open (rng_open ?_)
  walk_at "go"
  refine ⟨_, rfl, by omega, by omega, fun D hD => ?_⟩
  rw [Int.toNat_natCast]
  have Ds : D ≠ s := src_ne s3.src hD
  have D0 : H D = none := b03.free hD
  refine lc_range (lo := 0) (n := m) (fun (i : Nat) H' => ∃ (rs : List Addr) (t : List (List Int)), BM [s] H H' ∧ Sd H' s ∧ H' D = some (.lst (rs.map V.ref)) ∧ Paired (RowAt H') rs t ∧ t.length = i ∧ (∀ r ∈ t, r.length = k ∧ ∀ y ∈ r, 1 ≤ y) ∧ (∀ r ∈ rs, r ≠ s ∧ r ≠ D ∧ H r = none) ∧ rs.Nodup)
    ⟨[], [], b03.same (Same.new hD _), s3.upd Ds _, upd_same, .nil, rfl, fun r hr => (by cases hr), fun r hr => (by cases hr), .nil⟩ ?_ ?_
  · rintro i H4 hi ⟨rs, t, b4, s4, hD4, hp4, ht4, hk4, hr4, nd4⟩
    walk_at "go"
    refine ⟨rfl, ?_⟩
    walk_at "go"
    refine lcAt_open (rng_open ?_)
    walk_at "go"
    refine ⟨_, rfl, by omega, by omega, fun D2 hD2 => ?_⟩
    rw [Int.toNat_natCast]
    have D2s : D2 ≠ s := src_ne s4.src hD2
    have D2D : D2 ≠ D := fun z => by rw [z, hD4] at hD2; cases hD2
    refine lc_range (lo := 0) (n := k) (fun (j : Nat) H' => ∃ row : List Int, BM [s] H4 H' ∧ Sd H' s ∧ H' D2 = some (.lst (row.map V.int)) ∧ row.length = j ∧ ∀ y ∈ row, 1 ≤ y)
      ⟨[], BM.of (Same.new hD2 _), s4.upd D2s _, upd_same, rfl, fun y hy => (by cases hy)⟩ ?_ ?_
    · rintro j H5 hj ⟨row, b5, s5, hD25, lr5, hx5⟩
      walk_at "go"
      refine ⟨rfl, ?_⟩
      walk_at "go"
      refine ⟨s, 4, rfl, s5, by decide, by decide, fun r H6 r1 b6 s6 => ?_⟩
      have hD26 := b6.at hD25 (by simpa using D2s)
      walk_at "go"
      refine ⟨_, hD26, Nat.lt_of_le_of_lt (show (row.map V.int).length ≤ 100 by rw [List.length_map]; omega) (by decide), row ++ [9 + (r : Int)], (b5.trans b6).mut hD2, s6.upd D2s _, by rw [upd_same, List.map_append]; rfl, by rw [List.length_append, lr5]; rfl, fun v hv => ?_⟩
      rcases List.mem_append.mp hv with hv | hv
      · exact hx5 v hv
      · rw [List.mem_singleton.mp hv]; omega
    · rintro H5 ⟨row, b5, s5, hD25, lr5, hx5⟩
      have hD5 := b5.at hD4 (by simpa using Ds)
      have up : ∀ r row', RowAt H4 r row' → r ≠ s → r ≠ D → RowAt (upd H5 D (.lst (rs.map V.ref ++ [.ref D2]))) r row' := fun r row' z h1 h2 => by
        show upd H5 D _ r = _
        rw [upd_ne h2]
        exact b5.at z (by simpa using h1)
      have old : ∀ r ∈ rs, r ≠ D2 := fun r hr z => by
        obtain ⟨row', hrow⟩ := paired_has hp4 hr
        have hrow : H4 r = some _ := hrow
        rw [z, hD2] at hrow
        cases hrow
      refine ⟨_, hD5, Nat.lt_of_le_of_lt (show (rs.map V.ref).length ≤ 100 by rw [List.length_map, hp4.length]; omega) (by decide), rs ++ [D2], t ++ [row], (b4.trans b5).mut D0, s5.upd Ds _, by rw [upd_same, List.map_append]; rfl, K3.Paired.app (paired_up hp4 fun r row' hr z => up r row' z (hr4 r hr).1 (hr4 r hr).2.1) (.cons (by show upd H5 D _ D2 = _; rw [upd_ne D2D]; exact hD25) .nil), by rw [List.length_append, ht4]; rfl, fun r hr => ?_, fun r hr => ?_, List.nodup_append.mpr ⟨nd4, by simp, fun a ha b hb => by rw [List.mem_singleton.mp hb]; exact old a ha⟩⟩
      · rcases List.mem_append.mp hr with hr | hr
        · exact hk4 r hr
        · rw [List.mem_singleton.mp hr]; exact ⟨lr5, hx5⟩
      · rcases List.mem_append.mp hr with hr | hr
        · exact hr4 r hr
        · rw [List.mem_singleton.mp hr]; exact ⟨D2s, D2D, b4.free hD2⟩
  rintro H4 ⟨rs, t, b4, s4, hD4, hp4, ht4, hk4, hr4, nd4⟩
  have M4 : Mine s H H4 D rs t m k := ⟨⟨hD4, hp4⟩, ⟨ht4, fun r hr => (hk4 r hr).1⟩, nd4, fun z => (hr4 D z).2.1 rfl, fun r hr => (hr4 r hr).2.2, D0, b4, s4.src, s2.src⟩
  have pos4 : ∀ r ∈ t, ∀ y ∈ r, 1 ≤ y := fun r hr => (hk4 r hr).2
  clear hD4 hp4 ht4 hk4 hr4 nd4 b4 hD b03 s3
  walk_at "go"
  refine rng_open ?_
  walk_at "go"
  refine ⟨_, rfl, by decide, by decide, ?_⟩
  rw [show ((2 : Int)).toNat = 2 from rfl]
  refine for_range (lo := 0) (n := 2) (fun (i : Nat) σ H' => ∃ (o3 : Option V) (t : List (List Int)), σ = [some (.ref s), some (.int (m : Int)), some (.int (k : Int)), o3, some (.ref D), none] ∧ Mine s H H' D rs t m k ∧ Sd H' s ∧ ∀ r ∈ t, ∀ y ∈ r, 1 ≤ y)
    ⟨_, t, rfl, M4, s4, pos4⟩ ?_ ?_
  · rintro i σ H5 hi ⟨o3, t, rfl, M5, s5, pos5⟩
    walk_at "go"
    refine ⟨s, 2, rfl, s5, by decide, by decide, fun ra H6 ra1 b6 s6 => ?_⟩
    have M6 := M5.draw b6 s6.src
    walk_at "go"
    refine ⟨s, (m : Int), rfl, s6, by omega, by omega, fun rb H7 rb1 b7 s7 => ?_⟩
    have M7 := M6.draw b7 s7.src
    obtain ⟨ar, r, har, hr, hxr⟩ := row_of M7.tab (i := rb) (by rw [M7.rect.1]; omega)
    have lr := M7.rect.2 r (List.mem_of_getElem? hr)
    refine w_ixL M7.tab.at_ (ref_at har) ?_
    walk_at "go"
    refine ⟨s, (k : Int), rfl, s7, by omega, by omega, fun rc H8 rc1 b8 s8 => ?_⟩
    have M8 := M7.draw b8 s8.src
    have ars : ar ≠ s := M8.notS.2 ar (List.mem_of_getElem? har)
    have hx8 : H8 ar = some (.lst (r.map V.int)) := b8.at hxr (by simpa using ars)
    refine w_setL hx8 (ixN_any (.inl rfl) (by rw [List.length_map]; omega)) ?_
    have put := M8.put har hr (j := rc) (1 + (ra : Int))
    rw [show (r.map V.int).set rc (V.int (1 + (ra : Int))) = (r.set rc (1 + (ra : Int))).map V.int by rw [List.map_set]]
    refine ⟨_, _, rfl, put, s8.upd ars _, fun r' hr' y hy => ?_⟩
    obtain hr' | hr' := List.mem_or_eq_of_mem_set hr'
    · exact pos5 r' hr' y hy
    · rw [hr'] at hy
      obtain hy | hy := List.mem_or_eq_of_mem_set hy
      · exact pos5 r (List.mem_of_getElem? hr) y hy
      · rw [hy]; omega
  rintro σ H5 ⟨o3, t, rfl, M5, s5, pos5⟩
  walk_at "go"
  refine ⟨D, rs, t, k, rfl, M5.tab, fun r hr => M5.rect.2 r hr, fun z => by have := M5.rect.1; rw [z] at this; simp at this; omega, by rw [M5.rect.1]; omega, by omega, fun p' H6 rs' e6 hnew htab => ?_⟩
  exact q p' H6 rs' t m k m3 m5 k3 k4 (M5.bm.same e6) (s5.same e6) ⟨M5.bm.free hnew.p0, fun r hr => M5.bm.free (hnew.rs0 r hr), hnew.nd, hnew.ne⟩ htab M5.rect.1 fun r hr => ⟨M5.rect.2 r hr, pos5 r hr⟩
end
end K3
end K6_part
section K7_part
set_option Elab.async false
set_option linter.all false
set_option maxRecDepth 100000
set_option maxHeartbeats 1000000
set_option pp.deepTerms.threshold 5
open PySem PySem.Spec PyProof.Rows L2
/-- go on as far as nothing is open -/
local macro_rules | `(tactic| walk_at "go") => `(tactic| repeat (first
  | with_reducible refine w_seq ?_ | with_reducible refine w_next ?_ | with_reducible refine w_set ?_ | with_reducible refine w_drop ?_ | with_reducible refine w_ret ?_ | with_reducible refine w_retN ?_
  | with_reducible refine w_if ?_ | ((with_reducible refine' w_var ?hv ?_); (case hv => exact rfl)) | with_reducible refine w_c ?_ | with_reducible refine w_nil ?_ | with_reducible refine w_cons ?_ | with_reducible refine w_op ?_ | with_reducible refine w_un ?_
  | with_reducible refine w_test ?_ | with_reducible refine w_tB ?_ | with_reducible refine w_not ?_ | with_reducible refine w_and ?_ | with_reducible refine w_or ?_ | with_reducible refine w_bl ?_
  | with_reducible refine w_andV ?_ | with_reducible refine w_orV ?_ | with_reducible refine w_notV ?_ | with_reducible refine w_ifE ?_ | with_reducible refine w_chain ?_ | with_reducible refine w_i0 ?_
  | with_reducible refine w_call ?_ | with_reducible refine w_callS ?_ | with_reducible refine w_cB ?_ | with_reducible refine w_tup ?_ | with_reducible refine w_lst ?_ | with_reducible refine w_fldV ?_
  | with_reducible refine w_neF ?_ | with_reducible refine w_neT ?_ | with_reducible refine w_notN ?_ | with_reducible refine w_isN ?_ | with_reducible refine w_gname ?_ | with_reducible refine w_gsub ?_ | with_reducible refine w_asg ?_ | with_reducible refine w_sl ?_ | with_reducible refine w_noP ?_ | with_reducible refine w_int1 ?_ | with_reducible refine w_part ?_ | with_reducible refine w_yes ?_ | with_reducible refine w_nT ?_ | with_reducible refine w_nF ?_ | with_reducible refine w_iteT ?_ | with_reducible refine w_iteF ?_))
namespace K3
open SLam LamX
/-- all but M and the tables stay -/
def ExM (M : List Addr) (H H' : Hp) : Prop := ∀ b o, H b = some o → (∀ ps, o ≠ .tbl ps) → b ∉ M → H' b = some o
theorem ExM.trans {M : List Addr} {H H1 H2 : Hp} (p : ExM M H H1) (q : ExM M H1 H2) : ExM M H H2 := fun b o h n m => q b o (p b o h n m) n m
theorem ExM.of {M : List Addr} {H H' : Hp} (e : Same H H') : ExM M H H' := fun b o h _ _ => e b o h
theorem ExM.ext {M : List Addr} {H H' : Hp} (e : ExtN H H') : ExM M H H' := fun b o h n _ => e b o h n
theorem ExM.bm {M M' : List Addr} {H H' : Hp} (e : BM M' H H') (s : ∀ a ∈ M', a ∈ M) : ExM M H H' := fun b o h _ m => e.at h fun z => m (s b z)
theorem ExM.upd {M : List Addr} {H : Hp} {a : Addr} (h : a ∈ M) (o : HO) : ExM M H (L2.upd H a o) := fun b u hb _ m => by
  rw [upd_ne (fun z => m (by rw [z]; exact h))]
  exact hb
theorem tabs_lst {T : List (Addr × Str)} {H H' : Hp} (t : Tabs T H) (e : ∀ b o, H b = some o → (∀ xs, o ≠ .lst xs) → H' b = some o) : Tabs T H' := fun p hp => by
  obtain ⟨ps, h1, h2, h3⟩ := t p hp
  refine ⟨ps, e _ _ h1 (fun xs z => by cases z), h2, fun pos cv hc => ?_⟩
  obtain ⟨c, k1, k2⟩ := h3 pos cv hc
  exact ⟨c, k1, e _ _ k2 fun xs z => by cases z⟩
theorem tabs_bm {T : List (Addr × Str)} {s : Addr} {H H' : Hp} (hs : Sd H s) (t : Tabs T H) (e : BM [s] H H') : Tabs T H' := tabs_lst t fun b o h n => e.at h fun z => by
  obtain ⟨x, y, c, q, _⟩ := hs
  rw [List.mem_singleton.mp z, q] at h
  exact n _ (Option.some.inj h).symm
theorem tabs_upd {T : List (Addr × Str)} {a : Addr} {H : Hp} {xs : List V} (h : H a = some (.lst xs)) (o : HO) (t : Tabs T H) : Tabs T (L2.upd H a o) := tabs_lst t fun b u hb n => by
  rw [upd_ne (fun z => by rw [z, h] at hb; exact n _ (Option.some.inj hb).symm)]
  exact hb
theorem tab_ext {H H' : Hp} (e : ExtN H H') {g : Addr} {rs : List Addr} {t : List (List Int)} (h : Tab H g rs t) : Tab H' g rs t :=
  ⟨e _ _ h.at_ fun ps z => (by cases z), L2.Paired.mapP h.rows fun a r (z : RowAt H a r) => e a _ (show H a = some (.lst (r.map V.int)) from z) fun ps y => by cases y⟩
theorem tk_bm {s : Addr} {H H' : Hp} (hs : Sd H s) (e : BM [s] H H') : Tk H H' := fun a xs h => e.at h fun z => by
  have := List.mem_singleton.mp z
  subst this
  obtain ⟨x, y, w, q, _⟩ := hs
  rw [h] at q
  cases q
theorem step2_len : ∀ n, n < 40 → (step2 n).length ≤ 40 := by decide +kernel
theorem paired_pick {α β : Type} {F : α → β → Prop} {xs : List α} {ys : List β} (h : Paired F xs ys) : ∀ js : List Nat, Paired F (js.filterMap (xs[·]?)) (js.filterMap (ys[·]?))
  | [] => .nil
  | j :: js => by
    have ih := paired_pick h js
    cases q : xs[j]? with
    | none =>
      have h2 : ys[j]? = none := by
        rw [List.getElem?_eq_none_iff] at q ⊢
        rw [← h.length]
        exact q
      rw [List.filterMap_cons_none q, List.filterMap_cons_none h2]
      exact ih
    | some x =>
      obtain ⟨y, hy, hF⟩ := K3.Paired.get h q
      rw [List.filterMap_cons_some q, List.filterMap_cons_some hy]
      exact .cons hF ih
def spLChanged (PT : Addr) (K : PySem.W.Frag) : Sp := fun vs H Q _ => ∃ (s g : Addr) (few width : Int) (rs : List Addr) (t : List (List Int)) (m n : Nat) (B : Hp), vs = [.ref s, .ref g, .int few, .int width] ∧ Mine s B H g rs t m n ∧ Sd H s ∧ Grid t m n ∧ 2 ≤ m ∧ m ≤ 3 ∧ 2 ≤ n ∧ n ≤ 4 ∧ 2 ≤ few ∧ 1 ≤ width ∧ Tabs (lamT PT) H ∧
  ∀ H', ExM (s :: rs) H H' → Tabs (lamT PT) H' → Q (.bl true) H'
section
variable {P : Program} {w : World} {K : PySem.W.Frag} {mg : Str → Option Value} {base : Heap}
theorem sc_changed_right : FnScope ["_law_s", "_law_grid", "_law_scarce", "_law_span", "_law_gone", "_law_k", "_law_j", "_law_at", "_law_side", "_law_fresh", "_law_one"] ["_law_s", "_law_grid", "_law_scarce", "_law_span"] (defScope s__law_changed_right) := ⟨rfl, rfl, rfl, by decide +kernel, rfl, by decide +kernel, by decide +kernel⟩
theorem ok_changed_right {ct PT : Addr} (T : Tx K mg) (B : Told K mg base "greatest_first" ct PT) : Ok P w K mg base 12 (He.ga K "_law_changed_right") ["_law_s", "_law_grid", "_law_scarce", "_law_span"] (spLChanged PT K) := by
  obtain ⟨fd, F⟩ := T.f__law_changed_right
  have O_law_found := ok_found (P := P) (w := w) (base := base) T B
  have O_law_due := ok_due (P := P) (w := w) (base := base) T
  have O_law_first_near := ok_first_near (P := P) (w := w) (base := base) T
  have O_law_digit := ok_digit (P := P) (w := w) (base := base) T
  refine ⟨fd, F.ok (k := 11) sc_changed_right (fun vs H Q E h => ?_) (fun cdv A outer s_ H vs Q E hr h => ?_), F.bindsN fun _ _ _ _ _ _ us hl => match us, hl with | [_, _, _, _], _ => rfl, F.kp⟩
  · obtain ⟨s, g, few, width, rs, t, m, n, B0, rfl, M, hs0, gt, m2, m3, n2, n4, fw2, wd1, hT, ok⟩ := h
    rfl
  obtain ⟨s, g, few, width, rs, t, m, n, B0, rfl, M, hs0, gt, m2, m3, n2, n4, fw2, wd1, hT, ok⟩ := h
  have O_law_cells := ok_cells (P := P) (w := w) (base := base) T
  have r_law_cells : Room 1 _ := hr.mono (by decide)
  have Ois_safe := ok_is_safe (P := P) (w := w) (base := base) T
  have ris_safe : Room 10 _ := hr.mono (by decide)
  have hu65 := K3.Room.units65 hr
  have hu64 := Nat.lt_of_succ_lt hu65
  have hu0 := Nat.lt_of_le_of_lt (Nat.le_add_right _ 65) hu65
  have hu1 := Nat.lt_of_le_of_lt (Nat.add_le_add_left (show 1 ≤ 65 by decide) _) hu65
  have r_law_found : Room 11 _ := hr.mono (by decide)
  have r_law_due : Room 10 _ := hr.mono (by decide)
  have r_law_first_near : Room 9 _ := hr.mono (by decide)
  have r_law_digit : Room 1 _ := hr.mono (by decide)
  refine ⟨_, pss_cons (ps_set (i := 4) sc_changed_right.nd rfl (Or.inl rfl) (pe_step2 (pe_f O_law_cells r_law_cells T.g__law_cells (pa_cons (pv 1) pa_nil))))
      (pss_cons (ps_expr (pe_fK Ois_safe ris_safe T.g_is_safe (pa_cons (pv 1) (pa_cons (pv 4) pa_nil)) (pk_cons (pv 2) (pk_cons (pv 3) pk_nil))))
      (pss_cons (ps_par (by rfl) sc_changed_right.nd (i := 5) (j := 6) rfl rfl (by decide) rfl rfl (pa_cons (pe_f O_law_digit r_law_digit T.g__law_digit (pa_cons (pv 0) (pa_cons (pe_op op_sub (pe_callB call_len_seq (by rfl) T.z_len PySem.boot_len (pa_cons (pv 1) pa_nil)) pe_int) pa_nil))) (pa_cons (pe_f O_law_digit r_law_digit T.g__law_digit (pa_cons (pv 0) (pa_cons (pe_op op_sub (pe_callB call_len_seq (by rfl) T.z_len PySem.boot_len (pa_cons (pe_ix ix_list (pv 1) pe_int (fun _ _ => rfl)) pa_nil)) pe_int) pa_nil))) pa_nil)) (by rfl))
      (pss_cons (ps_for (passes_of rfl) (by rfl) (pi_list (pe_lst (pa_cons (pe_tup (pa_cons (pv 5) (pa_cons (pv 6) pa_nil))) (pa_cons (pe_tup (pa_cons (pv 5) (pa_cons (pe_un un_neg pe_int) pa_nil))) (pa_cons (pe_tup (pa_cons (pe_un un_neg pe_int) (pa_cons (pv 6) pa_nil))) (pa_cons (pe_tup (pa_cons (pe_un un_neg pe_int) (pa_cons (pe_un un_neg pe_int) pa_nil))) pa_nil)))))) (pg_tup (by rfl) (pgs_cons (pg_name (i := 7) sc_changed_right.nd rfl (Or.inl rfl)) (pgs_cons (pg_name (i := 8) sc_changed_right.nd rfl (Or.inl rfl)) pgs_nil))) (pss_one (ps_asg (pe_op op_add (pe_ix ix_list (pe_ix ix_list (pv 1) (pv 7) (fun _ _ => rfl)) (pv 8) (fun _ _ => rfl)) pe_int) (pg_sub (pe_ix ix_list (pv 1) (pv 7) (fun _ _ => rfl)) (pv 8) set_list))))
      (pss_cons (by exact ps_setLc (i := 9) (own := [("_law_one", 10)]) (g := gName 10) (tt := tYes) (te := (tCB (fun xs H Q => ∃ p ys, xs = [V.ref p] ∧ (SqL K H p ys ∨ SqT K H p ys) ∧ ∀ l, H l = none → Q (.ref l) (upd H l (.lst ys))) (tCons (tVar 10) tNil))) (by rfl) sc_changed_right.nd rfl rfl (by rfl) (pi_list (pv 1)) (blkOk_by (own := [("_law_one", 10)]) (N := ["_law_s", "_law_grid", "_law_scarce", "_law_span", "_law_gone", "_law_k", "_law_j", "_law_at", "_law_side", "_law_fresh", "_law_one"]) (sc := defScope s__law_changed_right) (by decide +kernel)) (fun _ _ _ _ _ => (pg_name (i := 10) sc_changed_right.nd rfl (Or.inl rfl))) (fun _ _ _ _ _ => pts_nil) (fun _ _ _ _ _ => (pe_callTy call_list_of (by rfl) T.z_list (by decide +kernel) (pa_cons (pv 10) pa_nil))))
      (pss_cons (ps_if (pt_cmpR op_ne (pe_fK Ois_safe ris_safe T.g_is_safe (pa_cons (pv 1) (pa_cons (pv 4) pa_nil)) (pk_cons (pv 2) (pk_cons (pv 3) pk_nil))) (pe_cmpR op_isN (pe_f O_law_first_near r_law_first_near T.g__law_first_near (pa_cons (pv 9) (pa_cons (pv 4) (pa_cons (pv 2) (pa_cons (pv 3) pa_nil))))) pe_non rfl) (nomark _)) (pss_one (ps_ret pe_bl)) pss_nil)
      (pss_one (ps_ret (pe_cmpR (op_eqD hu64) (pe_f O_law_found r_law_found T.g__law_found (pa_cons (pv 1) (pa_cons (pv 2) (pa_cons (pv 3) pa_nil)))) (pe_f O_law_due r_law_due T.g__law_due (pa_cons (pv 9) (pa_cons (pv 2) (pa_cons (pv 3) pa_nil)))) rfl)))))))), ?_⟩
  have hR := gt.rect
  have m1 := gt.m1
  have n1 := gt.n1
  have m60 : m ≤ 60 := by omega
  have n60 : n ≤ 60 := by omega
  have m10 : m ≤ 10 := by omega
  have n10 : n ≤ 10 := by omega
  have ht := M.tab
  have lr := ht.rows.length
  have lt := hR.1
  obtain ⟨gs, rss⟩ := M.notS
  obtain ⟨a0, r0, ha0, hr0, hx0⟩ := row_of ht (i := 0) (by omega)
  have hl0 := hR.2 r0 (List.mem_of_getElem? hr0)
  have a0s : a0 ≠ s := rss a0 (List.mem_of_getElem? ha0)
  have hl : (cellsOf m n).dropLast.length ≤ 12 := by
    rw [List.length_dropLast, cells_len]
    exact Nat.le_trans (Nat.sub_le _ _) (Nat.mul_le_mul m3 n4)
  walk_at "go"
  refine w_step2 ?_
  walk_at "go"
  refine ⟨g, rs, t, m, n, rfl, ht, hR, m1, m60, n60, fun p1 H1 w1 e1 p10 h1 hw1 => ?_⟩
  have lw1 : w1.length ≤ 12 := by rw [hw1.length]; exact hl
  have ls := step2_len w1.length (by omega)
  refine ⟨p1, w1, rfl, SqL.of h1, Nat.le_trans ls (by decide), fun pg hpg => ?_⟩
  have hw := paired_pick hw1 (step2 w1.length)
  have e2 := Same.new hpg (.lst ((step2 w1.length).filterMap (w1[·]?)))
  have hg2 : (upd H1 pg (.lst ((step2 w1.length).filterMap (w1[·]?)))) pg = some (.lst ((step2 w1.length).filterMap (w1[·]?))) := upd_same
  have hmem : ∀ c ∈ (step2 w1.length).filterMap ((cellsOf m n).dropLast[·]?), c ∈ (cellsOf m n).dropLast := fun c hc => by
    obtain ⟨j, _, h⟩ := List.mem_filterMap.mp hc
    exact List.mem_of_getElem? h
  have hlen : ((step2 w1.length).filterMap ((cellsOf m n).dropLast[·]?)).length ≤ 60 := Nat.le_trans (List.length_filterMap_le _ _) (by omega)
  generalize (step2 w1.length).filterMap ((cellsOf m n).dropLast[·]?) = hs at hw hmem hlen
  generalize (step2 w1.length).filterMap (w1[·]?) = ws at hw e2 hg2 ⊢
  have hw2 : Paired (CellAt (upd H1 pg (.lst ws))) ws hs := L2.Paired.mapP hw fun _ _ z => CellAt.same e2 z
  generalize upd H1 pg (.lst ws) = H2 at e2 hg2 hw2 ⊢
  have e02 := e1.trans e2
  have pg0 : H pg = none := e1.free hpg
  clear hw hw1 h1 p10 lw1 ls hpg e1 e2
  have hid2 : ∀ H', Same H2 H' → HidIn K H' (.ref pg) hs m n := fun H' e => ⟨pg, ws, rfl, .inl (SqL.of (e _ _ hg2)), L2.Paired.mapP hw2 fun _ _ z => z.same e, hmem, hlen⟩
  have tab2 := ht.same e02
  walk_at "go"
  refine w_callN ?_
  walk_at "go"
  refine ⟨rfl, rfl, ?_⟩
  refine ⟨g, .ref pg, few, width, rs, t, m, n, hs, rfl, tab2.gt, gt, m10, n10, fw2, wd1, hid2 _ (Same.refl _), fun H4 e24 => ?_⟩
  have e04 := e02.trans e24
  have sd4 := hs0.same e04
  have hg4 := e24 _ _ hg2
  walk_at "go"
  refine w_par ?_
  walk_at "go"
  refine ⟨g, _, rfl, .inl (SqL.of (e04 _ _ ht.at_)), ?_⟩
  rw [List.length_map, lr, lt]
  walk_at "go"
  refine ⟨s, (m : Int) - 1, rfl, sd4, by omega, by omega, fun k H5 hk b5 sd5 => ?_⟩
  walk_at "go"
  refine w_ixL (b5.at (e04 _ _ ht.at_) (by simpa using gs)) (ref_at ha0) ?_
  walk_at "go"
  refine ⟨a0, _, rfl, .inl (SqL.of (b5.at (e04 _ _ hx0) (by simpa using a0s))), ?_⟩
  rw [List.length_map, hl0]
  walk_at "go"
  refine ⟨s, (n : Int) - 1, rfl, sd5, by omega, by omega, fun j H6 hj b6 sd6 => ?_⟩
  have b46 := b5.trans b6
  have b06 := (BM.of e04).trans b46
  have pgs : pg ≠ s := src_ne hs0.src pg0
  have M6 : Mine s B0 H6 g rs t m n := M.draw b06 sd6.src
  have hg6 := b46.at hg4 (by simpa using pgs)
  have tk6 := tk_bm sd4 b46
  have hw6 : Paired (CellAt H6) ws hs := L2.Paired.mapP hw2 fun _ _ z => (z.same e24).tk tk6
  have hT6 := tabs_bm hs0 hT b06
  have pgr : ∀ r ∈ rs, pg ≠ r := fun r hr z => by
    obtain ⟨row, hrow⟩ := paired_has ht.rows hr
    have hrow : H r = some _ := hrow
    rw [← z, pg0] at hrow
    cases hrow
  clear hid2 hw2 hg2 hg4 sd4 sd5 e24 e02 e04 tab2 b5 b6 b46 hT M ht hx0 ha0 hr0 hl0 a0s tk6
  walk_at "go"
  refine ⟨_, _, rfl, ?_⟩
  dsimp only
  walk_at "go"
  refine list_open ?_
  walk_at "go"
  refine ⟨(by show 2 ≤ sizeLine; decide), fun q1 hq1 => ?_⟩
  have f1 := Same.new hq1 (.tup [V.int (k : Int), .int (j : Int)])
  have g1 : (upd H6 q1 (.tup [V.int (k : Int), .int (j : Int)])) q1 = some (.tup [.int (k : Int), .int (j : Int)]) := upd_same
  generalize upd H6 q1 (.tup [V.int (k : Int), .int (j : Int)]) = G1 at f1 g1 ⊢
  walk_at "go"
  refine ⟨_, rfl, ?_⟩
  walk_at "go"
  refine ⟨(by show 2 ≤ sizeLine; decide), fun q2 hq2 => ?_⟩
  have f2 := Same.new hq2 (.tup [V.int (k : Int), .int (-1)])
  have g2 : (upd G1 q2 (.tup [V.int (k : Int), .int (-1)])) q2 = some (.tup [.int (k : Int), .int (-1)]) := upd_same
  generalize upd G1 q2 (.tup [V.int (k : Int), .int (-1)]) = G2 at f2 g2 ⊢
  walk_at "go"
  refine ⟨_, rfl, ?_⟩
  walk_at "go"
  refine ⟨(by show 2 ≤ sizeLine; decide), fun q3 hq3 => ?_⟩
  have f3 := Same.new hq3 (.tup [V.int (-1), .int (j : Int)])
  have g3 : (upd G2 q3 (.tup [V.int (-1), .int (j : Int)])) q3 = some (.tup [.int (-1), .int (j : Int)]) := upd_same
  generalize upd G2 q3 (.tup [V.int (-1), .int (j : Int)]) = G3 at f3 g3 ⊢
  walk_at "go"
  refine ⟨_, rfl, ?_⟩
  walk_at "go"
  refine ⟨_, rfl, ?_⟩
  walk_at "go"
  refine ⟨(by show 2 ≤ sizeLine; decide), fun q4 hq4 => ?_⟩
  have f4 := Same.new hq4 (.tup [V.int (-1), .int (-1)])
  have g4 : (upd G3 q4 (.tup [V.int (-1), .int (-1)])) q4 = some (.tup [.int (-1), .int (-1)]) := upd_same
  generalize upd G3 q4 (.tup [V.int (-1), .int (-1)]) = G4 at f4 g4 ⊢
  walk_at "go"
  refine ⟨(by show 4 ≤ sizeLine; decide), fun pl hpl => ?_⟩
  have f5 := Same.new hpl (.lst [V.ref q1, .ref q2, .ref q3, .ref q4])
  have h7 : (upd G4 pl (.lst [V.ref q1, .ref q2, .ref q3, .ref q4])) pl = some (.lst [V.ref q1, .ref q2, .ref q3, .ref q4]) := upd_same
  have f14 := f1.trans (f2.trans (f3.trans f4))
  have plr : ∀ r ∈ rs, pl ≠ r := fun r hr z => by
    obtain ⟨row, hrow⟩ := paired_has (M6.tab.same f14).rows hr
    have hrow : G4 r = some _ := hrow
    rw [← z, hpl] at hrow
    cases hrow
  have e67 := f14.trans f5
  generalize upd G4 pl (.lst [V.ref q1, .ref q2, .ref q3, .ref q4]) = H7 at f5 h7 e67 ⊢
  have items : Paired (PosAt m n H7) [V.ref q1, .ref q2, .ref q3, .ref q4] (plusF m n k j) :=
    .cons ⟨q1, _, _, rfl, (f2.trans (f3.trans (f4.trans f5))) _ _ g1, .inl rfl, .inl rfl, by show k < m; omega, by show j < n; omega⟩
      (.cons ⟨q2, _, _, rfl, (f3.trans (f4.trans f5)) _ _ g2, .inl rfl, .inr ⟨rfl, by show n - 1 + 1 = n; omega⟩, by show k < m; omega, by show n - 1 < n; omega⟩
      (.cons ⟨q3, _, _, rfl, (f4.trans f5) _ _ g3, .inr ⟨rfl, by show m - 1 + 1 = m; omega⟩, .inl rfl, by show m - 1 < m; omega, by show j < n; omega⟩
      (.cons ⟨q4, _, _, rfl, f5 _ _ g4, .inr ⟨rfl, by show m - 1 + 1 = m; omega⟩, .inr ⟨rfl, by show n - 1 + 1 = n; omega⟩, by show m - 1 < m; omega, by show n - 1 < n; omega⟩ .nil)))
  clear f1 f2 f3 f4 g1 g2 g3 g4 f14 f5 hpl hq1 hq2 hq3 hq4
  generalize [V.ref q1, .ref q2, .ref q3, .ref q4] = xs at h7 items ⊢
  have hg7 := e67 _ _ hg6
  have sd7 := sd6.same e67
  have hw7 : Paired (CellAt H7) ws hs := L2.Paired.mapP hw6 fun _ _ z => CellAt.same e67 z
  have M7 : Mine s B0 H7 g rs t m n := ⟨M6.tab.same e67, hR, M6.nd, M6.ne, M6.fr, M6.p0, M6.bm.same e67, sd7.src, M6.s0⟩
  have hT7 := hT6.ext e67
  have x07 : ExM (s :: rs) H H7 := (ExM.bm b06 fun a ha => by rw [List.mem_singleton.mp ha]; exact List.mem_cons_self ..).trans (ExM.of e67)
  clear hg6 sd6 hw6 M6 hT6 b06 e67
  refine ⟨pl, rfl, ⟨_, SqL.of h7⟩, ?_⟩
  refine for_list (xs := xs) (fun (i : Nat) σ H' => ∃ (o7 o8 : Option V), σ = [some (.ref s), some (.ref g), some (.int few), some (.int width), some (.ref pg), some (.int (k : Int)), some (.int (j : Int)), o7, o8, none, none] ∧
      Mine s B0 H' g rs (moreF t ((plusF m n k j).take i)) m n ∧ Sd H' s ∧ Tk H7 H' ∧ H' pg = some (.lst ws) ∧ H' pl = some (.lst xs) ∧ Tabs (lamT PT) H' ∧ ExM (s :: rs) H H')
    ⟨none, none, rfl, M7, sd7, Tk.refl _, hg7, h7, hT7, x07⟩ (fun i σ H' _ ⟨_, _, _, _, _, _, _, hp, _⟩ => SqL.of hp) ?_ ?_
  · rintro i x σ H' hx ⟨o7, o8, rfl, M, sd, tk, hg, hp, hTb, xM⟩
    obtain ⟨q, hq, hxq⟩ := K3.Paired.get items hx
    obtain ⟨a, x1, y1, rfl, ha, hx1, hy1, c1', c2'⟩ := hxq.tk tk
    have tk1 : (plusF m n k j).take (i + 1) = (plusF m n k j).take i ++ [q] := by rw [List.take_add_one, hq]; rfl
    have mo := more_snoc t ((plusF m n k j).take i) q
    rw [← tk1] at mo
    generalize moreF t ((plusF m n k j).take (i + 1)) = u2 at mo ⊢
    generalize moreF t ((plusF m n k j).take i) = u at mo M ⊢
    subst mo
    obtain ⟨ar, r, har, hr', hxr⟩ := row_of M.tab (i := q.1) (by rw [M.rect.1]; exact c1')
    have lrr : r.length = n := M.rect.2 r (List.mem_of_getElem? hr')
    have lrs : rs.length = m := by rw [M.tab.rows.length, M.rect.1]
    have ai : atI (rs.map V.ref) x1 = some (.ref ar) := atI_any (by rw [List.length_map, lrs]; exact hx1) (by rw [List.getElem?_map, har]; rfl)
    have ri : ixN (r.map V.int).length y1 = some q.2 := ixN_any (by rw [List.length_map, lrr]; exact hy1) (by rw [List.length_map, lrr]; exact c2')
    have rv : atI (r.map V.int) y1 = some (.int (r.getD q.2 0)) := by
      unfold atI
      rw [ri]
      have := at_getD (r := r) (c := q.2) (by omega)
      unfold atI at this
      rw [ixN_any (.inl rfl) (by rw [List.length_map, lrr]; exact c2')] at this
      exact this
    refine w_gtup (SqT.of ha) rfl (w_gnn ?_)
    dsimp only
    walk_at "go"
    refine w_ixL M.tab.at_ ai ?_
    walk_at "go"
    refine w_ixL hxr rv ?_
    walk_at "go"
    refine w_ixL M.tab.at_ ai ?_
    walk_at "go"
    refine w_setL hxr ri ?_
    have mem : ar ∈ rs := List.mem_of_getElem? har
    have put := M.put har hr' (j := q.2) (r.getD q.2 0 + 1)
    have hadd : u.set q.1 (r.set q.2 (r.getD q.2 0 + 1)) = addAt u q 1 := by
      have : u.getD q.1 [] = r := by
        rw [List.getD_eq_getElem?_getD, hr']
        rfl
      unfold addAt
      rw [at2_of hr', this]
    rw [hadd] at put
    have hset : (r.map V.int).set q.2 (V.int (r.getD q.2 0 + 1)) = (r.set q.2 (r.getD q.2 0 + 1)).map V.int := by rw [List.map_set]
    rw [hset]
    exact ⟨_, _, rfl, put, sd.upd (rss ar mem) _, tk.trans (Tk.upd hxr fun xs e => by cases e), by rw [upd_ne (pgr ar mem)]; exact hg, by rw [upd_ne (plr ar mem)]; exact hp, tabs_upd hxr _ hTb, xM.trans (ExM.upd (List.mem_cons_of_mem _ mem) _)⟩
  rintro σ H8 ⟨o7, o8, rfl, M, sd8, tk8, hg8, hp8, hT8, x8⟩
  have lx : xs.length = 4 := items.length
  rw [lx, show (plusF m n k j).take 4 = plusF m n k j from rfl] at M
  obtain ⟨gu, nu⟩ := plus_grid gt (k := k) (j := j) (by omega) (by omega)
  generalize moreF t (plusF m n k j) = u at M gu nu
  have hw8 : Paired (CellAt H8) ws hs := L2.Paired.mapP hw7 fun _ _ z => z.tk tk8
  have u0 : u.length ≤ 10000 := by rw [M.rect.1]; omega
  have tabM := M.tab
  clear hw7 tk8 M7 sd7 h7 hg7 hT7 x07 items nu gt
  have l60 : (cellsOf m n).dropLast.length ≤ 60 := by omega
  walk_at "go"
  refine lcAt_open (list_open ?_)
  walk_at "go"
  refine ⟨g, rfl, ⟨_, SqL.of tabM.at_⟩, fun D2 hD2 => ?_⟩
  refine rows_new (fun r => r) tabM u0 hD2 (fun x => rfl) ?_ ?_
  · intro b r H1 e1 hr hb Q' q'
    walk_at "go"
    refine ⟨b, _, rfl, .inl (SqL.of hb), fun l1 hl1 => ?_⟩
    exact q' l1 _ hl1 (Same.new hl1 _) upd_same
  intro H9 rs2 e9 tab9 nd2 fr2
  rw [List.map_id'] at tab9
  have hid8 : ∀ H', Same H8 H' → HidIn K H' (.ref pg) hs m n := fun H' e => ⟨pg, ws, rfl, .inl (SqL.of (e _ _ hg8)), L2.Paired.mapP hw8 fun _ _ z => z.same e, hmem, hlen⟩
  walk_at "go"
  refine w_callN ?_
  walk_at "go"
  refine ⟨rfl, rfl, ?_⟩
  refine ⟨g, .ref pg, few, width, rs, u, m, n, hs, rfl, (tabM.same e9).gt, gu, m10, n10, fw2, wd1, hid8 _ e9, fun H10 e10 => ?_⟩
  have e810 := e9.trans e10
  walk_at "go"
  refine ⟨D2, .ref pg, few, width, rs2, u, m, n, hs, rfl, tab9.same e10, gu, m10, n10, hid8 _ e810, fun H11 e11 => ⟨fun sf => ?_, fun c sf v hv => ?_⟩⟩
  · walk_at "go"
    refine ⟨rfl, ?_⟩
    rw [decide_eq_true (rfl : V.non = V.non), decide_eq_true sf]
    refine ⟨rfl, ?_⟩
    rw [decide_eq_true rfl]
    walk_at "go"
    have e811 := e810.trans e11
    refine ⟨g, few, width, rs, u, m, n, rfl, (tabM.same e811).gt, gu, m10, n10, fw2, wd1, hT8.ext e811, fun H12 v1 x12 t12 o1 _ => ?_⟩
    walk_at "go"
    refine ⟨D2, few, width, rs2, u, m, n, rfl, tab_ext x12 ((tab9.same e10).same e11), gu, by omega, by omega, l60, fun H13 v2 e13 o2 => ?_⟩
    refine ⟨_, _, (o1.same e13).dp, o2.dp, out_shaped _ _, out_shaped _ _, ?_⟩
    rw [out_eqv]
    exact ok H13 (((x8.trans (ExM.of e811)).trans (ExM.ext x12)).trans (ExM.of e13)) (t12.ext e13)
  · obtain ⟨va, rfl, hva⟩ := id hv
    walk_at "go"
    refine ⟨rfl, ?_⟩
    rw [decide_eq_false ((fun z => nomatch z) : ¬ V.ref va = V.non), decide_eq_false (fun z => by rw [sf] at z; cases z)]
    refine ⟨rfl, ?_⟩
    rw [decide_eq_true rfl]
    walk_at "go"
    have e811 := e810.trans e11
    refine ⟨g, few, width, rs, u, m, n, rfl, (tabM.same e811).gt, gu, m10, n10, fw2, wd1, hT8.ext e811, fun H12 v1 x12 t12 o1 _ => ?_⟩
    walk_at "go"
    refine ⟨D2, few, width, rs2, u, m, n, rfl, tab_ext x12 ((tab9.same e10).same e11), gu, by omega, by omega, l60, fun H13 v2 e13 o2 => ?_⟩
    refine ⟨_, _, (o1.same e13).dp, o2.dp, out_shaped _ _, out_shaped _ _, ?_⟩
    rw [out_eqv]
    exact ok H13 (((x8.trans (ExM.of e811)).trans (ExM.ext x12)).trans (ExM.of e13)) (t12.ext e13)
end
end K3
end K7_part
section K8_part
set_option Elab.async false
set_option linter.all false
set_option maxRecDepth 100000
set_option maxHeartbeats 1000000
set_option pp.deepTerms.threshold 5
open PySem PySem.Spec PyProof.Rows L2
/-- go on as far as nothing is open -/
local macro_rules | `(tactic| walk_at "go") => `(tactic| repeat (first
  | with_reducible refine w_seq ?_ | with_reducible refine w_next ?_ | with_reducible refine w_set ?_ | with_reducible refine w_drop ?_ | with_reducible refine w_ret ?_ | with_reducible refine w_retN ?_
  | with_reducible refine w_if ?_ | ((with_reducible refine' w_var ?hv ?_); (case hv => exact rfl)) | with_reducible refine w_c ?_ | with_reducible refine w_nil ?_ | with_reducible refine w_cons ?_ | with_reducible refine w_op ?_ | with_reducible refine w_un ?_
  | with_reducible refine w_test ?_ | with_reducible refine w_tB ?_ | with_reducible refine w_not ?_ | with_reducible refine w_and ?_ | with_reducible refine w_or ?_ | with_reducible refine w_bl ?_
  | with_reducible refine w_andV ?_ | with_reducible refine w_orV ?_ | with_reducible refine w_notV ?_ | with_reducible refine w_ifE ?_ | with_reducible refine w_chain ?_ | with_reducible refine w_i0 ?_
  | with_reducible refine w_call ?_ | with_reducible refine w_callS ?_ | with_reducible refine w_cB ?_ | with_reducible refine w_tup ?_ | with_reducible refine w_lst ?_ | with_reducible refine w_fldV ?_
  | with_reducible refine w_neF ?_ | with_reducible refine w_neT ?_ | with_reducible refine w_notN ?_ | with_reducible refine w_isN ?_ | with_reducible refine w_gname ?_ | with_reducible refine w_gsub ?_ | with_reducible refine w_asg ?_ | with_reducible refine w_sl ?_ | with_reducible refine w_noP ?_ | with_reducible refine w_int1 ?_ | with_reducible refine w_part ?_ | with_reducible refine w_yes ?_ | with_reducible refine w_nT ?_ | with_reducible refine w_nF ?_ | with_reducible refine w_iteT ?_ | with_reducible refine w_iteF ?_))
namespace K3
/-! ### a great grid: its scarce numbers are far from known -/
theorem mem_drop {m n i j : Nat} (m1 : 1 ≤ m) (n1 : 1 ≤ n) (hi : i < m) (hj : j < n) (h : ¬ (i, j) = (m - 1, n - 1)) : (i, j) ∈ (cellsOf m n).dropLast := by
  obtain ⟨m, rfl⟩ : ∃ k, m = k + 1 := ⟨m - 1, by omega⟩
  obtain ⟨n, rfl⟩ : ∃ k, n = k + 1 := ⟨n - 1, by omega⟩
  rw [cells_last]
  by_cases z : i < m
  · exact List.mem_append_left _ (cells_mem.mpr ⟨z, hj⟩)
  · refine List.mem_append_right _ ?_
    have e : i = m := by omega
    subst e
    unfold rowCells
    simp only [List.mem_map, List.mem_range]
    refine ⟨j, ?_, rfl⟩
    by_cases y : j = n
    · subst y
      exact absurd rfl h
    · omega
theorem addSum_len {r : List Int} {k : Nat} (h : r.length = k) : (addSum r).getD k 0 = r.sum := by
  unfold addSum
  rw [List.getD_eq_getElem?_getD, List.getElem?_append_right (by omega), h, Nat.sub_self]
  rfl
theorem tot_ws {m k : Nat} {t : List (List Int)} (hm : t.length = m) (hk : ∀ r ∈ t, r.length = k) : at2 (withSums k t) m k = (t.map List.sum).sum := by
  unfold at2 withSums
  have e : (t.map addSum ++ [(List.range (k + 1)).map fun c => (colOf (t.map addSum) c).sum]).getD m [] = (List.range (k + 1)).map fun c => (colOf (t.map addSum) c).sum := by
    rw [List.getD_eq_getElem?_getD, List.getElem?_append_right (by rw [List.length_map]; omega), List.length_map, hm, Nat.sub_self]
    rfl
  rw [e, List.getD_eq_getElem?_getD, List.getElem?_map, List.getElem?_range (by omega)]
  show (colOf (t.map addSum) k).sum = _
  congr 1
  unfold colOf
  rw [List.map_map]
  exact List.map_congr_left fun r hr => addSum_len (hk r hr)
theorem inner_at {t : List (List Int)} {m k i j : Nat} (hm : t.length = m) (hk : ∀ r ∈ t, r.length = k) (hi : i < m) (hj : j < k) : ∃ r, t[i]? = some r ∧ j < r.length ∧ at2 (withSums k t) i j = r.getD j 0 := by
  have hi' : i < t.length := by omega
  refine ⟨t[i], List.getElem?_eq_getElem hi', by rw [hk _ (List.getElem_mem hi')]; exact hj, ?_⟩
  have e : (withSums k t)[i]? = some (addSum t[i]) := by
    unfold withSums
    rw [List.getElem?_append_left (by rw [List.length_map]; exact hi'), List.getElem?_map, List.getElem?_eq_getElem hi']
    rfl
  rw [at2_of e]
  unfold addSum
  rw [List.getD_eq_getElem?_getD, List.getD_eq_getElem?_getD, List.getElem?_append_left (by rw [hk _ (List.getElem_mem hi')]; exact hj)]
theorem S_ge {n : Nat} {f : Nat → Int} (h : ∀ i < n, 1 ≤ f i) : (n : Int) ≤ S n f := by
  induction n with
  | zero => rw [S_zero]; omega
  | succ n ih =>
    rw [S_succ]
    have := ih fun i hi => h i (by omega)
    have := h n (by omega)
    omega
theorem sums_big {u : List (List Int)} {m k : Nat} (g : Grid u (m + 1) (k + 1)) (m3 : 3 ≤ m) (k3 : 3 ≤ k) (pos : ∀ i < m, ∀ j < k, 1 ≤ at2 u i j) : (∀ i < m, 3 ≤ at2 u i k) ∧ (∀ j < k, 3 ≤ at2 u m j) ∧ 3 ≤ at2 u m k := by
  have dk : ∀ j < k, decide (j = k + 1 - 1) = false := fun j hj => decide_eq_false (by omega)
  have dm : ∀ i < m, decide (i = m + 1 - 1) = false := fun i hi => decide_eq_false (by omega)
  have row : ∀ i < m, 3 ≤ at2 u i k := fun i hi => by
    have b := g.bal (true, i) (by unfold inPl; simp; omega)
    unfold net at b
    rw [if_pos rfl, S_succ] at b
    have e : S k (fun j => sg (m + 1) (k + 1) i j * at2 u i j) = S k fun j => at2 u i j := S_congr fun j hj => by
      unfold sg
      rw [dm i hi, dk j hj, if_pos rfl, Int.one_mul]
    have s1 : sg (m + 1) (k + 1) i k = -1 := by
      unfold sg
      rw [dm i hi, decide_eq_true (show k = k + 1 - 1 by omega), if_neg (by decide)]
    dsimp only at b
    rw [e, s1] at b
    have := S_ge (n := k) (f := fun j => at2 u i j) fun j hj => pos i hi j hj
    omega
  have col : ∀ j < k, 3 ≤ at2 u m j := fun j hj => by
    have b := g.bal (false, j) (by unfold inPl; simp; omega)
    unfold net at b
    rw [if_neg (show ¬ ((false, j) : Pl).1 = true from fun z => by cases z), S_succ] at b
    have e : S m (fun i => sg (m + 1) (k + 1) i j * at2 u i j) = S m fun i => at2 u i j := S_congr fun i hi => by
      unfold sg
      rw [dm i hi, dk j hj, if_pos rfl, Int.one_mul]
    have s1 : sg (m + 1) (k + 1) m j = -1 := by
      unfold sg
      rw [dk j hj, decide_eq_true (show m = m + 1 - 1 by omega), if_neg (by decide)]
    dsimp only at b
    rw [e, s1] at b
    have := S_ge (n := m) (f := fun i => at2 u i j) fun i hi => pos i hi j hj
    omega
  refine ⟨row, col, ?_⟩
  have := g.le_last (i := m) (j := 0) (by omega) (by omega)
  have := col 0 (by omega)
  simp only [Nat.add_sub_cancel] at *
  omega
def oneT (m k : Nat) (c : Nat × Nat) (x : Int) : List (List Int) := (List.range m).map fun i => (List.range k).map fun j => if (i, j) = c then x else 0
theorem one_len {m k : Nat} {c : Nat × Nat} {x : Int} : (oneT m k c x).length = m ∧ ∀ r ∈ oneT m k c x, r.length = k := by
  unfold oneT
  refine ⟨by simp, fun r hr => ?_⟩
  obtain ⟨i, _, rfl⟩ := List.mem_map.mp hr
  simp
theorem one_nn {m k : Nat} {c : Nat × Nat} {x : Int} (h : 0 ≤ x) : ∀ r ∈ oneT m k c x, ∀ y ∈ r, 0 ≤ y := fun r hr y hy => by
  unfold oneT at hr
  obtain ⟨i, _, rfl⟩ := List.mem_map.mp hr
  obtain ⟨j, _, rfl⟩ := List.mem_map.mp hy
  show 0 ≤ if (i, j) = c then x else 0
  split <;> omega
theorem one_sum {m k : Nat} {c : Nat × Nat} {x : Int} (c1 : c.1 < m) (c2 : c.2 < k) : ((oneT m k c x).map List.sum).sum = x := by
  have e : (oneT m k c x).map List.sum = (List.range m).map fun i => S k fun j => if (i, j) = c then x else 0 := by
    unfold oneT
    rw [List.map_map]
    rfl
  rw [e]
  show S m (fun i => S k fun j => if (i, j) = c then x else 0) = x
  rw [S_congr (g := fun i => if i = c.1 then x else 0) fun i hi => ?_, S_delta x c1]
  by_cases z : i = c.1
  · rw [if_pos z, S_congr (g := fun j => if j = c.2 then x else 0) fun j hj => ?_, S_delta x c2]
    by_cases y : j = c.2
    · rw [if_pos y, if_pos (Prod.ext z y)]
    · rw [if_neg y, if_neg fun q => y (congrArg Prod.snd q)]
  · rw [if_neg z]
    exact S_nul fun j hj => if_neg fun q => z (congrArg Prod.fst q)
theorem one_at {m k i j : Nat} {c : Nat × Nat} {x : Int} (hi : i < m) (hj : j < k) : at2 (withSums k (oneT m k c x)) i j = if (i, j) = c then x else 0 := by
  obtain ⟨r, hr, _, e⟩ := inner_at (t := oneT m k c x) one_len.1 one_len.2 hi hj
  rw [e]
  unfold oneT at hr
  rw [List.getElem?_map, List.getElem?_range hi] at hr
  cases hr
  rw [List.getD_eq_getElem?_getD, List.getElem?_map, List.getElem?_range hj]
  rfl
theorem one_fits {u : List (List Int)} {m k : Nat} {c : Nat × Nat} (g : Grid u (m + 1) (k + 1)) (m1 : 1 ≤ m) (c1 : c.1 < m) (c2 : c.2 < k) : Fit u (cellsOf (m + 1) (k + 1)).dropLast (withSums k (oneT m k c (at2 u m k))) (m + 1) (k + 1) := by
  have nn : 0 ≤ at2 u m k := g.nn m (by omega) k (by omega)
  obtain ⟨l1, l2⟩ := one_len (m := m) (k := k) (c := c) (x := at2 u m k)
  obtain ⟨f1, f2, f3, _⟩ := fit_self (t := oneT m k c (at2 u m k)) (fun r hr => ⟨l2 r hr, one_nn nn r hr⟩) l1 []
  refine ⟨f1, f2, f3, fun i hi j hj hn => ?_⟩
  by_cases z : (i, j) = (m + 1 - 1, k + 1 - 1)
  · injection z with z1 z2
    have z1 : i = m := z1
    have z2 : j = k := z2
    rw [z1, z2, tot_ws l1 l2, one_sum c1 c2]
  · exact absurd (mem_drop (by omega) (by omega) hi hj z) hn
theorem great_none {u : List (List Int)} {m k : Nat} {w : Int} (g : Grid u (m + 1) (k + 1)) (m3 : 3 ≤ m) (k3 : 3 ≤ k) (hl : (cellsOf (m + 1) (k + 1)).dropLast.length ≤ 100) (pos : ∀ i < m, ∀ j < k, 1 ≤ at2 u i j) (hw : w ≤ 3) :
    firstF u (m + 1) (k + 1) (cellsOf (m + 1) (k + 1)).dropLast (secretL u (m + 1) (k + 1) 3) w = none := by
  obtain ⟨b1, b2, b3⟩ := sums_big g m3 k3 pos
  refine first_none.mpr (safe_iff.mpr fun c hc => ?_)
  obtain ⟨hc1, hc2⟩ := List.mem_filter.mp hc
  simp only [Bool.and_eq_true, decide_eq_true_eq] at hc2
  obtain ⟨c1, c2, cl⟩ := drop_mem (by omega) (by omega) hc1
  refine ⟨hc1, ?_⟩
  have i1 : c.1 < m := by
    by_cases z : c.1 = m
    · by_cases y : c.2 = k
      · exact absurd (Prod.ext z y) cl
      · have := b2 c.2 (by omega)
        rw [← z] at this
        omega
    · omega
  have i2 : c.2 < k := by
    by_cases y : c.2 = k
    · have := b1 c.1 i1
      rw [← y] at this
      omega
    · omega
  have inb : ∀ x ∈ (cellsOf (m + 1) (k + 1)).dropLast, x.1 < m + 1 ∧ x.2 < k + 1 := fun x hx => cells_mem.mp (List.dropLast_subset _ hx)
  have last : (m + 1 - 1, k + 1 - 1) ∉ (cellsOf (m + 1) (k + 1)).dropLast := fun z => (drop_mem (by omega) (by omega) z).2.2 rfl
  have lo := (least_ok g inb hl hc1).2 _ (one_fits (c := (c.1, if c.2 = 0 then 1 else 0)) g (by omega) i1 (by show (if c.2 = 0 then 1 else 0) < k; split <;> omega))
  have hi := (most_ok g inb hl hc1 last).2 _ (one_fits (c := c) g (by omega) i1 i2)
  rw [one_at i1 i2, if_pos rfl] at hi
  rw [one_at i1 i2, if_neg (fun z => by
    have z2 : c.2 = if c.2 = 0 then 1 else 0 := congrArg Prod.snd z
    split at z2 <;> omega)] at lo
  unfold widthF
  omega
/-! ### what is left is safe, and none of it may be shown -/
theorem hid_sublist {t : List (List Int)} {m n : Nat} {ss : List (Nat × Nat)} {w : Int} : ∀ (os hi : List (Nat × Nat)), (os.foldl (stepF t m n ss w) hi).Sublist hi
  | [], hi => .refl _
  | c :: os, hi => by
    refine (hid_sublist os (stepF t m n ss w hi c)).trans ?_
    unfold stepF
    split
    · exact List.filter_sublist
    · exact .refl _
theorem hid_good {t : List (List Int)} {m n : Nat} {ss : List (Nat × Nat)} {w : Int} (g : Grid t m n) : ∀ (os hi ps : List (Nat × Nat)), firstF t m n hi ss w = none → (∀ k ∈ hi, k ∈ (cellsOf m n).dropLast) → hi.length ≤ 100 → (∀ k ∈ ps, k ∈ hi → firstF t m n (othersF hi k) ss w ≠ none) →
    firstF t m n (os.foldl (stepF t m n ss w) hi) ss w = none ∧ ∀ k, k ∈ ps ∨ k ∈ os → k ∈ os.foldl (stepF t m n ss w) hi → firstF t m n (othersF (os.foldl (stepF t m n ss w) hi) k) ss w ≠ none
  | [], hi, ps, h, sub, hl, bad => ⟨h, fun k hk => bad k (hk.elim id fun z => by cases z)⟩
  | c :: os, hi, ps, h, sub, hl, bad => by
    have inb : ∀ x ∈ hi, x.1 < m ∧ x.2 < n := fun x hx => cells_mem.mp (List.dropLast_subset _ (sub x hx))
    have last : (m - 1, n - 1) ∉ hi := fun z => (drop_mem g.m1 g.n1 (sub _ z)).2.2 rfl
    have key : firstF t m n (stepF t m n ss w hi c) ss w = none ∧ (∀ k ∈ c :: ps, k ∈ stepF t m n ss w hi c → firstF t m n (othersF (stepF t m n ss w hi c) k) ss w ≠ none) := by
      unfold stepF
      by_cases z : c ∉ ss ∧ firstF t m n (othersF hi c) ss w = none
      · rw [if_pos z]
        refine ⟨z.2, fun k hk hm => ?_⟩
        rcases List.mem_cons.mp hk with e | hk
        · exact absurd e (others_mem.mp hm).2
        · obtain ⟨hm1, hm2⟩ := others_mem.mp hm
          intro q
          refine bad k hk hm1 (first_none.mpr ?_)
          refine safe_mono g (fun x hx => inb x (others_mem.mp hx).1) (Nat.le_trans (List.length_filter_le _ _) (Nat.le_trans (List.length_filter_le _ _) hl)) (Nat.le_trans (List.length_filter_le _ _) hl) (fun y => last (others_mem.mp y).1) (fun x hx => others_mem.mpr ⟨(others_mem.mp (others_mem.mp hx).1).1, (others_mem.mp hx).2⟩) (first_none.mp q)
      · rw [if_neg z]
        refine ⟨h, fun k hk hm => ?_⟩
        rcases List.mem_cons.mp hk with e | hk
        · subst e
          intro q
          by_cases y : k ∈ ss
          · have := safe_out (t := t) (m := m) (n := n) (w := w) y (cs := othersF hi k) fun x => (others_mem.mp x).2 rfl
            rw [first_none.mp q] at this
            cases this
          · exact z ⟨y, q⟩
        · exact bad k hk hm
    obtain ⟨s1, s2⟩ := step_sub (t := t) (m := m) (n := n) (ss := ss) (w := w) (hi := hi) (c := c)
    obtain ⟨r1, r2⟩ := hid_good g os (stepF t m n ss w hi c) (c :: ps) key.1 (fun k hk => sub k (s1 k hk)) (Nat.le_trans s2 hl) key.2
    exact ⟨r1, fun k hk => r2 k (hk.elim (fun x => .inl (List.mem_cons_of_mem _ x)) fun x => (List.mem_cons.mp x).elim (fun e => .inl (by rw [e]; exact List.mem_cons_self ..)) .inr)⟩
theorem hid_all {t : List (List Int)} {m n : Nat} {few w : Int} (g : Grid t m n) (hl : (cellsOf m n).dropLast.length ≤ 100) (h : firstF t m n (cellsOf m n).dropLast (secretL t m n few) w = none) :
    firstF t m n (hidF t m n few w) (secretL t m n few) w = none ∧ (∀ k ∈ hidF t m n few w, firstF t m n (othersF (hidF t m n few w) k) (secretL t m n few) w ≠ none) ∧ (hidF t m n few w).Pairwise lexP := by
  obtain ⟨a, b⟩ := hid_good (ss := secretL t m n few) (w := w) g (ordF t (cellsOf m n).dropLast) (cellsOf m n).dropLast [] h (fun _ x => x) hl (fun k hk => by cases hk)
  refine ⟨a, fun k hk => b k (.inr (ord_mem.mpr (hid_sub.1 k hk))) hk, (drop_lex m n).sublist (hid_sublist _ _)⟩
/-! ### sorted(xs) of cells that stand in order -/
theorem cells_shape (hs : List (Nat × Nat)) : SeqAt.shaped (.list (hs.map cellD)) = true ∧ PyData.eqv (.list (hs.map cellD)) (.list (hs.map cellD)) = true := by
  obtain ⟨b1, b2⟩ := lay_cells hs
  have c : (PyData.list (hs.map cellD)).canLay0 = true := by simpa only [PyData.canLay0] using b1
  have := (plain_cells hs).2
  refine ⟨?_, SeqAt.eqv_refl _ c⟩
  unfold SeqAt.shaped
  rw [c, decide_eq_true (by simp only [PyData.depth]; omega : (PyData.list (hs.map cellD)).depth ≤ 64)]
  rfl
theorem cell_keys (H : Hp) : ∃ k : V → Int × Int, ∀ v c, CellAt H v c → k v = ((c.1 : Int), (c.2 : Int)) := by
  have kd : ∀ v, ∃ d : Int × Int, ∀ c : Nat × Nat, CellAt H v c → d = ((c.1 : Int), (c.2 : Int)) := fun v => by
    by_cases z : ∃ c, CellAt H v c
    · obtain ⟨k, hk⟩ := z
      refine ⟨((k.1 : Int), (k.2 : Int)), fun k' hk' => ?_⟩
      obtain ⟨a, rfl, ha⟩ := hk
      obtain ⟨a', e, ha'⟩ := hk'
      cases e
      rw [ha] at ha'
      simp only [Option.some.injEq, HO.tup.injEq, List.cons.injEq, V.int.injEq, and_true] at ha'
      exact Prod.ext (by omega) (by omega)
    · exact ⟨(0, 0), fun k hk => absurd ⟨k, hk⟩ z⟩
  exact ⟨fun v => (kd v).choose, fun v c h => (kd v).choose_spec c h⟩
theorem sorted_same {K : PySem.W.Frag} {H : Hp} {a : Addr} {ws : List V} {hs : List (Nat × Nat)} {Q : VK} (h : H a = some (.lst ws)) (hw : Paired (CellAt H) ws hs) (lx : hs.Pairwise lexP) (q : ∀ p, H p = none → Q (.ref p) (L2.upd H p (.lst ws))) : rSortedPO K [.ref a] H Q := by
  obtain ⟨k, hk⟩ := cell_keys H
  refine ⟨a, ws, k, rfl, SqL.of h, fun x hx => ?_, fun ys p s1 s2 hp => ?_⟩
  · obtain ⟨i, hi⟩ := List.getElem?_of_mem hx
    obtain ⟨c, _, hc⟩ := K3.Paired.get hw hi
    obtain ⟨t, e, ht⟩ := id hc
    exact ⟨t, e, by rw [hk x c hc]; exact ht⟩
  · have srt : SrtO.Srtd (ltP k) ws := by
      have flip : ∀ {ws : List V} {hs : List (Nat × Nat)}, Paired (CellAt H) ws hs → hs.Pairwise lexP → ws.Pairwise fun x y => ltP k y x = false := by
        intro ws hs hw
        induction hw with
        | nil => intro _; exact .nil
        | cons h t ih =>
          intro lx
          obtain ⟨l1, l2⟩ := List.pairwise_cons.mp lx
          refine List.pairwise_cons.mpr ⟨fun y hy => ?_, ih l2⟩
          obtain ⟨i, hi⟩ := List.getElem?_of_mem hy
          obtain ⟨d, hd, hdc⟩ := K3.Paired.get t hi
          have := l1 d (List.mem_of_getElem? hd)
          refine SrtO.lexB_no.mpr ?_
          rw [hk _ _ h, hk _ _ hdc]
          unfold lexP at this
          dsimp only
          omega
      exact flip hw lx
    rw [SrtO.stb_uniq (ltP_swo k) s1 srt s2]
    exact q p hp
end K3
end K8_part
section K9_part
set_option Elab.async false
set_option linter.all false
set_option maxRecDepth 100000
set_option maxHeartbeats 1000000
set_option pp.deepTerms.threshold 5
open PySem PySem.Spec PyProof.Rows L2
/-- go on as far as nothing is open -/
local macro_rules | `(tactic| walk_at "go") => `(tactic| repeat (first
  | with_reducible refine w_seq ?_ | with_reducible refine w_next ?_ | with_reducible refine w_set ?_ | with_reducible refine w_drop ?_ | with_reducible refine w_ret ?_ | with_reducible refine w_retN ?_
  | with_reducible refine w_if ?_ | ((with_reducible refine' w_var ?hv ?_); (case hv => exact rfl)) | with_reducible refine w_c ?_ | with_reducible refine w_nil ?_ | with_reducible refine w_cons ?_ | with_reducible refine w_op ?_ | with_reducible refine w_un ?_
  | with_reducible refine w_test ?_ | with_reducible refine w_tB ?_ | with_reducible refine w_not ?_ | with_reducible refine w_and ?_ | with_reducible refine w_or ?_ | with_reducible refine w_bl ?_
  | with_reducible refine w_andV ?_ | with_reducible refine w_orV ?_ | with_reducible refine w_notV ?_ | with_reducible refine w_ifE ?_ | with_reducible refine w_chain ?_ | with_reducible refine w_i0 ?_
  | with_reducible refine w_call ?_ | with_reducible refine w_callS ?_ | with_reducible refine w_cB ?_ | with_reducible refine w_tup ?_ | with_reducible refine w_lst ?_ | with_reducible refine w_fldV ?_
  | with_reducible refine w_neF ?_ | with_reducible refine w_neT ?_ | with_reducible refine w_notN ?_ | with_reducible refine w_isN ?_ | with_reducible refine w_gname ?_ | with_reducible refine w_gsub ?_ | with_reducible refine w_asg ?_ | with_reducible refine w_sl ?_ | with_reducible refine w_noP ?_ | with_reducible refine w_int1 ?_ | with_reducible refine w_part ?_ | with_reducible refine w_yes ?_ | with_reducible refine w_nT ?_ | with_reducible refine w_nF ?_ | with_reducible refine w_iteT ?_ | with_reducible refine w_iteF ?_))
namespace K3
open SLam LamX
def spLGreatR (PT : Addr) (K : PySem.W.Frag) : Sp := fun vs H Q _ => ∃ s : Addr, vs = [.ref s] ∧ Sd H s ∧ Tabs (lamT PT) H ∧ ∀ H', Q (.bl true) H'
section
variable {P : Program} {w : World} {K : PySem.W.Frag} {mg : Str → Option Value} {base : Heap}
theorem sc_great_right : FnScope ["_law_s", "_law_grid", "_law_scarce", "_law_span", "_law_word", "_law_gone", "_law_place", "_law_fewer", "_law_one"] ["_law_s"] (defScope s__law_great_right) := ⟨rfl, rfl, rfl, by decide +kernel, rfl, by decide +kernel, by decide +kernel⟩
theorem ok_great_right {ct PT : Addr} (T : Tx K mg) (B : Told K mg base "greatest_first" ct PT) : Ok P w K mg base 12 (He.ga K "_law_great_right") ["_law_s"] (spLGreatR PT K) := by
  obtain ⟨fd, F⟩ := T.f__law_great_right
  have O_law_first_near := ok_first_near (P := P) (w := w) (base := base) T
  have O_law_found := ok_found (P := P) (w := w) (base := base) T B
  have O_law_digit := ok_digit (P := P) (w := w) (base := base) T
  have O_law_great_grid := ok_great_grid (P := P) (w := w) (base := base) T
  refine ⟨fd, F.ok (k := 11) sc_great_right (fun vs H Q E h => ?_) (fun cdv A outer s_ H vs Q E hr h => ?_), F.bindsN fun _ _ _ _ _ _ us hl => match us, hl with | [_], _ => rfl, F.kp⟩
  · obtain ⟨s, rfl, s0, hT, ok⟩ := h
    rfl
  obtain ⟨s, rfl, s0, hT, ok⟩ := h
  have Ois_safe := ok_is_safe (P := P) (w := w) (base := base) T
  have ris_safe : Room 10 _ := hr.mono (by decide)
  have hu65 := K3.Room.units65 hr
  have hu64 := Nat.lt_of_succ_lt hu65
  have hu0 := Nat.lt_of_le_of_lt (Nat.le_add_right _ 65) hu65
  have hu1 := Nat.lt_of_le_of_lt (Nat.add_le_add_left (show 1 ≤ 65 by decide) _) hu65
  have r_law_first_near : Room 9 _ := hr.mono (by decide)
  have r_law_found : Room 11 _ := hr.mono (by decide)
  have r_law_digit : Room 1 _ := hr.mono (by decide)
  have r_law_great_grid : Room 2 _ := hr.mono (by decide)
  refine ⟨_, pss_cons (ps_set (i := 1) sc_great_right.nd rfl (Or.inl rfl) (pe_f O_law_great_grid r_law_great_grid T.g__law_great_grid (pa_cons (pv 0) pa_nil)))
      (pss_cons (ps_par (by rfl) sc_great_right.nd (i := 2) (j := 3) rfl rfl (by decide) rfl rfl (pa_cons pe_int (pa_cons (pe_op op_add pe_int (pe_f O_law_digit r_law_digit T.g__law_digit (pa_cons (pv 0) (pa_cons pe_int pa_nil)))) pa_nil)) (by rfl))
      (pss_cons (ps_asg (pe_f O_law_found r_law_found T.g__law_found (pa_cons (pv 1) (pa_cons (pv 2) (pa_cons (pv 3) pa_nil)))) (pg_tup (by rfl) (pgs_cons (pg_name (i := 4) sc_great_right.nd rfl (Or.inl rfl)) (pgs_cons (pg_name (i := 5) sc_great_right.nd rfl (Or.inl rfl)) pgs_nil))))
      (pss_cons (ps_if (pw_or (pt_cmpR op_eq (pv 4) pe_str (nomark _)) (pw_or (pt_cmpR (op_neD hu64) (pe_callB cr_sortedPO (by rfl) T.z_sorted (by decide +kernel) (pa_cons (pv 5) pa_nil)) (pv 5) (nomark _)) (pw_or1 (pt_cmp (pc_notN (pe_f O_law_first_near r_law_first_near T.g__law_first_near (pa_cons (pv 1) (pa_cons (pv 5) (pa_cons (pv 2) (pa_cons (pv 3) pa_nil)))))))))).pt (pss_one (ps_ret pe_bl)) pss_nil)
      (pss_cons (ps_if (pt_not (pt_val (pe_fK Ois_safe ris_safe T.g_is_safe (pa_cons (pv 1) (pa_cons (pv 5) pa_nil)) (pk_cons (pv 2) (pk_cons (pv 3) pk_nil))))) (pss_one (ps_ret pe_bl)) pss_nil)
      (pss_cons (ps_for (passes_of rfl) (by rfl) (pi_list (pv 5)) (pg_name (i := 6) sc_great_right.nd rfl (Or.inr rfl)) (pss_cons (by exact ps_setLc (i := 7) (own := [("_law_one", 8)]) (g := gName 8) (tt := (tTest (tOp (rNeD K) (tVar 8) (tVar 6)))) (te := (tVar 8)) (by rfl) sc_great_right.nd rfl rfl (by rfl) (pi_list (pv 5)) (blkOk_by (own := [("_law_one", 8)]) (N := ["_law_s", "_law_grid", "_law_scarce", "_law_span", "_law_word", "_law_gone", "_law_place", "_law_fewer", "_law_one"]) (sc := defScope s__law_great_right) (by decide +kernel)) (fun _ _ _ _ _ => (pg_name (i := 8) sc_great_right.nd rfl (Or.inl rfl))) (fun _ _ _ _ _ => (pts_one (pt_cmpR (op_neD hu64) (pv 8) (pv 6) (nomark _)))) (fun _ _ _ _ _ => (pv 8)))
      (pss_one (ps_if (pw_or (pt_cmp (pc_isN (pe_f O_law_first_near r_law_first_near T.g__law_first_near (pa_cons (pv 1) (pa_cons (pv 7) (pa_cons (pv 2) (pa_cons (pv 3) pa_nil))))))) (pw_or1 (pt_val (pe_fK Ois_safe ris_safe T.g_is_safe (pa_cons (pv 1) (pa_cons (pv 7) pa_nil)) (pk_cons (pv 2) (pk_cons (pv 3) pk_nil)))))).pt (pss_one (ps_ret pe_bl)) pss_nil))))
      (pss_one (ps_ret pe_bl))))))), ?_⟩
  walk_at "go"
  refine ⟨s, rfl, s0, fun g H1 rs t0 m k m3 m5 k3 k4 b1 s1 new1 tab1 lt hk => ?_⟩
  have gG : Grid (withSums k t0) (m + 1) (k + 1) := fit_grid (by omega) (by omega) (fit_self (fun r hr => ⟨(hk r hr).1, fun x hx => by have := (hk r hr).2 x hx; omega⟩) lt [])
  have pos : ∀ i < m, ∀ j < k, 1 ≤ at2 (withSums k t0) i j := fun i hi j hj => by
    obtain ⟨r, hr, lj, e⟩ := inner_at lt (fun r hr => (hk r hr).1) hi hj
    rw [e, List.getD_eq_getElem?_getD, List.getElem?_eq_getElem lj]
    exact (hk r (List.mem_of_getElem? hr)).2 _ (List.getElem_mem lj)
  have gs : g ≠ s := src_ne s0.src new1.p0
  have rss : ∀ r ∈ rs, r ≠ s := fun r hr => src_ne s0.src (new1.rs0 r hr)
  generalize withSums k t0 = G at gG pos tab1
  have m10 : m + 1 ≤ 10 := by omega
  have n10 : k + 1 ≤ 10 := by omega
  have hl : (cellsOf (m + 1) (k + 1)).dropLast.length ≤ 30 := by
    rw [List.length_dropLast, cells_len]
    have := Nat.mul_le_mul (show m + 1 ≤ 6 by omega) (show k + 1 ≤ 5 by omega)
    omega
  walk_at "go"
  refine w_par ?_
  walk_at "go"
  refine ⟨s, 3, rfl, s1, by decide, by decide, fun r H2 r1 b2 s2 => ?_⟩
  walk_at "go"
  refine ⟨_, _, rfl, ?_⟩
  dsimp only
  have wd1 : (1 : Int) ≤ 1 + (r : Int) := by omega
  have wd3 : (1 : Int) + (r : Int) ≤ 3 := by omega
  generalize (1 : Int) + (r : Int) = width at wd1 wd3 ⊢
  have tab2 := tab1.bm b2 gs rss
  have hT2 := tabs_bm s1 (tabs_bm s0 hT b1) b2
  have none0 := great_none (w := width) gG m3 k3 (by omega) pos wd3
  obtain ⟨hs1, hs2, hs3⟩ := hid_all gG (by omega) none0
  obtain ⟨hsub, hlen⟩ := hid_sub (t := G) (m := m + 1) (n := k + 1) (few := 3) (w := width)
  clear tab1 b1 b2 s1 s2 hT pos new1 lt hk wd3 s0
  walk_at "go"
  refine ⟨g, 3, width, rs, G, m + 1, k + 1, rfl, tab2.gt, gG, m10, n10, by decide, wd1, hT2, fun H3 v x3 t3 o1 _ => ?_⟩
  obtain ⟨a, rfl, ho⟩ := o1
  rcases ho with ⟨_, p, ws, ha, hp, hw⟩ | ⟨c, hc, _⟩
  case inr =>
    rw [none0] at hc
    cases hc
  have tab3 := tab_ext x3 tab2
  generalize hidF G (m + 1) (k + 1) 3 width = hs at hs1 hs2 hs3 hsub hlen hw
  have l60 : hs.length ≤ 60 := by omega
  have hid : ∀ H', Same H3 H' → HidIn K H' (.ref p) hs (m + 1) (k + 1) := fun H' e => ⟨p, ws, rfl, .inl (SqL.of (e _ _ hp)), L2.Paired.mapP hw fun _ _ z => CellAt.same e z, hsub, l60⟩
  clear tab2 hT2 x3 none0
  refine w_gtup (SqT.of ha) rfl (w_gnn ?_)
  dsimp only
  walk_at "go"
  refine ⟨rfl, ?_⟩
  rw [show decide (V.str ("told" : Str) = V.str ("unsafe" : Str)) = false by decide]
  walk_at "go"
  refine sorted_same hp hw hs3 fun p2 hp2 => ?_
  have e4 := Same.new hp2 (.lst ws)
  have hp4 : (upd H3 p2 (.lst ws)) p2 = some (.lst ws) := upd_same
  generalize upd H3 p2 (.lst ws) = H4 at e4 hp4 ⊢
  have cd4 := cells_dp (K := K) (L2.Paired.mapP hw fun _ _ z => CellAt.same e4 z)
  walk_at "go"
  refine ⟨_, _, Dp.lst (SqL.of hp4) cd4, Dp.lst (SqL.of (e4 _ _ hp)) cd4, (cells_shape hs).1, (cells_shape hs).1, ?_⟩
  rw [(cells_shape hs).2]
  walk_at "go"
  refine ⟨g, .ref p, 3, width, rs, G, m + 1, k + 1, hs, rfl, tab3.same e4, gG, m10, n10, hid _ e4, fun H5 e5 => ⟨fun sf => ?_, fun c sf v hv => ?_⟩⟩
  case refine_2 =>
    rw [hs1] at sf
    cases sf
  have e35 := e4.trans e5
  walk_at "go"
  rw [decide_eq_true (rfl : V.non = V.non)]
  walk_at "go"
  refine w_callN ?_
  walk_at "go"
  refine ⟨rfl, rfl, ?_⟩
  refine ⟨g, .ref p, 3, width, rs, G, m + 1, k + 1, hs, rfl, (tab3.same e35).gt, gG, m10, n10, by decide, wd1, hid _ e35, fun H6 e6 => ?_⟩
  rw [decide_eq_true hs1]
  have e36 := e35.trans e6
  walk_at "go"
  refine list_open ?_
  walk_at "go"
  refine ⟨p, rfl, ⟨_, SqL.of (e36 _ _ hp)⟩, ?_⟩
  refine for_list (xs := ws) (fun (i : Nat) σ H' => ∃ o6 o7 : Option V, σ = [some (.ref s), some (.ref g), some (.int 3), some (.int width), some (.str ("told" : Str)), some (.ref p), o6, o7, none] ∧ Same H3 H')
    ⟨_, _, rfl, e36⟩ (fun i σ H' _ ⟨_, _, _, e⟩ => SqL.of (e _ _ hp)) ?_ ?_
  · rintro i v σ H7 hx ⟨o6, o7, rfl, e7⟩
    obtain ⟨cc, hcc, hv⟩ := K3.Paired.get hw hx
    have hcm : cc ∈ hs := List.mem_of_getElem? hcc
    have hv7 := hv.same e7
    have lo : (othersF hs cc).length ≤ 60 := Nat.le_trans (List.length_filter_le _ _) l60
    walk_at "go"
    refine lcAt_open (list_open ?_)
    walk_at "go"
    refine ⟨p, rfl, ⟨_, SqL.of (e7 _ _ hp)⟩, fun D hD => ?_⟩
    have hw7 := L2.Paired.mapP hw fun _ _ z => CellAt.same e7 z
    refine items_gen (F := CellAt) (G := CellAt) (fun e h => CellAt.same e h) (fun e h => CellAt.tk e h) (fun k => !decide (k = cc)) (fun c => c) (SqL.of (e7 _ _ hp)) hw7 hD (by rw [hw.length]; omega) ?_ ?_
    · intro v' c' H8 e8 hc' hv' R' r1 r2
      walk_at "go"
      refine ⟨rfl, ?_⟩
      walk_at "go"
      refine ⟨cellD c', cellD cc, cell_dp hv', cell_dp (hv7.same e8), cell_shaped _, cell_shaped _, ?_⟩
      rw [cell_eqv]
      by_cases z : c' = cc
      · rw [decide_eq_true z]
        walk_at "go"
        exact r1 _ (Same.refl _) (by rw [decide_eq_true z]; rfl)
      · rw [decide_eq_false z]
        walk_at "go"
        exact r2 _ _ (Same.refl _) (by rw [decide_eq_false z]; rfl) hv'
    intro H8 zs e8 hD8 hz
    rw [List.map_id'] at hz
    have hz : Paired (CellAt H8) zs (othersF hs cc) := hz
    have e38 := e7.trans e8
    have hid8 : ∀ H', Same H8 H' → HidIn K H' (.ref D) (othersF hs cc) (m + 1) (k + 1) := fun H' e => ⟨D, zs, rfl, .inl (SqL.of (e _ _ hD8)), L2.Paired.mapP hz fun _ _ z => CellAt.same e z, fun x hx => hsub x (others_mem.mp hx).1, lo⟩
    walk_at "go"
    refine ⟨g, .ref D, 3, width, rs, G, m + 1, k + 1, othersF hs cc, rfl, tab3.same e38, gG, m10, n10, hid8 _ (Same.refl _), fun H9 e9 => ⟨fun sf => ?_, fun c sf v2 hv2 => ?_⟩⟩
    · exact absurd sf (hs2 cc hcm)
    obtain ⟨va, rfl, hva⟩ := id hv2
    walk_at "go"
    rw [decide_eq_false ((fun z => nomatch z) : ¬ V.ref va = V.non)]
    walk_at "go"
    refine w_callN ?_
    walk_at "go"
    refine ⟨rfl, rfl, ?_⟩
    have e39 := e38.trans e9
    refine ⟨g, .ref D, 3, width, rs, G, m + 1, k + 1, othersF hs cc, rfl, (tab3.same e39).gt, gG, m10, n10, by decide, wd1, hid8 _ e9, fun H10 e10 => ?_⟩
    rw [decide_eq_false (hs2 cc hcm)]
    walk_at "go"
    exact ⟨_, _, rfl, e39.trans e10⟩
  rintro σ H7 ⟨o6, o7, rfl, e7⟩
  walk_at "go"
  exact ok H7
end
end K3
end K9_part
section K10_part
set_option Elab.async false
set_option linter.all false
set_option maxRecDepth 100000
set_option maxHeartbeats 1000000
set_option pp.deepTerms.threshold 5
open PySem PySem.Spec PyProof.Rows L2
/-- go on as far as nothing is open -/
local macro_rules | `(tactic| walk_at "go") => `(tactic| repeat (first
  | with_reducible refine w_seq ?_ | with_reducible refine w_next ?_ | with_reducible refine w_set ?_ | with_reducible refine w_drop ?_ | with_reducible refine w_ret ?_ | with_reducible refine w_retN ?_
  | with_reducible refine w_if ?_ | ((with_reducible refine' w_var ?hv ?_); (case hv => exact rfl)) | with_reducible refine w_c ?_ | with_reducible refine w_nil ?_ | with_reducible refine w_cons ?_ | with_reducible refine w_op ?_ | with_reducible refine w_un ?_
  | with_reducible refine w_test ?_ | with_reducible refine w_tB ?_ | with_reducible refine w_not ?_ | with_reducible refine w_and ?_ | with_reducible refine w_or ?_ | with_reducible refine w_bl ?_
  | with_reducible refine w_andV ?_ | with_reducible refine w_orV ?_ | with_reducible refine w_notV ?_ | with_reducible refine w_ifE ?_ | with_reducible refine w_chain ?_ | with_reducible refine w_i0 ?_
  | with_reducible refine w_call ?_ | with_reducible refine w_callS ?_ | with_reducible refine w_cB ?_ | with_reducible refine w_tup ?_ | with_reducible refine w_lst ?_ | with_reducible refine w_fldV ?_
  | with_reducible refine w_neF ?_ | with_reducible refine w_neT ?_ | with_reducible refine w_notN ?_ | with_reducible refine w_isN ?_ | with_reducible refine w_gname ?_ | with_reducible refine w_gsub ?_ | with_reducible refine w_asg ?_ | with_reducible refine w_sl ?_ | with_reducible refine w_noP ?_ | with_reducible refine w_int1 ?_ | with_reducible refine w_part ?_ | with_reducible refine w_yes ?_ | with_reducible refine w_nT ?_ | with_reducible refine w_nF ?_ | with_reducible refine w_iteT ?_ | with_reducible refine w_iteF ?_))
namespace K3
open SLam LamX
def rCatL (K : PySem.W.Frag) : R2 := fun x y H Q => ∃ a b xs ys, x = .ref a ∧ y = .ref b ∧ SqL K H a xs ∧ SqL K H b ys ∧ xs.length + ys.length ≤ sizeLine ∧ ∀ p, H p = none → Q (.ref p) (upd H p (.lst (xs ++ ys)))
theorem op_catL {X : Cx} : OpR X (binaryOp .Add) (rCatL X.K) := by
  intro pins s σ H x y v u Q I rx ry ⟨a, b, xs, ys, ex, ey, ha, hb, hz, q⟩
  subst ex ey
  cases rx
  cases ry
  obtain ⟨is, r1, ⟨⟨c1, d1, t1, sl1⟩, n1, g1, hc1, _, hd1⟩, _⟩ := I.list ha
  obtain ⟨js, r2, ⟨⟨c2, d2, t2, sl2⟩, n2, g2, hc2, _, hd2⟩, _⟩ := I.list hb
  simp only at hc1 hd1 hc2 hd2
  subst hc1 hd1 hc2 hd2
  have hs : is.toArray.size + js.toArray.size ≤ sizeLine := by rw [List.size_toArray, List.size_toArray, ← r1.length, ← r2.length]; exact hz
  refine concat_meets ⟨_, g1, rfl⟩ ⟨_, g2, rfl⟩ noFill_list_add seq_list_add PySem.F.slot_list_add PySem.F.entry_list_add (PySem.F.args_list_add_2 _ _) (list_addW a b is.toArray js.toArray n1 n2 d1 d2 sl1 sl2 hs) ⟨g1, g2, ?_⟩
  rw [show is.toArray ++ js.toArray = (is ++ js).toArray by simp]
  exact ⟨.ref _, _, I.lnew (t' := s.toks) (r1.append r2) (by rw [List.length_append]; exact hz), rfl, q _ I.fresh⟩
theorem Sd.ext {H H' : Hp} {s : Addr} (h : Sd H s) (e : ExtN H H') : Sd H' s := let ⟨a, b, c, q, r⟩ := h; ⟨a, b, c, e _ _ q (fun ps z => by cases z), r⟩
theorem mine_of {s g : Addr} {H : Hp} {rs : List Addr} {t : List (List Int)} {m n : Nat} (hs : Sd H s) (ht : Tab H g rs t) (hR : Rect t m n) (nd : rs.Nodup) (ne : g ∉ rs) (gs : g ≠ s) (rss : ∀ r ∈ rs, r ≠ s) : Mine s (fun b => if b = s then H s else none) H g rs t m n := by
  obtain ⟨x, y, z, q, _⟩ := id hs
  refine ⟨ht, hR, nd, ne, fun r hr => if_neg (rss r hr), if_neg gs, fun b o h => ?_, hs.src, ⟨x, y, z, by rw [← q]; exact if_pos rfl⟩⟩
  by_cases e : b = s
  · have h : H s = some o := by rw [← h]; exact (if_pos e).symm
    exact ⟨o, by rw [e]; exact h, fun _ => rfl⟩
  · have h : none = some o := by rw [← h]; exact (if_neg e).symm
    cases h
def TupR (H : Hp) (v : V) (r : List Int) : Prop := ∃ a, v = .ref a ∧ H a = some (.tup (r.map V.int))
theorem TupR.tk {H H' : Hp} (e : Tk H H') {v : V} {r : List Int} (h : TupR H v r) : TupR H' v r := let ⟨a, h1, h2⟩ := h; ⟨a, h1, e _ _ h2⟩
theorem tup_rows {H : Hp} : ∀ {zs : List V} {t : List (List Int)}, Paired (TupR H) zs t → ∃ rs : List Addr, zs = rs.map V.ref ∧ Paired (fun a (r : List Int) => H a = some (.tup (r.map V.int))) rs t
  | _, _, .nil => ⟨[], rfl, .nil⟩
  | _, _, .cons ⟨a, e, h⟩ t => by
    obtain ⟨rs, e2, h2⟩ := tup_rows t
    exact ⟨a :: rs, by rw [e, e2]; rfl, .cons h h2⟩
def spLAt (K : PySem.W.Frag) : Sp := fun vs H Q _ => ∃ (a : Addr) (ns : List Int), vs = [.ref a, .int 2] ∧ SqL K H a (ns.map V.int) ∧ ns.length ≤ 63 ∧ ∀ c : Int, Q (.int c) H
def spLawT (PT : Addr) (K : PySem.W.Frag) : Sp := fun vs H Q _ => ∃ (a : Addr) (ns : List Int), vs = [.ref a] ∧ SqL K H a (ns.map V.int) ∧ ns.length ≤ 63 ∧ Tabs (lamT PT) H ∧ ∀ H', Q (.bl true) H'
section
variable {P : Program} {w : World} {K : PySem.W.Frag} {mg : Str → Option Value} {base : Heap}
theorem sc_cell_at : FnScope ["_law_script", "_law_k"] ["_law_script", "_law_k"] (defScope s__law_cell_at) := ⟨rfl, rfl, rfl, by decide +kernel, rfl, by decide +kernel, by decide +kernel⟩
theorem ok_cell_at (T : Tx K mg) : Ok P w K mg base 1 (He.ga K "_law_cell_at") ["_law_script", "_law_k"] (spLAt K) := by
  obtain ⟨fd, F⟩ := T.f__law_cell_at
  refine ⟨fd, F.ok (k := 0) sc_cell_at (fun vs H Q E h => ?_) (fun cdv A outer s_ H vs Q E hr h => ?_), F.bindsN fun _ _ _ _ _ _ us hl => match us, hl with | [_, _], _ => rfl, F.kp⟩
  · obtain ⟨a, ns, rfl, hns, h63, q⟩ := h
    rfl
  obtain ⟨a, ns, rfl, hns, h63, q⟩ := h
  have hu65 := K3.Room.units65 hr
  have hu64 := Nat.lt_of_succ_lt hu65
  have hu0 := Nat.lt_of_le_of_lt (Nat.le_add_right _ 65) hu65
  have hu1 := Nat.lt_of_le_of_lt (Nat.add_le_add_left (show 1 ≤ 65 by decide) _) hu65
  refine ⟨_, pss_cons (ps_if (pt_cmpR op_lt (pv 1) (pe_callB call_len_seq (by rfl) T.z_len PySem.boot_len (pa_cons (pv 0) pa_nil)) (nomark _)) (pss_one (ps_ret (pe_ix ix_list (pv 0) (pv 1) (fun _ _ => rfl)))) pss_nil)
      (pss_one (ps_ret pe_int)), ?_⟩
  walk_at "go"
  refine ⟨a, _, rfl, .inl hns, ?_⟩
  rw [List.length_map]
  walk_at "go"
  by_cases z : 2 < ns.length
  · rw [decide_eq_true (by omega : (2 : Int) < (ns.length : Int))]
    walk_at "go"
    refine ⟨a, _, _, _, rfl, rfl, hns, at_getD (c := 2) z, ?_⟩
    exact q _
  · rw [decide_eq_false (by omega : ¬ (2 : Int) < (ns.length : Int))]
    walk_at "go"
    exact q 0
theorem sc_law : FnScope ["_law_script", "_law_number", "_law_s", "_law_tall", "_law_wide", "_law_grid", "_law_scarce", "_law_span", "_law_part", "_law_hidden_here", "_law_due_here", "_law_firm", "_law_found_here", "_law_one"] ["_law_script"] (defScope s_law) := ⟨rfl, rfl, rfl, by decide +kernel, rfl, by decide +kernel, by decide +kernel⟩
set_option maxHeartbeats 0
theorem ok_law {ct PT : Addr} (T : Tx K mg) (B : Told K mg base "greatest_first" ct PT) {fd : FuncData} (F : FunD K "law" "law" (defArgs s_law) (defBody s_law) (defScope s_law) [] [] (He.ga K "law") fd) : FnOk P w K mg base L2.CX0 13 (He.ga K "law") fd ["_law_script"] (spLawT PT K) := by
  have O_law_digit := ok_digit (P := P) (w := w) (base := base) T
  have O_law_great_right := ok_great_right (P := P) (w := w) (base := base) T B
  have O_law_state := ok_state (P := P) (w := w) (base := base) T
  have O_law_cell_at := ok_cell_at (P := P) (w := w) (base := base) T
  have O_law_changed_right := ok_changed_right (P := P) (w := w) (base := base) T B
  have O_law_found := ok_found (P := P) (w := w) (base := base) T B
  have O_law_due := ok_due (P := P) (w := w) (base := base) T
  have O_law_first_near := ok_first_near (P := P) (w := w) (base := base) T
  have O_law_hidden := ok_hidden (P := P) (w := w) (base := base) T
  have O_law_drawn_grid := ok_drawn_grid (P := P) (w := w) (base := base) T
  have Ois_safe := ok_is_safe (P := P) (w := w) (base := base) T
  refine F.ok (k := 12) sc_law (fun vs H Q E h => ?_) (fun cdv A outer s_ H vs Q E hr h => ?_)
  · obtain ⟨a, ns, rfl, _⟩ := h
    rfl
  obtain ⟨a, ns, rfl, hns, h63, hT, q⟩ := h
  have hu65 := K3.Room.units65 hr
  have hu64 := Nat.lt_of_succ_lt hu65
  have r_law_digit : Room 1 _ := hr.mono (by decide)
  have r_law_great_right : Room 12 _ := hr.mono (by decide)
  have r_law_state : Room 1 _ := hr.mono (by decide)
  have r_law_cell_at : Room 1 _ := hr.mono (by decide)
  have r_law_changed_right : Room 12 _ := hr.mono (by decide)
  have r_law_found : Room 11 _ := hr.mono (by decide)
  have r_law_due : Room 10 _ := hr.mono (by decide)
  have r_law_first_near : Room 9 _ := hr.mono (by decide)
  have r_law_hidden : Room 2 _ := hr.mono (by decide)
  have r_law_drawn_grid : Room 2 _ := hr.mono (by decide)
  have ris_safe : Room 10 _ := hr.mono (by decide)
  refine ⟨_, pss_cons (ps_for (passes_of rfl) (by rfl) (pi_list (pe_slice sl_list (pe_op op_catL (pv 0) (pe_lst (pa_cons pe_int pa_nil))) po_none (po_some pe_int))) (pg_name (i := 1) sc_law.nd rfl (Or.inl rfl)) (pss_cons (ps_set (i := 2) sc_law.nd rfl (Or.inl rfl) (pe_f O_law_state r_law_state T.g__law_state (pa_cons (pv 1) pa_nil)))
      (pss_cons (ps_par (by rfl) sc_law.nd (i := 3) (j := 4) rfl rfl (by decide) rfl rfl (pa_cons (pe_op op_add pe_int (pe_f O_law_digit r_law_digit T.g__law_digit (pa_cons (pv 2) (pa_cons pe_int pa_nil)))) (pa_cons (pe_op op_add pe_int (pe_f O_law_digit r_law_digit T.g__law_digit (pa_cons (pv 2) (pa_cons pe_int pa_nil)))) pa_nil)) (by rfl))
      (pss_cons (ps_set (i := 5) sc_law.nd rfl (Or.inl rfl) (pe_f O_law_drawn_grid r_law_drawn_grid T.g__law_drawn_grid (pa_cons (pv 2) (pa_cons (pv 3) (pa_cons (pv 4) (pa_cons (pe_op op_add pe_int (pe_f O_law_digit r_law_digit T.g__law_digit (pa_cons (pv 2) (pa_cons pe_int pa_nil)))) pa_nil))))))
      (pss_cons (ps_par (by rfl) sc_law.nd (i := 6) (j := 7) rfl rfl (by decide) rfl rfl (pa_cons (pe_ix ix_list (pe_lst (pa_cons pe_int (pa_cons pe_int (pa_cons pe_int pa_nil)))) (pe_f O_law_digit r_law_digit T.g__law_digit (pa_cons (pv 2) (pa_cons pe_int pa_nil))) (fun _ _ => rfl)) (pa_cons (pe_op op_add pe_int (pe_f O_law_digit r_law_digit T.g__law_digit (pa_cons (pv 2) (pa_cons pe_int pa_nil)))) pa_nil)) (by rfl))
      (pss_cons (ps_for (passes_of rfl) (by rfl) (pi_list (pe_lst (pa_cons pe_int (pa_cons pe_int (pa_cons pe_int pa_nil))))) (pg_name (i := 8) sc_law.nd rfl (Or.inl rfl)) (pss_cons (ps_set (i := 9) sc_law.nd rfl (Or.inl rfl) (pe_f O_law_hidden r_law_hidden T.g__law_hidden (pa_cons (pv 2) (pa_cons (pv 5) (pa_cons (pv 8) pa_nil)))))
      (pss_cons (ps_set (i := 10) sc_law.nd rfl (Or.inl rfl) (pe_cmpR op_isN (pe_f O_law_first_near r_law_first_near T.g__law_first_near (pa_cons (pv 5) (pa_cons (pv 9) (pa_cons (pv 6) (pa_cons (pv 7) pa_nil))))) pe_non rfl))
      (pss_one (ps_if (pt_cmpR op_ne (pe_fK Ois_safe ris_safe T.g_is_safe (pa_cons (pv 5) (pa_cons (pv 9) pa_nil)) (pk_cons (pv 6) (pk_cons (pv 7) pk_nil))) (pv 10) (nomark _)) (pss_one (ps_ret pe_bl)) pss_nil)))))
      (pss_cons (ps_set (i := 11) sc_law.nd rfl (Or.inl rfl) (pe_callTy call_tuple_of (by rfl) T.z_tuple (by decide +kernel) (pa_cons (by exact pe_lc (own := [("_law_one", 13)]) (g := gName 13) (tt := tYes) (te := (tCB (fun xs H Q => ∃ p ys, xs = [V.ref p] ∧ ((SqL K H p ys ∧ ∀ l, H l = none → Q (.ref l) (upd H l (.tup ys))) ∨ (SqT K H p ys ∧ Q (.ref p) H))) (tCons (tVar 13) tNil))) (by rfl) sc_law.nd (pi_list (pv 5)) (blkOk_by (own := [("_law_one", 13)]) (N := ["_law_script", "_law_number", "_law_s", "_law_tall", "_law_wide", "_law_grid", "_law_scarce", "_law_span", "_law_part", "_law_hidden_here", "_law_due_here", "_law_firm", "_law_found_here", "_law_one"]) (sc := defScope s_law) (by decide +kernel)) (fun _ _ _ _ _ => (pg_name (i := 13) sc_law.nd rfl (Or.inl rfl))) (fun _ _ _ _ _ => pts_nil) (fun _ _ _ _ _ => (pe_callTy call_tuple_of (by rfl) T.z_tuple (by decide +kernel) (pa_cons (pv 13) pa_nil)))) pa_nil)))
      (pss_cons (ps_if (pt_cmpR op_ne (pe_fK Ois_safe ris_safe T.g_is_safe (pa_cons (pv 11) (pa_cons (pe_callTy call_tuple_of (by rfl) T.z_tuple (by decide +kernel) (pa_cons (pv 9) pa_nil)) pa_nil)) (pk_cons (pv 6) (pk_cons (pv 7) pk_nil))) (pe_fK Ois_safe ris_safe T.g_is_safe (pa_cons (pv 5) (pa_cons (pv 9) pa_nil)) (pk_cons (pv 6) (pk_cons (pv 7) pk_nil))) (nomark _)) (pss_one (ps_ret pe_bl)) pss_nil)
      (pss_cons (ps_set (i := 10) sc_law.nd rfl (Or.inl rfl) (pe_f O_law_due r_law_due T.g__law_due (pa_cons (pv 5) (pa_cons (pv 6) (pa_cons (pv 7) pa_nil)))))
      (pss_cons (ps_if (pt_cmpR (op_neD hu64) (pe_f O_law_found r_law_found T.g__law_found (pa_cons (pv 11) (pa_cons (pv 6) (pa_cons (pv 7) pa_nil)))) (pv 10) (nomark _)) (pss_one (ps_ret pe_bl)) pss_nil)
      (pss_cons (ps_set (i := 12) sc_law.nd rfl (Or.inl rfl) (pe_f O_law_found r_law_found T.g__law_found (pa_cons (pv 5) (pa_cons (pv 6) (pa_cons (pv 7) pa_nil)))))
      (pss_cons (ps_if (pt_cmpR (op_neD hu64) (pv 12) (pv 10) (nomark _)) (pss_one (ps_ret pe_bl)) pss_nil)
      (Evl.pss_cut (ps_if (pt_cmpR op_eq (pe_ix ix_tup (pv 10) pe_int (fun _ _ => rfl)) pe_str (nomark _)) (pss_cons (ps_if (pt_not (pt_val (pe_fK Ois_safe ris_safe T.g_is_safe (pa_cons (pv 5) (pa_cons (pe_ix ix_tup (pv 10) pe_int (fun _ _ => rfl)) pa_nil)) (pk_cons (pv 6) (pk_cons (pv 7) pk_nil))))) (pss_one (ps_ret pe_bl)) pss_nil)
      (pss_one (ps_expr (pe_bm PySem.F.plainAttrs_list PySem.F.slot_list_append PySem.F.type_list_append mt_append (pe_ix ix_tup (pv 12) pe_int (fun _ _ => rfl)) (pa_cons pe_str pa_nil))))) pss_nil)
      (pss_one (ps_if (pw_or (pt_cmpR (op_neD hu64) (pe_f O_law_found r_law_found T.g__law_found (pa_cons (pv 5) (pa_cons (pv 6) (pa_cons (pv 7) pa_nil)))) (pv 10) (nomark _)) (pw_or1 (pt_not (pt_val (pe_f O_law_changed_right r_law_changed_right T.g__law_changed_right (pa_cons (pv 2) (pa_cons (pv 5) (pa_cons (pv 6) (pa_cons (pv 7) pa_nil))))))))).pt (pss_one (ps_ret pe_bl)) pss_nil)))))))))))))))
      (pss_cons (ps_set (i := 2) sc_law.nd rfl (Or.inl rfl) (pe_f O_law_state r_law_state T.g__law_state (pa_cons (pe_f O_law_cell_at r_law_cell_at T.g__law_cell_at (pa_cons (pv 0) (pa_cons pe_int pa_nil))) pa_nil)))
      (pss_one (ps_ret (pe_or (pe_cmpR op_eq (pe_f O_law_digit r_law_digit T.g__law_digit (pa_cons (pv 2) (pa_cons pe_int pa_nil))) pe_int rfl) (pe_one (pe_f O_law_great_right r_law_great_right T.g__law_great_right (pa_cons (pv 2) pa_nil))))))), ?_⟩
  walk_at "go"
  refine list_open ?_
  walk_at "go"
  refine ⟨(by show 1 ≤ sizeLine; decide), fun p1 hp1 => ?_⟩
  have e1 := Same.new hp1 (.lst [V.int 0])
  refine ⟨a, p1, _, _, rfl, rfl, e1.seq hns, SqL.of upd_same, Nat.le_trans (show (ns.map V.int).length + 1 ≤ 64 by rw [List.length_map]; omega) (by decide), fun p2 hp2 => ?_⟩
  walk_at "go"
  refine ⟨p2, _, rfl, SqL.of upd_same, fun p3 hp3 => ?_⟩
  have hx2 : ∀ x ∈ cutV (ns.map V.int ++ [V.int 0]) none (some 2), ∃ c, x = V.int c := fun x hx => by
    rcases List.mem_append.mp (cut_mem hx) with hx | hx
    · obtain ⟨c, _, rfl⟩ := List.mem_map.mp hx
      exact ⟨c, rfl⟩
    · exact ⟨0, List.mem_singleton.mp hx⟩
  generalize cutV (ns.map V.int ++ [V.int 0]) none (some 2) = cells at hp3 hx2 ⊢
  have h3 : (upd (upd (upd H p1 (.lst [V.int 0])) p2 (.lst (ns.map V.int ++ [V.int 0]))) p3 (.lst cells)) p3 = some (.lst cells) := upd_same
  have e03 : Same H (upd (upd (upd H p1 (.lst [V.int 0])) p2 (.lst (ns.map V.int ++ [V.int 0]))) p3 (.lst cells)) := e1.trans ((Same.new hp2 _).trans (Same.new hp3 _))
  have hT0 := hT.ext e03
  have hns0 : SqL K (upd (upd (upd H p1 (.lst [V.int 0])) p2 (.lst (ns.map V.int ++ [V.int 0]))) p3 (.lst cells)) a (ns.map V.int) := e03.seq hns
  generalize upd (upd (upd H p1 (.lst [V.int 0])) p2 (.lst (ns.map V.int ++ [V.int 0]))) p3 (.lst cells) = H0 at h3 hT0 hns0 ⊢
  clear e1 hns hp3 hp2 hp1 hT e03
  refine ⟨p3, rfl, ⟨_, SqL.of h3⟩, ?_⟩
  refine for_list (xs := cells) (fun (i : Nat) σ H' => ∃ o1 o2 o3 o4 o5 o6 o7 o8 o9 o10 o11 o12 : Option V, σ = [some (.ref a), o1, o2, o3, o4, o5, o6, o7, o8, o9, o10, o11, o12, none] ∧ ExtN H0 H' ∧ Tabs (lamT PT) H')
    ⟨none, none, none, none, none, none, none, none, none, none, none, none, rfl, ExtN.of (Same.refl _), hT0⟩ (fun i σ H' _ ⟨_, _, _, _, _, _, _, _, _, _, _, _, _, e, _⟩ => SqL.of (e _ _ h3 fun ps z => by cases z)) ?_ ?_
  · rintro i x σ H1 hxi ⟨o1, o2, o3, o4, o5, o6, o7, o8, o9, o10, o11, o12, rfl, eN1, tT1⟩
    obtain ⟨c, rfl⟩ := hx2 x (List.mem_of_getElem? hxi)
    walk_at "go"
    refine ⟨c, rfl, fun s H2 hs1 e2 s2 => ?_⟩
    walk_at "go"
    refine w_par ?_
    walk_at "go"
    refine ⟨s, 2, rfl, s2, by decide, by decide, fun r1 H3 r11 b3 s3 => ?_⟩
    walk_at "go"
    refine ⟨s, 3, rfl, s3, by decide, by decide, fun r2 H4 r21 b4 s4 => ?_⟩
    walk_at "go"
    refine ⟨_, _, rfl, ?_⟩
    dsimp only
    rw [show (1 : Int) + (r1 : Int) = ((1 + r1 : Nat) : Int) by omega, show (1 : Int) + (r2 : Int) = ((1 + r2 : Nat) : Int) by omega]
    have m1 : 1 ≤ 1 + r1 := by omega
    have m2 : 1 + r1 ≤ 2 := by omega
    have k1 : 1 ≤ 1 + r2 := by omega
    have k3 : 1 + r2 ≤ 3 := by omega
    generalize 1 + r1 = m at m1 m2 ⊢
    generalize 1 + r2 = k at k1 k3 ⊢
    have b24 := b3.trans b4
    walk_at "go"
    refine ⟨s, 4, rfl, s4, by decide, by decide, fun r3 H5 r31 b5 s5 => ?_⟩
    walk_at "go"
    refine ⟨s, m, k, 3 + (r3 : Int), rfl, s5, m1, by omega, k1, by omega, by omega, by omega, fun g H6 rs t b6 s6 new6 tab6 lt hk => ?_⟩
    have gG : Grid (withSums k t) (m + 1) (k + 1) := fit_grid (by omega) (by omega) (fit_self (fun r hr => ⟨(hk r hr).1, fun x hx => ((hk r hr).2 x hx).1⟩) lt [])
    have gs : g ≠ s := src_ne s5.src new6.p0
    have rss : ∀ r ∈ rs, r ≠ s := fun r hr => src_ne s5.src (new6.rs0 r hr)
    have b25 := b24.trans b5
    have inM : ∀ x ∈ [s], x ∈ s :: rs := fun x hx => by rw [List.mem_singleton.mp hx]; exact List.mem_cons_self ..
    -- what stays: all that was there ahead of this turn
    have fin : ∀ H', ExM (s :: rs) H2 H' → ExtN H1 H' := fun H' e b o hb nt => e b o (e2 b o hb) nt fun hm => by
      rcases List.mem_cons.mp hm with z | z
      · rw [z, hs1] at hb
        cases hb
      · have := e2 b o hb
        rw [b25.free (new6.rs0 b z)] at this
        cases this
    have A6 : ExM (s :: rs) H2 H6 := ExM.bm (b25.trans b6) inM
    have tT6 : Tabs (lamT PT) H6 := tabs_bm s2 (tT1.ext e2) (b25.trans b6)
    have nd := new6.nd
    have ne := new6.ne
    generalize withSums k t = G at gG tab6
    clear new6 b3 b4 b5 b6 b24 b25 s3 s4 s5 s2 lt hk e2 hs1 tT1
    have rect := gG.rect
    have m10 : m + 1 ≤ 10 := by omega
    have n10 : k + 1 ≤ 10 := by omega
    have l12 : (cellsOf (m + 1) (k + 1)).dropLast.length ≤ 12 := by
      rw [List.length_dropLast, cells_len]
      have := Nat.mul_le_mul (show m + 1 ≤ 3 by omega) (show k + 1 ≤ 4 by omega)
      omega
    -- few and width
    walk_at "go"
    refine w_par ?_
    walk_at "go"
    refine ⟨(by show 3 ≤ sizeLine; decide), fun pq hpq => ?_⟩
    have f1 := Same.new hpq (.lst [V.int 2, V.int 4, V.int 12])
    have g1 : (upd H6 pq (.lst [V.int 2, V.int 4, V.int 12])) pq = some (.lst [V.int 2, V.int 4, V.int 12]) := upd_same
    have pqs : pq ≠ s := src_ne s6.src hpq
    generalize upd H6 pq (.lst [V.int 2, V.int 4, V.int 12]) = G1 at f1 g1 ⊢
    walk_at "go"
    refine ⟨s, 3, rfl, s6.same f1, by decide, by decide, fun r4 H7 r41 b7 s7 => ?_⟩
    obtain ⟨few, hfew, few2⟩ : ∃ few : Int, atI [V.int 2, V.int 4, V.int 12] (r4 : Int) = some (.int few) ∧ 2 ≤ few := by
      obtain rfl | rfl | rfl : r4 = 0 ∨ r4 = 1 ∨ r4 = 2 := by omega
      · exact ⟨2, rfl, by decide⟩
      · exact ⟨4, rfl, by decide⟩
      · exact ⟨12, rfl, by decide⟩
    refine w_ixL (b7.at g1 (by simpa using pqs)) hfew ?_
    walk_at "go"
    refine ⟨s, 3, rfl, s7, by decide, by decide, fun r5 H8 r51 b8 s8 => ?_⟩
    walk_at "go"
    refine ⟨_, _, rfl, ?_⟩
    dsimp only
    have wd1 : (1 : Int) ≤ 1 + (r5 : Int) := by omega
    generalize (1 : Int) + (r5 : Int) = width at wd1 ⊢
    have b68 := b7.trans b8
    have A8 : ExM (s :: rs) H2 H8 := (A6.trans (ExM.of f1)).trans (ExM.bm b68 inM)
    have tT8 : Tabs (lamT PT) H8 := tabs_bm (s6.same f1) (tT6.ext f1) b68
    have tab8 : Tab H8 g rs G := (tab6.same f1).bm b68 gs rss
    clear A6 tT6 tab6 f1 g1 b7 b8 b68 s7 s6 hfew hpq pqs
    have hidc : ∀ {H : Hp} {p : Addr} {ws : List V} {hs : List (Nat × Nat)}, H p = some (.lst ws) → Paired (CellAt H) ws hs → (∀ k' ∈ hs, k' ∈ (cellsOf (m + 1) (k + 1)).dropLast) → hs.length ≤ 60 → HidIn K H (.ref p) hs (m + 1) (k + 1) := fun h1 h2 h3 h4 => ⟨_, _, rfl, .inl (SqL.of h1), h2, h3, h4⟩
    -- three hidings
    walk_at "go"
    refine list_open ?_
    walk_at "go"
    refine ⟨(by show 3 ≤ sizeLine; decide), fun pl hpl => ?_⟩
    have f1 := Same.new hpl (.lst [V.int 1, V.int 2, V.int 3])
    have g1 : (upd H8 pl (.lst [V.int 1, V.int 2, V.int 3])) pl = some (.lst [V.int 1, V.int 2, V.int 3]) := upd_same
    have pls : pl ≠ s := src_ne s8.src hpl
    generalize upd H8 pl (.lst [V.int 1, V.int 2, V.int 3]) = H9 at f1 g1 ⊢
    have A9 := A8.trans (ExM.of f1)
    have tT9 := tT8.ext f1
    have tab9 := tab8.same f1
    have s9 := s8.same f1
    have parts : ∀ (i : Nat) (x : V), [V.int 1, V.int 2, V.int 3][i]? = some x → ∃ c : Int, x = .int c := fun i x h => by
      have := List.mem_of_getElem? h
      simp only [List.mem_cons, List.not_mem_nil, or_false] at this
      rcases this with e | e | e
      · exact ⟨1, e⟩
      · exact ⟨2, e⟩
      · exact ⟨3, e⟩
    clear A8 tT8 tab8 s8 f1 hpl
    refine ⟨pl, rfl, ⟨_, SqL.of g1⟩, ?_⟩
    refine for_list (xs := [V.int 1, V.int 2, V.int 3]) (fun (i : Nat) σ H' => ∃ o8 o9 o10 : Option V, σ = [some (.ref a), some (.int c), some (.ref s), some (.int (m : Int)), some (.int (k : Int)), some (.ref g), some (.int few), some (.int width), o8, o9, o10, o11, o12, none] ∧ BM [s] H9 H' ∧ Sd H' s ∧
        (i = 0 ∨ ∃ (h : Addr) (wh : List V) (hs : List (Nat × Nat)), o9 = some (.ref h) ∧ H' h = some (.lst wh) ∧ Paired (CellAt H') wh hs ∧ (∀ k' ∈ hs, k' ∈ (cellsOf (m + 1) (k + 1)).dropLast) ∧ hs.length ≤ 60))
      ⟨_, _, _, rfl, BM.refl _ _, s9, .inl rfl⟩ (fun i σ H' _ ⟨_, _, _, _, b, _⟩ => SqL.of (b.at g1 (by simpa using pls))) ?_ ?_
    · rintro i x σ H10 hx ⟨o8, o9, o10, rfl, b10, s10, _⟩
      obtain ⟨pt, rfl⟩ := parts i x hx
      have tab10 := tab9.bm b10 gs rss
      walk_at "go"
      refine ⟨s, g, rs, G, m + 1, k + 1, pt, rfl, s10, ⟨gs, rss⟩, tab10, rect, by omega, by omega, by omega, by omega, fun h H11 wh hs h0 b11 s11 hh hw mem _ len => ?_⟩
      have tab11 := tab10.bm b11 gs rss
      walk_at "go"
      refine ⟨g, .ref h, few, width, rs, G, m + 1, k + 1, hs, rfl, tab11, gG, m10, n10, hidc hh hw mem len, fun H12 e12 => ⟨fun sf => ?_, fun cc sf v hv => ?_⟩⟩
      · walk_at "go"
        refine ⟨rfl, ?_⟩
        rw [decide_eq_true (rfl : V.non = V.non)]
        walk_at "go"
        refine w_callN ?_
        walk_at "go"
        refine ⟨rfl, rfl, ?_⟩
        refine ⟨g, .ref h, few, width, rs, G, m + 1, k + 1, hs, rfl, (tab11.same e12).gt, gG, m10, n10, few2, wd1, hidc (e12 _ _ hh) (L2.Paired.mapP hw fun _ _ z => CellAt.same e12 z) mem len, fun H13 e13 => ?_⟩
        rw [decide_eq_true sf]
        walk_at "go"
        refine ⟨rfl, ?_⟩
        rw [decide_eq_true rfl]
        walk_at "go"
        have e1213 := e12.trans e13
        exact ⟨_, _, _, rfl, (b10.trans b11).same e1213, s11.same e1213, .inr ⟨h, wh, hs, rfl, e1213 _ _ hh, L2.Paired.mapP hw fun _ _ z => CellAt.same e1213 z, mem, len⟩⟩
      · obtain ⟨va, rfl, hva⟩ := id hv
        walk_at "go"
        refine ⟨rfl, ?_⟩
        rw [decide_eq_false ((fun z => nomatch z) : ¬ V.ref va = V.non)]
        walk_at "go"
        refine w_callN ?_
        walk_at "go"
        refine ⟨rfl, rfl, ?_⟩
        refine ⟨g, .ref h, few, width, rs, G, m + 1, k + 1, hs, rfl, (tab11.same e12).gt, gG, m10, n10, few2, wd1, hidc (e12 _ _ hh) (L2.Paired.mapP hw fun _ _ z => CellAt.same e12 z) mem len, fun H13 e13 => ?_⟩
        rw [decide_eq_false (fun z => by rw [sf] at z; cases z)]
        walk_at "go"
        refine ⟨rfl, ?_⟩
        rw [decide_eq_true rfl]
        walk_at "go"
        have e1213 := e12.trans e13
        exact ⟨_, _, _, rfl, (b10.trans b11).same e1213, s11.same e1213, .inr ⟨h, wh, hs, rfl, e1213 _ _ hh, L2.Paired.mapP hw fun _ _ z => CellAt.same e1213 z, mem, len⟩⟩
    rintro σ H10 ⟨o8, o9, o10, rfl, b10, s10, hid10⟩
    obtain ⟨h, wh, hs, rfl, hh, hw, mem, len⟩ := hid10.resolve_left (by decide)
    have tab10 := tab9.bm b10 gs rss
    have A10 := A9.trans (ExM.bm b10 inM)
    have tT10 := tabs_bm s9 tT9 b10
    clear tab9 A9 tT9 s9 b10 g1 pls parts hid10
    -- the firm grid
    walk_at "go"
    refine lcAt_open (list_open ?_)
    walk_at "go"
    refine ⟨g, rfl, ⟨_, SqL.of tab10.at_⟩, fun D hD => ?_⟩
    have lrs : (rs.map V.ref).length ≤ 100 := by rw [List.length_map, tab10.rows.length, rect.1]; omega
    refine items_gen (F := RowV) (G := TupR) (fun e h => RowV.same e h) (fun e h => TupR.tk e h) (fun _ => true) (fun r => r) (SqL.of tab10.at_) (rowV_of tab10.rows) hD (by omega) ?_ ?_
    · rintro v r H11 e11 hr ⟨b, rfl, hb⟩ R' _ r2
      walk_at "go"
      refine ⟨rfl, ?_⟩
      walk_at "go"
      refine ⟨b, _, rfl, .inl ⟨SqL.of hb, fun tr htr => ?_⟩⟩
      exact r2 _ _ (Same.new htr _) rfl ⟨tr, rfl, upd_same⟩
    intro H11 zs e11 hD11 hz
    rw [List.map_id', show G.filter (fun _ => true) = G from List.filter_eq_self.mpr fun _ _ => rfl] at hz
    obtain ⟨rsf, rfl, hrf⟩ := tup_rows hz
    walk_at "go"
    refine ⟨D, _, rfl, .inl ⟨SqL.of hD11, fun ff hff => ?_⟩⟩
    have e12 := Same.new hff (.tup (rsf.map V.ref))
    have firm : GT K (upd H11 ff (.tup (rsf.map V.ref))) ff rsf G := ⟨.tup upd_same, L2.Paired.mapP hrf fun _ _ z => .tup (e12 _ _ z)⟩
    have e1012 := e11.trans e12
    generalize upd H11 ff (.tup (rsf.map V.ref)) = H12 at e1012 firm ⊢
    have hh12 := e1012 _ _ hh
    have hw12 := L2.Paired.mapP hw fun _ _ z => CellAt.same e1012 z
    have tab12 := tab10.same e1012
    have A12 := A10.trans (ExM.of e1012)
    have tT12 := tT10.ext e1012
    have s12 := s10.same e1012
    clear e12 hrf hz hD11 hff e11 hD tab10 A10 tT10 s10 hh hw e1012 lrs
    walk_at "go"
    refine w_callN ?_
    walk_at "go"
    refine ⟨h, _, rfl, .inl ⟨SqL.of hh12, fun th hth => ?_⟩⟩
    have e13 := Same.new hth (.tup wh)
    have hth13 : (upd H12 th (.tup wh)) th = some (.tup wh) := upd_same
    generalize upd H12 th (.tup wh) = H13 at e13 hth13 ⊢
    have hw13 := L2.Paired.mapP hw12 fun _ _ z => CellAt.same e13 z
    walk_at "go"
    refine ⟨rfl, rfl, ?_⟩
    refine ⟨ff, .ref th, few, width, rsf, G, m + 1, k + 1, hs, rfl, firm.same e13, gG, m10, n10, few2, wd1, ⟨th, wh, rfl, .inr (SqT.of hth13), hw13, mem, len⟩, fun H14 e14 => ?_⟩
    have e1214 := e13.trans e14
    walk_at "go"
    refine w_callN ?_
    walk_at "go"
    refine ⟨rfl, rfl, ?_⟩
    refine ⟨g, .ref h, few, width, rs, G, m + 1, k + 1, hs, rfl, (tab12.same e1214).gt, gG, m10, n10, few2, wd1, hidc (e1214 _ _ hh12) (L2.Paired.mapP hw12 fun _ _ z => CellAt.same e1214 z) mem len, fun H15 e15 => ?_⟩
    refine ⟨rfl, ?_⟩
    rw [decide_eq_true rfl]
    have e1215 := e1214.trans e15
    have tab15 := tab12.same e1215
    have firm15 := firm.same e1215
    have A15 := A12.trans (ExM.of e1215)
    have tT15 := tT12.ext e1215
    have s15 := s12.same e1215
    clear hth13 hw13 e13 e14 e15 e1214 hw12 hh12 tab12 firm A12 tT12 s12 hth e1215 mem len
    have l60 : (cellsOf (m + 1) (k + 1)).dropLast.length ≤ 60 := by omega
    -- what is due
    walk_at "go"
    refine ⟨g, few, width, rs, G, m + 1, k + 1, rfl, tab15, gG, by omega, by omega, l60, fun H16 vd e16 od16 => ?_⟩
    walk_at "go"
    refine ⟨ff, few, width, rsf, G, m + 1, k + 1, rfl, firm15.same e16, gG, m10, n10, few2, wd1, tT15.ext e16, fun H17 v1 x17 t17 o17 _ => ?_⟩
    walk_at "go"
    refine ⟨_, _, o17.dp, (od16.ext x17).dp, out_shaped _ _, out_shaped _ _, ?_⟩
    rw [out_eqv]
    walk_at "go"
    have tab17 := tab_ext x17 (tab15.same e16)
    have od17 := od16.ext x17
    have A17 := (A15.trans (ExM.of e16)).trans (ExM.ext x17)
    have s17 := (s15.same e16).ext x17
    clear tab15 firm15 A15 tT15 s15 od16 e16 x17 o17
    refine ⟨g, few, width, rs, G, m + 1, k + 1, rfl, tab17.gt, gG, m10, n10, few2, wd1, t17, fun H18 v2 x18 t18 o18 ap => ?_⟩
    walk_at "go"
    refine ⟨_, _, o18.dp, (od17.ext x18).dp, out_shaped _ _, out_shaped _ _, ?_⟩
    rw [out_eqv]
    walk_at "go"
    refine Evl.q_cut (M := fun σ' H' => σ' = [some (.ref a), some (.int c), some (.ref s), some (.int (m : Int)), some (.int (k : Int)), some (.ref g), some (.int few), some (.int width), o8, some (.ref h), some vd, some (.ref ff), some v2, none] ∧ ExtN H17 H' ∧ Tabs (lamT PT) H') ?_ ?_
    · obtain ⟨ad, rfl, hod⟩ := id od17
      obtain ⟨a2, rfl, ho2⟩ := id o18
      rcases hod with ⟨none1, pd, wd, had, hpd, hwd⟩ | ⟨cc, hcc, xd, had, hxd⟩
      · rcases ho2 with ⟨_, pf, wf, haf, hpf, hwf⟩ | ⟨cc, hcc, _⟩
        case inr => rw [none1] at hcc; cases hcc
        have had18 := x18 _ _ had fun ps z => by cases z
        have hpd18 := x18 _ _ hpd fun ps z => by cases z
        have hwd18 := L2.Paired.mapP hwd fun _ _ z => CellAt.extn x18 z
        walk_at "go"
        refine w_ixT (SqT.of had18) rfl ?_
        walk_at "go"
        refine ⟨rfl, ?_⟩
        rw [decide_eq_true rfl]
        walk_at "go"
        refine w_callN ?_
        walk_at "go"
        refine w_ixT (SqT.of had18) rfl ?_
        walk_at "go"
        refine ⟨rfl, rfl, ?_⟩
        obtain ⟨hsub, hlen⟩ := hid_sub (t := G) (m := m + 1) (n := k + 1) (few := few) (w := width)
        refine ⟨g, .ref pd, few, width, rs, G, m + 1, k + 1, _, rfl, (tab_ext x18 tab17).gt, gG, m10, n10, few2, wd1, hidc hpd18 hwd18 hsub (by omega), fun H19 e19 => ?_⟩
        rw [decide_eq_true (hid_all gG (by omega) none1).1]
        walk_at "go"
        have haf19 := e19 _ _ haf
        have hpf19 := e19 _ _ hpf
        unfold tBM
        walk_at "go"
        refine w_ixT (SqT.of haf19) rfl ?_
        refine ⟨.inl ⟨rfl, _, SqL.of hpf19⟩, ?_⟩
        walk_at "go"
        refine ⟨pf, wf, _, rfl, rfl, hpf19, Nat.lt_of_le_of_lt (show wf.length ≤ 100 by rw [hwf.length]; omega) (by decide), ?_⟩
        walk_at "go"
        refine ⟨rfl, fun b o hb nt => ?_, tabs_upd hpf19 _ (t18.ext e19)⟩
        rw [upd_ne (ap a2 pf rfl haf b o hb nt)]
        exact e19 _ _ (x18 b o hb nt)
      · have had18 := x18 _ _ had fun ps z => by cases z
        walk_at "go"
        refine w_ixT (SqT.of had18) rfl ?_
        walk_at "go"
        refine ⟨rfl, ?_⟩
        rw [show decide (V.str ("unsafe" : Str) = V.str ("told" : Str)) = false by decide]
        walk_at "go"
        exact ⟨rfl, x18, t18⟩
    rintro σ' H19 ⟨rfl, x19, t19⟩
    clear x18 t18 o18 ap
    have tab19 := tab_ext x19 tab17
    have od19 := od17.ext x19
    have A19 := A17.trans (ExM.ext x19)
    have s19 := s17.ext x19
    clear tab17 od17 A17 s17 x19 t17
    walk_at "go"
    refine ⟨g, few, width, rs, G, m + 1, k + 1, rfl, tab19.gt, gG, m10, n10, few2, wd1, t19, fun H20 v3 x20 t20 o20 _ => ?_⟩
    walk_at "go"
    refine ⟨_, _, o20.dp, (od19.ext x20).dp, out_shaped _ _, out_shaped _ _, ?_⟩
    rw [out_eqv]
    walk_at "go"
    have s20 := s19.ext x20
    refine ⟨s, g, few, width, rs, G, m + 1, k + 1, _, rfl, mine_of s20 (tab_ext x20 tab19) rect nd ne gs rss, s20, gG, by omega, by omega, by omega, by omega, few2, wd1, t20, fun H21 x21 t21 => ?_⟩
    walk_at "go"
    exact ⟨_, _, _, _, _, _, _, _, _, _, _, _, rfl, eN1.trans (fin _ ((A19.trans (ExM.ext x20)).trans x21)), t21⟩
  · rintro σ H1 ⟨o1, o2, o3, o4, o5, o6, o7, o8, o9, o10, o11, o12, rfl, eN1, tT1⟩
    walk_at "go"
    refine ⟨a, ns, rfl, sql_ext eN1 hns0, h63, fun c => ?_⟩
    walk_at "go"
    refine ⟨c, rfl, fun s H2 _ e2 s2 => ?_⟩
    walk_at "go"
    refine ⟨s, 2, rfl, s2, by decide, by decide, fun r H3 _ b3 s3 => ?_⟩
    walk_at "go"
    refine w_eqI ?_
    cases hz : decide (V.int (r : Int) = V.int 1) with
    | true =>
      walk_at "go"
      exact q H3
    | false =>
      walk_at "go"
      refine ⟨s, rfl, s3, tabs_bm s2 (tT1.ext e2) b3, fun H4 => ?_⟩
      walk_at "go"
      exact q H4
end
end K3
end K10_part
section M1_part
set_option Elab.async false
set_option linter.all false
set_option maxRecDepth 100000
set_option maxHeartbeats 0
namespace K3
open PySem PySem.Spec PyProof.Rows L2
open SLam LamX
theorem walk_ofTsE {l : PySem.W.OpenLaw} {n k : Nat} {q : Program} {loose : List Str} {XP : (Str → Option Value) → Heap → Prop} {YP : World → Heap → Prop} {d : DefRec} {CX : CXT} {x : Str}
    (hn : l.most = some n) (hn2 : n ≤ sizeLine) (hdf : d.params.defaults = []) (hr : Room k callerA)
    (F : ∀ (w : World) (mg : Str → Option Value) (fa : Addr) (h : Heap), YP w h → h.Ns mainGlobals mg → mg d.name = some (.ref fa) → ∃ K : PySem.W.Frag, K.In h ∧ LawAtS l w K CX k n x mg fa h)
    (hCX : ∀ (H : Hp) (s : Shared) (e : Value) (s' : Shared), CX [] H s (fun _ _ _ => False) e s' → False) :
    PySem.W.WalkO q loose XP YP l.row.toRowW d [] (fun f vs => PySem.call f vs) := by
  refine Att.attach_callB hn hdf fun w s₀ s₁ mg mb fa o pm cd doc a vs ns G Y ho hd hcd hmg hobj hints hlen hbits hg => ?_
  obtain ⟨K, KX, fd, cs, sp, hT, nT, C, hb, hsp, hF⟩ := F w mg fa _ Y G.T.g hmg
  exact law_callTs KX G.T.g G.T.b G.T.builtins G.T.nolimit hg hT nT C G.T.bmain hobj hints (Nat.le_trans hlen hn2) hr hF hb (fun H hH hS => hsp H a ns hlen hbits hH hS) fun H e s' => hCX H s₁ e s'
theorem told {K : PySem.W.Frag} {mg : Str → Option Value} {base : Heap} (T : Tx K mg) {PT : Addr} (tb : TabB base mg (He.codeOf K ("greatest_first", none)) PT) : Told K mg base "greatest_first" (He.codeOf K ("greatest_first", none)) PT := by
  obtain ⟨fd, F⟩ := T.f_greatest_first
  obtain ⟨_, _, _, _, _, _, _, cdv, _, _, rfl, lk, cd, _, _⟩ := F.ex
  obtain ⟨c, e⟩ := He.codeIn_ref cd
  subst e
  refine ⟨?_, tb⟩
  rw [He.codeOf_eq (p := ("greatest_first", none)) lk rfl]
  unfold codeOf
  rw [lk]
theorem facts {l : PySem.W.OpenLaw} {w : World} {K : PySem.W.Frag} {h : Heap} {mg : Str → Option Value} {f : Addr} (X : K.In h) (G : h.Ns mainGlobals mg) (hfa : mg ("law" : Str) = some (.ref f)) (c : He.SaysX D.fa D.fn [] tf ex w h K) :
    LawAtS l w K L2.CX0 13 63 "_law_script" mg f h := by
  have T : Tx K mg := ⟨c.t.d, c.more, h, X, G⟩
  obtain ⟨fd, F⟩ := T.f_law
  have e2 := hfa.symm.trans T.g_law
  cases e2
  have b := FunD.bindsA (ps := ["_law_script"]) F fun _ _ _ _ _ _ us hl => match us, hl with | [_], _ => rfl
  have inT : (("greatest_first" : Str), (none : Option Str)) ∈ tf := List.mem_singleton.mpr rfl
  refine ⟨fd, [He.cT K ("greatest_first", none)], spLawT (He.cT K ("greatest_first", none)).2 K, fun p hp => ?_, fun p hp => ?_, fun p hp => ?_, fun s v => b s [v] rfl, fun H a ns hl _ hH hS => ⟨a, ns, rfl, hS, hl, ?_, fun _ => rfl⟩, fun base _ _ tb => ok_law T (told T (tb _ (List.mem_singleton.mpr rfl))) F⟩
  · rw [List.mem_singleton.mp hp]
    exact c.empty _ inT
  · rw [List.mem_singleton.mp hp]
    exact c.out _ inT
  · rw [List.mem_singleton.mp hp]
    exact PySem.W.codeHd_of_K X (c.hd _ inT)
  · intro p hp
    rw [List.mem_singleton.mp hp]
    exact TabS.nil (hH _ (List.mem_singleton.mpr rfl))
end K3
open PySem PySem.W PySem.Calls PyProof.Rows
theorem PySem.Challenge.cw_skiphall_k34_hidden_cells_by_the_rule_holds : PySem.Challenge.rw_skiphall_k34_hidden_cells_by_the_rule.Holds := by
  w_on; o_law
  refine HandSHeadRun.head_any (r := OpenLaw.row PySem.Challenge.rw_skiphall_k34_hidden_cells_by_the_rule) (q := K3.qv) (H := K3.hk) (ob := K3.ob) (M := 8000) (loose := K3.loose) (d := HandSHeadRun.topDef (OpenLaw.row PySem.Challenge.rw_skiphall_k34_hidden_cells_by_the_rule).prog 50) (kwd := []) K3.ob_eq
    (by kernel_rfl) (fun s => by kernel_rfl) K3.run (by kernel_rfl) (by kernel_rfl) (by kernel_rfl) (by rfl) (by first | assumption | decide +kernel) (by decide +kernel) ⟨rfl, rfl, rfl, rfl, rfl, by decide +kernel⟩ ?hw ?hc
  case hw => w_witness2
  case hc =>
    refine K3.walk_ofTsE (l := PySem.Challenge.rw_skiphall_k34_hidden_cells_by_the_rule) (n := 63) (k := 13) (x := "_law_script") (CX := L2.CX0) rfl (by decide) (by kernel_rfl) ⟨rfl, by decide, by decide⟩ ?F (fun _ _ _ _ z => z)
    intro w mg fa h Y G hmg0
    obtain ⟨K, KX, c⟩ := Y
    have hmg : mg ("law" : PySem.Str) = some (.ref fa) := by
      have e : (HandSHeadRun.topDef (OpenLaw.row PySem.Challenge.rw_skiphall_k34_hidden_cells_by_the_rule).prog 50).name = ("law" : PySem.Str) := by kernel_rfl
      rw [← e]
      exact hmg0
    exact ⟨K, KX, K3.facts KX G hmg c⟩
end M1_part
