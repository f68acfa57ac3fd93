import PyProof.Rows.All
import Wide.All
import OpenK.AllK
import Wide.FinOn
import KE.KStateDown
import HandS.Base
import HandS.Call
import HandS.Ends
import HandS.More
import HandS.Words
import HandS.WordsExc
import HandS.Defaults
import HandS.Head0
import HandS.Head1
import HandS.Head2
import HandS.HeadEnd
import HandS.HeadHook1
import HandS.HeadHook2
import HandS.ExcInit
import HandS.ExcField
import HandS.ExcIs
import PySem.Challenge.RW_skiphall_k32_fences_show_the_reach
import HandS.ForMost
import HandS.ForExc
import HandS.Walk
import HandS.IsInst
import HandS.TupAny
import HandS.MakeKwOnly
import HandS.DictComp
import HandS.SetKeys
import HandS.Flow
import PyProof.StrBlock2
import HandS.Wide
import PyProof.NeKinds
import PyProof.Rows.InDataRows
import HandS.TupSets
import HandS.Evl
import HandS.Style
import KE.KTupSum
import PyProof.DictMoreH
import KE.KDictDisplayH
import PyProof.DictTable
import PyProof.ListIndex
import HandS.Deep
import HandS.Conv
import HandS.Iter
import PyProof.Rows.SeqMore
import HandS.DeepEq
section H0_part
set_option Elab.async false
set_option linter.all false
set_option maxRecDepth 100000
set_option maxHeartbeats 0
namespace K3
open PySem PySem.Spec PyProof.Rows L2
def top (i : Nat) : Stmt := PySem.Challenge.pw_skiphall_k32_fences_show_the_reach.main.body.getD i (.Pass ⟨0, 0, 0, 0⟩)
abbrev s__wall : Stmt := top 0
abbrev s_HallError_told : Stmt := inClass (top 2) 0
abbrev s_NoFit_init : Stmt := inClass (top 3) 0
abbrev s_NoFit_told : Stmt := inClass (top 3) 1
abbrev s_NoCell_init : Stmt := inClass (top 4) 0
abbrev s_NoCell_told : Stmt := inClass (top 4) 1
abbrev s_cells_of : Stmt := top 6
abbrev s_last_cell : Stmt := top 7
abbrev s_number_at : Stmt := top 8
abbrev s_read_hidden : Stmt := top 9
abbrev s_refuse_no_cell : Stmt := top 10
abbrev s_refuse_shown : Stmt := top 11
abbrev s_arc_of : Stmt := top 12
abbrev s_Flow_init : Stmt := inClass (top 14) 0
abbrev s_Flow_number_now : Stmt := inClass (top 14) 1
abbrev s_Flow_change : Stmt := inClass (top 14) 2
abbrev s_least_flow : Stmt := top 15
abbrev s_most_flow : Stmt := top 16
abbrev s_steps_of : Stmt := top 17
abbrev s_pushed : Stmt := top 18
abbrev s_ways_from : Stmt := top 19
abbrev s_way_to : Stmt := top 20
abbrev s_fits : Stmt := top 23
abbrev s_is_as_wide : Stmt := top 24
abbrev s_has_right_sums : Stmt := top 25
abbrev s_reach : Stmt := top 26
abbrev s_bound : Stmt := top 27
abbrev s_coming_in : Stmt := top 28
abbrev s_going_out : Stmt := top 29
abbrev s_is_in : Stmt := top 30
abbrev s_sum_shown : Stmt := top 31
abbrev s_fences : Stmt := top 32
abbrev s_places_of : Stmt := top 33
abbrev s_fence_of : Stmt := top 34
abbrev s__law_cell_at : Stmt := top 36
abbrev s__law_state : Stmt := top 37
abbrev s__law_digit : Stmt := top 38
abbrev s__law_summed : Stmt := top 39
abbrev s__law_cells : Stmt := top 40
abbrev s__law_hidden : Stmt := top 41
abbrev s__law_drawn_grid : Stmt := top 42
abbrev s__law_arc : Stmt := top 43
abbrev s__law_bound : Stmt := top 44
abbrev s__law_fence : Stmt := top 45
abbrev s__law_right : Stmt := top 46
abbrev s__law_changed_right : Stmt := top 47
abbrev s__law_reached : Stmt := top 48
abbrev s_law : Stmt := top 49
namespace D
def d__wall : He.DefD := ⟨("_wall", none), "_wall", "_wall", defArgs s__wall, defBody s__wall, defScope s__wall, [], []⟩
def d_HallError_told : He.DefD := ⟨("HallError", some "told"), "told", "HallError.told", defArgs s_HallError_told, defBody s_HallError_told, defScope s_HallError_told, [], []⟩
def d_NoFit_init : He.DefD := ⟨("NoFit", some "__init__"), "__init__", "NoFit.__init__", defArgs s_NoFit_init, defBody s_NoFit_init, defScope s_NoFit_init, [], []⟩
def d_NoFit_told : He.DefD := ⟨("NoFit", some "told"), "told", "NoFit.told", defArgs s_NoFit_told, defBody s_NoFit_told, defScope s_NoFit_told, [], []⟩
def d_NoCell_init : He.DefD := ⟨("NoCell", some "__init__"), "__init__", "NoCell.__init__", defArgs s_NoCell_init, defBody s_NoCell_init, defScope s_NoCell_init, [], []⟩
def d_NoCell_told : He.DefD := ⟨("NoCell", some "told"), "told", "NoCell.told", defArgs s_NoCell_told, defBody s_NoCell_told, defScope s_NoCell_told, [], []⟩
def d_cells_of : He.DefD := ⟨("cells_of", none), "cells_of", "cells_of", defArgs s_cells_of, defBody s_cells_of, defScope s_cells_of, [], []⟩
def d_last_cell : He.DefD := ⟨("last_cell", none), "last_cell", "last_cell", defArgs s_last_cell, defBody s_last_cell, defScope s_last_cell, [], []⟩
def d_number_at : He.DefD := ⟨("number_at", none), "number_at", "number_at", defArgs s_number_at, defBody s_number_at, defScope s_number_at, [], []⟩
def d_read_hidden : He.DefD := ⟨("read_hidden", none), "read_hidden", "read_hidden", defArgs s_read_hidden, defBody s_read_hidden, defScope s_read_hidden, [], []⟩
def d_refuse_no_cell : He.DefD := ⟨("refuse_no_cell", none), "refuse_no_cell", "refuse_no_cell", defArgs s_refuse_no_cell, defBody s_refuse_no_cell, defScope s_refuse_no_cell, [], []⟩
def d_refuse_shown : He.DefD := ⟨("refuse_shown", none), "refuse_shown", "refuse_shown", defArgs s_refuse_shown, defBody s_refuse_shown, defScope s_refuse_shown, [], []⟩
def d_arc_of : He.DefD := ⟨("arc_of", none), "arc_of", "arc_of", defArgs s_arc_of, defBody s_arc_of, defScope s_arc_of, [], []⟩
def d_Flow_init : He.DefD := ⟨("Flow", some "__init__"), "__init__", "Flow.__init__", defArgs s_Flow_init, defBody s_Flow_init, defScope s_Flow_init, [], []⟩
def d_Flow_number_now : He.DefD := ⟨("Flow", some "number_now"), "number_now", "Flow.number_now", defArgs s_Flow_number_now, defBody s_Flow_number_now, defScope s_Flow_number_now, [], []⟩
def d_Flow_change : He.DefD := ⟨("Flow", some "change"), "change", "Flow.change", defArgs s_Flow_change, defBody s_Flow_change, defScope s_Flow_change, [], []⟩
def d_least_flow : He.DefD := ⟨("least_flow", none), "least_flow", "least_flow", defArgs s_least_flow, defBody s_least_flow, defScope s_least_flow, [], []⟩
def d_most_flow : He.DefD := ⟨("most_flow", none), "most_flow", "most_flow", defArgs s_most_flow, defBody s_most_flow, defScope s_most_flow, [], []⟩
def d_steps_of : He.DefD := ⟨("steps_of", none), "steps_of", "steps_of", defArgs s_steps_of, defBody s_steps_of, defScope s_steps_of, [], []⟩
def d_pushed : He.DefD := ⟨("pushed", none), "pushed", "pushed", defArgs s_pushed, defBody s_pushed, defScope s_pushed, [], []⟩
def d_ways_from : He.DefD := ⟨("ways_from", none), "ways_from", "ways_from", defArgs s_ways_from, defBody s_ways_from, defScope s_ways_from, [], []⟩
def d_way_to : He.DefD := ⟨("way_to", none), "way_to", "way_to", defArgs s_way_to, defBody s_way_to, defScope s_way_to, [], []⟩
def d_fits : He.DefD := ⟨("fits", none), "fits", "fits", defArgs s_fits, defBody s_fits, defScope s_fits, [], []⟩
def d_is_as_wide : He.DefD := ⟨("is_as_wide", none), "is_as_wide", "is_as_wide", defArgs s_is_as_wide, defBody s_is_as_wide, defScope s_is_as_wide, [], []⟩
def d_has_right_sums : He.DefD := ⟨("has_right_sums", none), "has_right_sums", "has_right_sums", defArgs s_has_right_sums, defBody s_has_right_sums, defScope s_has_right_sums, [], []⟩
def d_reach : He.DefD := ⟨("reach", none), "reach", "reach", defArgs s_reach, defBody s_reach, defScope s_reach, [], []⟩
def d_bound : He.DefD := ⟨("bound", none), "bound", "bound", defArgs s_bound, defBody s_bound, defScope s_bound, [], []⟩
def d_coming_in : He.DefD := ⟨("coming_in", none), "coming_in", "coming_in", defArgs s_coming_in, defBody s_coming_in, defScope s_coming_in, [], []⟩
def d_going_out : He.DefD := ⟨("going_out", none), "going_out", "going_out", defArgs s_going_out, defBody s_going_out, defScope s_going_out, [], []⟩
def d_is_in : He.DefD := ⟨("is_in", none), "is_in", "is_in", defArgs s_is_in, defBody s_is_in, defScope s_is_in, [], []⟩
def d_sum_shown : He.DefD := ⟨("sum_shown", none), "sum_shown", "sum_shown", defArgs s_sum_shown, defBody s_sum_shown, defScope s_sum_shown, [], []⟩
def d_fences : He.DefD := ⟨("fences", none), "fences", "fences", defArgs s_fences, defBody s_fences, defScope s_fences, [], []⟩
def d_places_of : He.DefD := ⟨("places_of", none), "places_of", "places_of", defArgs s_places_of, defBody s_places_of, defScope s_places_of, [], []⟩
def d_fence_of : He.DefD := ⟨("fence_of", none), "fence_of", "fence_of", defArgs s_fence_of, defBody s_fence_of, defScope s_fence_of, [], []⟩
def d__law_cell_at : He.DefD := ⟨("_law_cell_at", none), "_law_cell_at", "_law_cell_at", defArgs s__law_cell_at, defBody s__law_cell_at, defScope s__law_cell_at, [], []⟩
def d__law_state : He.DefD := ⟨("_law_state", none), "_law_state", "_law_state", defArgs s__law_state, defBody s__law_state, defScope s__law_state, [], []⟩
def d__law_digit : He.DefD := ⟨("_law_digit", none), "_law_digit", "_law_digit", defArgs s__law_digit, defBody s__law_digit, defScope s__law_digit, [], []⟩
def d__law_summed : He.DefD := ⟨("_law_summed", none), "_law_summed", "_law_summed", defArgs s__law_summed, defBody s__law_summed, defScope s__law_summed, [], []⟩
def d__law_cells : He.DefD := ⟨("_law_cells", none), "_law_cells", "_law_cells", defArgs s__law_cells, defBody s__law_cells, defScope s__law_cells, [], []⟩
def d__law_hidden : He.DefD := ⟨("_law_hidden", none), "_law_hidden", "_law_hidden", defArgs s__law_hidden, defBody s__law_hidden, defScope s__law_hidden, [], []⟩
def d__law_drawn_grid : He.DefD := ⟨("_law_drawn_grid", none), "_law_drawn_grid", "_law_drawn_grid", defArgs s__law_drawn_grid, defBody s__law_drawn_grid, defScope s__law_drawn_grid, [], []⟩
def d__law_arc : He.DefD := ⟨("_law_arc", none), "_law_arc", "_law_arc", defArgs s__law_arc, defBody s__law_arc, defScope s__law_arc, [], []⟩
def d__law_bound : He.DefD := ⟨("_law_bound", none), "_law_bound", "_law_bound", defArgs s__law_bound, defBody s__law_bound, defScope s__law_bound, [], []⟩
def d__law_fence : He.DefD := ⟨("_law_fence", none), "_law_fence", "_law_fence", defArgs s__law_fence, defBody s__law_fence, defScope s__law_fence, [], []⟩
def d__law_right : He.DefD := ⟨("_law_right", none), "_law_right", "_law_right", defArgs s__law_right, defBody s__law_right, defScope s__law_right, [], []⟩
def d__law_changed_right : He.DefD := ⟨("_law_changed_right", none), "_law_changed_right", "_law_changed_right", defArgs s__law_changed_right, defBody s__law_changed_right, defScope s__law_changed_right, [], []⟩
def d__law_reached : He.DefD := ⟨("_law_reached", none), "_law_reached", "_law_reached", defArgs s__law_reached, defBody s__law_reached, defScope s__law_reached, [], []⟩
def d_law : He.DefD := ⟨("law", none), "law", "law", defArgs s_law, defBody s_law, defScope s_law, [], []⟩
def fn : List He.DefD := [d__wall, d_HallError_told, d_NoFit_init, d_NoFit_told, d_NoCell_init, d_NoCell_told, d_cells_of, d_last_cell, d_number_at, d_read_hidden, d_refuse_no_cell, d_refuse_shown, d_arc_of, d_Flow_init, d_Flow_number_now, d_Flow_change, d_least_flow, d_most_flow, d_steps_of, d_pushed, d_ways_from, d_way_to, d_fits, d_is_as_wide, d_has_right_sums, d_reach, d_bound, d_coming_in, d_going_out, d_is_in, d_sum_shown, d_fences, d_places_of, d_fence_of, d__law_cell_at, d__law_state, d__law_digit, d__law_summed, d__law_cells, d__law_hidden, d__law_drawn_grid, d__law_arc, d__law_bound, d__law_fence, d__law_right, d__law_changed_right, d__law_reached, d_law]
def fa : List He.Fa := [.glo "_wall",
  .glo "HallError",
  .keep "HallError",
  .glo "NoFit",
  .keep "NoFit",
  .glo "NoCell",
  .keep "NoCell",
  .glo "cells_of",
  .glo "last_cell",
  .glo "number_at",
  .glo "read_hidden",
  .glo "refuse_no_cell",
  .glo "refuse_shown",
  .glo "arc_of",
  .glo "Flow",
  .keep "Flow",
  .glo "least_flow",
  .glo "most_flow",
  .glo "steps_of",
  .glo "pushed",
  .glo "ways_from",
  .glo "way_to",
  .glo "NO_FENCE",
  .glo "fits",
  .glo "is_as_wide",
  .glo "has_right_sums",
  .glo "reach",
  .glo "bound",
  .glo "coming_in",
  .glo "going_out",
  .glo "is_in",
  .glo "sum_shown",
  .glo "fences",
  .glo "places_of",
  .glo "fence_of",
  .glo "_law_cell_at",
  .glo "_law_state",
  .glo "_law_digit",
  .glo "_law_summed",
  .glo "_law_cells",
  .glo "_law_hidden",
  .glo "_law_drawn_grid",
  .glo "_law_arc",
  .glo "_law_bound",
  .glo "_law_fence",
  .glo "_law_right",
  .glo "_law_changed_right",
  .glo "_law_reached",
  .glo "law",
  .free "abs",
  .free "all",
  .free "any",
  .free "enumerate",
  .free "int",
  .free "len",
  .free "list",
  .free "min",
  .free "range",
  .free "set",
  .free "sorted",
  .free "sum",
  .free "tuple",
  .noat "NoFit" "name",
  .meth "NoFit" "__init__",
  .noat "NoCell" "row",
  .noat "NoCell" "column",
  .meth "NoCell" "__init__",
  .cls "Flow",
  .mkr "Flow",
  .noat "Flow" "cell",
  .noat "Flow" "numbers",
  .noat "Flow" "steps",
  .meth "Flow" "__init__",
  .meth "Flow" "number_now",
  .meth "Flow" "change"]
end D
/-! ### what an own exception class with its __init__ says -/
def oexB (K : PySem.W.Frag) (C : Addr) : Bool := (match K.lookup C with
  | some ⟨.type "type", _, .cls cd, sl⟩ => (match cd.mro, sl.toList with
    | .ref C' :: bm, [_, _, _, _, some (.builtin n), _] => C' == C && (n == "ValueError.__new__" && (!cd.hasDel && (cd.hasDict && PySem.HandSPX.refsVE bm)))
    | _, _ => false)
  | _ => false) && (eqB (PySem.W.findIn K (.ref C) "__setattr__") (some (some (.builtin "object.__setattr__"))) && (eqB (PySem.W.subIn K (.ref C) (.type "BaseException")) (some true) && (eqB (PySem.W.typeIn K (.ref C)) (some (.type "type")) && PySem.W.keepIn K (.ref C))))
where eqB {α : Type} [DecidableEq α] (a b : α) : Bool := decide (a = b)
/-! done -/
end K3
end H0_part
section HX_part
set_option Elab.async false
set_option linter.all false
set_option maxRecDepth 100000
set_option maxHeartbeats 0
namespace K3
open PySem PySem.Spec PyProof.Rows L2
/-! ### a further fact of the written part, as a Bool: the fence with nothing in it -/
def voidB (K : PySem.W.Frag) (a : Addr) : Bool := match K.lookup a with
  | some ⟨.type "tuple", _, .seq its _, _⟩ => its.toList.isEmpty
  | _ => false
def noFenceB (K : PySem.W.Frag) (a : Addr) : Bool := match K.lookup a with
  | some ⟨.type "tuple", _, .seq its _, _⟩ => (match its.toList with
    | [.ref b, .ref c] => voidB K b && voidB K c
    | _ => false)
  | _ => false
def ex (K : PySem.W.Frag) : Bool := noFenceB K (He.ga K "NO_FENCE")
theorem void_ok {K : PySem.W.Frag} {a : Addr} (h : voidB K a = true) : ∀ H : Hp, SqT K H a [] := by
  intro H
  unfold voidB at h
  split at h
  · rename_i d its n sl e
    refine .inr ⟨_, its, n, e, rfl, rfl, ?_, ?_⟩
    · have : its.toList = [] := List.isEmpty_iff.mp h
      have : its.size = 0 := by rw [← Array.length_toList, this]; rfl
      omega
    · rw [List.isEmpty_iff.mp h]
      exact .nil
  · cases h
theorem noFence_ok {K : PySem.W.Frag} (h : ex K = true) : ∃ b c, ∀ H : Hp, SqT K H (He.ga K "NO_FENCE") [.ref b, .ref c] ∧ SqT K H b [] ∧ SqT K H c [] := by
  unfold ex noFenceB at h
  split at h
  · rename_i d its n sl e
    split at h
    · rename_i b c hl
      obtain ⟨h1, h2⟩ := Bool.and_eq_true_iff.mp h
      refine ⟨b, c, fun H => ⟨.inr ⟨_, its, n, e, rfl, rfl, ?_, ?_⟩, void_ok h1 H, void_ok h2 H⟩⟩
      · have : its.size = 2 := by rw [← Array.length_toList, hl]; rfl
        rw [this]
        decide
      · rw [hl]
        exact .cons rfl (.cons rfl .nil)
    · cases h
  · cases h
/-! ### the Hook -/
def hookE (n : Nat) : PySem.W.Hook where
  α := He.AlD × Bool
  obs := fun s => (He.obsDG n D.fa D.fn s.heap.get?, ex (He.frG s.heap.get? (He.asD s.heap.get? n)))
  val := fun _ => (He.valD D.fn, true)
  says := fun _ h => ∃ K : PySem.W.Frag, K.In h ∧ He.SaysD D.fa D.fn K ∧ ex K = true
  of := fun _ h e => ⟨_, He.frG_in, congrArg Prod.fst e, congrArg Prod.snd e⟩
  keeps := fun _ _ _ ⟨K, hK, c⟩ k => ⟨K, PySem.W.Frag.In.keeps hK k, c⟩
def ob (n : Nat) (s : PySem.W.SharedT) : He.AlD × Bool := (He.obsDG n D.fa D.fn (HandSHeadRun.getT s), ex (He.frG (HandSHeadRun.getT s) (He.asD (HandSHeadRun.getT s) n)))
theorem ob_eq (n : Nat) (s : PySem.W.SharedT) : ob n s = (hookE n).obs s.abs := by
  have e : HandSHeadRun.getT s = s.abs.heap.get? := funext (HandSHeadRun.getT_eq s)
  unfold ob
  rw [e] <;> rfl
end K3
end HX_part
section H1_part
set_option Elab.async false
set_option linter.all false
set_option maxRecDepth 100000
set_option maxHeartbeats 0
namespace K3
open PySem PySem.Spec PyProof.Rows L2 PySem.W PySem.Calls HandSHeadRun
abbrev R : PySem.W.OpenRow := PySem.W.OpenLaw.row PySem.Challenge.rw_skiphall_k32_fences_show_the_reach
def loose : List Str := [("_wall" : Str), ("HallError" : Str), ("NoFit" : Str), ("NoCell" : Str), ("cells_of" : Str), ("last_cell" : Str), ("number_at" : Str), ("read_hidden" : Str), ("refuse_no_cell" : Str), ("refuse_shown" : Str), ("arc_of" : Str), ("Flow" : Str), ("least_flow" : Str), ("most_flow" : Str), ("steps_of" : Str), ("pushed" : Str), ("ways_from" : Str), ("way_to" : Str), ("NO_FENCE" : Str), ("fits" : Str), ("is_as_wide" : Str), ("has_right_sums" : Str), ("reach" : Str), ("bound" : Str), ("coming_in" : Str), ("going_out" : Str), ("is_in" : Str), ("sum_shown" : Str), ("fences" : Str), ("places_of" : Str), ("fence_of" : Str), ("_law_cell_at" : Str), ("_law_state" : Str), ("_law_digit" : Str), ("_law_summed" : Str), ("_law_cells" : Str), ("_law_hidden" : Str), ("_law_drawn_grid" : Str), ("_law_arc" : Str), ("_law_bound" : Str), ("_law_fence" : Str), ("_law_right" : Str), ("_law_changed_right" : Str), ("_law_reached" : Str)]
abbrev qv : Program := PySem.W.view R.prog [49]
theorem run1 (w : World) (os : OsState) : (endF (stepQ (denQ tabQ) R.prog w) 8000 R.prog w os).map (fun s => looksF R.prog (boot_heap w.params) s.abs) = some true := by
  kernel_rfl
theorem run2 (w : World) (os : OsState) : (endF (stepQ (denQ tabQ) R.prog w) 8000 R.prog w os).map (fun s => seenQ qv loose (importedModules R.prog.main.body) (fun s => xlAt qv [] s && recOk R.toRowW.records s) s.abs) = some (openGood qv loose) := by
  kernel_rfl
theorem run3 (w : World) (os : OsState) : (endF (stepQ (denQ tabQ) R.prog w) 8000 R.prog w os).map (fun s => ob 4 s) = some ((hookE 4).val w) := by
  kernel_rfl
theorem join3 {A B C D : Type} {f : A → B} {g : A → C} {h : A → D} {b : B} {c : C} {d : D} : ∀ {o : Option A}, o.map f = some b → o.map g = some c → o.map h = some d → o.map (fun s => (f s, g s, h s)) = some (b, c, d)
  | none, q, _, _ => by cases q
  | some s, q1, q2, q3 => by
    have k1 := Option.some.inj q1
    have k2 := Option.some.inj q2
    have k3 := Option.some.inj q3
    show some (f s, g s, h s) = _
    rw [k1, k2, k3]
theorem run (w : World) : HandSHeadRun.RunEq R qv (hookE 4) (ob 4) 8000 loose w := fun os => join3 (run1 w os) (run2 w os) (run3 w os)
end K3
end H1_part
section A0_part
set_option Elab.async false
set_option linter.all false
set_option maxRecDepth 100000
set_option maxHeartbeats 0
namespace K3
open PySem PySem.Spec PyProof.Rows L2
/-- what the top has written -/
structure Tx (K : PySem.W.Frag) (mg : Str → Option Value) : Prop where
  c : He.SaysD D.fa D.fn K
  e : ex K = true
  h : ∃ h : Heap, K.In h ∧ h.Ns mainGlobals mg
section
variable {K : PySem.W.Frag} {mg : Str → Option Value}
theorem Tx.glo (T : Tx K mg) {x : Str} (c : (He.Fa.glo x).ok K = true) : mg x = some (.ref (He.ga K x)) := by
  obtain ⟨h, X, G⟩ := T.h
  exact He.glo_ok X G c
theorem Tx.free (T : Tx K mg) {x : Str} (c : (He.Fa.free x).ok K = true) : mg x = none := by
  obtain ⟨h, X, G⟩ := T.h
  exact He.free_ok X G c
theorem Tx.int (T : Tx K mg) {x : Str} {i : Int} (c : (He.Fa.int x i).ok K = true) : ∃ t, mg x = some (.int i t) := by
  obtain ⟨h, X, G⟩ := T.h
  exact He.int_ok X G c
theorem Tx.str (T : Tx K mg) {x z : Str} (c : (He.Fa.str x z).ok K = true) : ∃ t, mg x = some (.str z t) := by
  obtain ⟨h, X, G⟩ := T.h
  exact He.str_ok X G c
theorem Tx.g__wall (T : Tx K mg) : mg "_wall" = some (.ref (He.ga K "_wall")) := T.glo (T.c.fact 0 rfl)
theorem Tx.g_HallError (T : Tx K mg) : mg "HallError" = some (.ref (He.ga K "HallError")) := T.glo (T.c.fact 1 rfl)
theorem Tx.k_HallError (T : Tx K mg) : PySem.W.keepIn K (.ref (He.ga K "HallError")) = true := He.keep_ok (x := "HallError") (T.c.fact 2 rfl)
theorem Tx.g_NoFit (T : Tx K mg) : mg "NoFit" = some (.ref (He.ga K "NoFit")) := T.glo (T.c.fact 3 rfl)
theorem Tx.k_NoFit (T : Tx K mg) : PySem.W.keepIn K (.ref (He.ga K "NoFit")) = true := He.keep_ok (x := "NoFit") (T.c.fact 4 rfl)
theorem Tx.g_NoCell (T : Tx K mg) : mg "NoCell" = some (.ref (He.ga K "NoCell")) := T.glo (T.c.fact 5 rfl)
theorem Tx.k_NoCell (T : Tx K mg) : PySem.W.keepIn K (.ref (He.ga K "NoCell")) = true := He.keep_ok (x := "NoCell") (T.c.fact 6 rfl)
theorem Tx.g_cells_of (T : Tx K mg) : mg "cells_of" = some (.ref (He.ga K "cells_of")) := T.glo (T.c.fact 7 rfl)
theorem Tx.g_last_cell (T : Tx K mg) : mg "last_cell" = some (.ref (He.ga K "last_cell")) := T.glo (T.c.fact 8 rfl)
theorem Tx.g_number_at (T : Tx K mg) : mg "number_at" = some (.ref (He.ga K "number_at")) := T.glo (T.c.fact 9 rfl)
theorem Tx.g_read_hidden (T : Tx K mg) : mg "read_hidden" = some (.ref (He.ga K "read_hidden")) := T.glo (T.c.fact 10 rfl)
theorem Tx.g_refuse_no_cell (T : Tx K mg) : mg "refuse_no_cell" = some (.ref (He.ga K "refuse_no_cell")) := T.glo (T.c.fact 11 rfl)
theorem Tx.g_refuse_shown (T : Tx K mg) : mg "refuse_shown" = some (.ref (He.ga K "refuse_shown")) := T.glo (T.c.fact 12 rfl)
theorem Tx.g_arc_of (T : Tx K mg) : mg "arc_of" = some (.ref (He.ga K "arc_of")) := T.glo (T.c.fact 13 rfl)
theorem Tx.g_Flow (T : Tx K mg) : mg "Flow" = some (.ref (He.ga K "Flow")) := T.glo (T.c.fact 14 rfl)
theorem Tx.k_Flow (T : Tx K mg) : PySem.W.keepIn K (.ref (He.ga K "Flow")) = true := He.keep_ok (x := "Flow") (T.c.fact 15 rfl)
theorem Tx.g_least_flow (T : Tx K mg) : mg "least_flow" = some (.ref (He.ga K "least_flow")) := T.glo (T.c.fact 16 rfl)
theorem Tx.g_most_flow (T : Tx K mg) : mg "most_flow" = some (.ref (He.ga K "most_flow")) := T.glo (T.c.fact 17 rfl)
theorem Tx.g_steps_of (T : Tx K mg) : mg "steps_of" = some (.ref (He.ga K "steps_of")) := T.glo (T.c.fact 18 rfl)
theorem Tx.g_pushed (T : Tx K mg) : mg "pushed" = some (.ref (He.ga K "pushed")) := T.glo (T.c.fact 19 rfl)
theorem Tx.g_ways_from (T : Tx K mg) : mg "ways_from" = some (.ref (He.ga K "ways_from")) := T.glo (T.c.fact 20 rfl)
theorem Tx.g_way_to (T : Tx K mg) : mg "way_to" = some (.ref (He.ga K "way_to")) := T.glo (T.c.fact 21 rfl)
theorem Tx.g_NO_FENCE (T : Tx K mg) : mg "NO_FENCE" = some (.ref (He.ga K "NO_FENCE")) := T.glo (T.c.fact 22 rfl)
theorem Tx.g_fits (T : Tx K mg) : mg "fits" = some (.ref (He.ga K "fits")) := T.glo (T.c.fact 23 rfl)
theorem Tx.g_is_as_wide (T : Tx K mg) : mg "is_as_wide" = some (.ref (He.ga K "is_as_wide")) := T.glo (T.c.fact 24 rfl)
theorem Tx.g_has_right_sums (T : Tx K mg) : mg "has_right_sums" = some (.ref (He.ga K "has_right_sums")) := T.glo (T.c.fact 25 rfl)
theorem Tx.g_reach (T : Tx K mg) : mg "reach" = some (.ref (He.ga K "reach")) := T.glo (T.c.fact 26 rfl)
theorem Tx.g_bound (T : Tx K mg) : mg "bound" = some (.ref (He.ga K "bound")) := T.glo (T.c.fact 27 rfl)
theorem Tx.g_coming_in (T : Tx K mg) : mg "coming_in" = some (.ref (He.ga K "coming_in")) := T.glo (T.c.fact 28 rfl)
theorem Tx.g_going_out (T : Tx K mg) : mg "going_out" = some (.ref (He.ga K "going_out")) := T.glo (T.c.fact 29 rfl)
theorem Tx.g_is_in (T : Tx K mg) : mg "is_in" = some (.ref (He.ga K "is_in")) := T.glo (T.c.fact 30 rfl)
theorem Tx.g_sum_shown (T : Tx K mg) : mg "sum_shown" = some (.ref (He.ga K "sum_shown")) := T.glo (T.c.fact 31 rfl)
theorem Tx.g_fences (T : Tx K mg) : mg "fences" = some (.ref (He.ga K "fences")) := T.glo (T.c.fact 32 rfl)
theorem Tx.g_places_of (T : Tx K mg) : mg "places_of" = some (.ref (He.ga K "places_of")) := T.glo (T.c.fact 33 rfl)
theorem Tx.g_fence_of (T : Tx K mg) : mg "fence_of" = some (.ref (He.ga K "fence_of")) := T.glo (T.c.fact 34 rfl)
theorem Tx.g__law_cell_at (T : Tx K mg) : mg "_law_cell_at" = some (.ref (He.ga K "_law_cell_at")) := T.glo (T.c.fact 35 rfl)
theorem Tx.g__law_state (T : Tx K mg) : mg "_law_state" = some (.ref (He.ga K "_law_state")) := T.glo (T.c.fact 36 rfl)
theorem Tx.g__law_digit (T : Tx K mg) : mg "_law_digit" = some (.ref (He.ga K "_law_digit")) := T.glo (T.c.fact 37 rfl)
theorem Tx.g__law_summed (T : Tx K mg) : mg "_law_summed" = some (.ref (He.ga K "_law_summed")) := T.glo (T.c.fact 38 rfl)
theorem Tx.g__law_cells (T : Tx K mg) : mg "_law_cells" = some (.ref (He.ga K "_law_cells")) := T.glo (T.c.fact 39 rfl)
theorem Tx.g__law_hidden (T : Tx K mg) : mg "_law_hidden" = some (.ref (He.ga K "_law_hidden")) := T.glo (T.c.fact 40 rfl)
theorem Tx.g__law_drawn_grid (T : Tx K mg) : mg "_law_drawn_grid" = some (.ref (He.ga K "_law_drawn_grid")) := T.glo (T.c.fact 41 rfl)
theorem Tx.g__law_arc (T : Tx K mg) : mg "_law_arc" = some (.ref (He.ga K "_law_arc")) := T.glo (T.c.fact 42 rfl)
theorem Tx.g__law_bound (T : Tx K mg) : mg "_law_bound" = some (.ref (He.ga K "_law_bound")) := T.glo (T.c.fact 43 rfl)
theorem Tx.g__law_fence (T : Tx K mg) : mg "_law_fence" = some (.ref (He.ga K "_law_fence")) := T.glo (T.c.fact 44 rfl)
theorem Tx.g__law_right (T : Tx K mg) : mg "_law_right" = some (.ref (He.ga K "_law_right")) := T.glo (T.c.fact 45 rfl)
theorem Tx.g__law_changed_right (T : Tx K mg) : mg "_law_changed_right" = some (.ref (He.ga K "_law_changed_right")) := T.glo (T.c.fact 46 rfl)
theorem Tx.g__law_reached (T : Tx K mg) : mg "_law_reached" = some (.ref (He.ga K "_law_reached")) := T.glo (T.c.fact 47 rfl)
theorem Tx.g_law (T : Tx K mg) : mg "law" = some (.ref (He.ga K "law")) := T.glo (T.c.fact 48 rfl)
theorem Tx.z_abs (T : Tx K mg) : mg "abs" = none := T.free (T.c.fact 49 rfl)
theorem Tx.z_all (T : Tx K mg) : mg "all" = none := T.free (T.c.fact 50 rfl)
theorem Tx.z_any (T : Tx K mg) : mg "any" = none := T.free (T.c.fact 51 rfl)
theorem Tx.z_enumerate (T : Tx K mg) : mg "enumerate" = none := T.free (T.c.fact 52 rfl)
theorem Tx.z_int (T : Tx K mg) : mg "int" = none := T.free (T.c.fact 53 rfl)
theorem Tx.z_len (T : Tx K mg) : mg "len" = none := T.free (T.c.fact 54 rfl)
theorem Tx.z_list (T : Tx K mg) : mg "list" = none := T.free (T.c.fact 55 rfl)
theorem Tx.z_min (T : Tx K mg) : mg "min" = none := T.free (T.c.fact 56 rfl)
theorem Tx.z_range (T : Tx K mg) : mg "range" = none := T.free (T.c.fact 57 rfl)
theorem Tx.z_set (T : Tx K mg) : mg "set" = none := T.free (T.c.fact 58 rfl)
theorem Tx.z_sorted (T : Tx K mg) : mg "sorted" = none := T.free (T.c.fact 59 rfl)
theorem Tx.z_sum (T : Tx K mg) : mg "sum" = none := T.free (T.c.fact 60 rfl)
theorem Tx.z_tuple (T : Tx K mg) : mg "tuple" = none := T.free (T.c.fact 61 rfl)
theorem Tx.n_NoFit_name (T : Tx K mg) : NoAttr K (He.ga K "NoFit") "name" := He.noat_ok (x := "NoFit") (f := "name") (T.c.fact 62 rfl)
theorem Tx.m_NoFit_init (T : Tx K mg) : Meth K (He.ga K "NoFit") "__init__" (He.ma K (He.ga K "NoFit") "__init__") := He.meth_ok (x := "NoFit") (m := "__init__") (T.c.fact 63 rfl)
theorem Tx.n_NoCell_row (T : Tx K mg) : NoAttr K (He.ga K "NoCell") "row" := He.noat_ok (x := "NoCell") (f := "row") (T.c.fact 64 rfl)
theorem Tx.n_NoCell_column (T : Tx K mg) : NoAttr K (He.ga K "NoCell") "column" := He.noat_ok (x := "NoCell") (f := "column") (T.c.fact 65 rfl)
theorem Tx.m_NoCell_init (T : Tx K mg) : Meth K (He.ga K "NoCell") "__init__" (He.ma K (He.ga K "NoCell") "__init__") := He.meth_ok (x := "NoCell") (m := "__init__") (T.c.fact 66 rfl)
theorem Tx.cl_Flow (T : Tx K mg) : Cls K (He.ga K "Flow") := He.cls_ok (x := "Flow") (T.c.fact 67 rfl)
theorem Tx.mk_Flow (T : Tx K mg) : Mk K (He.ga K "Flow") (He.ma K (He.ga K "Flow") "__init__") := He.mkr_ok (x := "Flow") (T.c.fact 68 rfl)
theorem Tx.n_Flow_cell (T : Tx K mg) : NoAttr K (He.ga K "Flow") "cell" := He.noat_ok (x := "Flow") (f := "cell") (T.c.fact 69 rfl)
theorem Tx.n_Flow_numbers (T : Tx K mg) : NoAttr K (He.ga K "Flow") "numbers" := He.noat_ok (x := "Flow") (f := "numbers") (T.c.fact 70 rfl)
theorem Tx.n_Flow_steps (T : Tx K mg) : NoAttr K (He.ga K "Flow") "steps" := He.noat_ok (x := "Flow") (f := "steps") (T.c.fact 71 rfl)
theorem Tx.m_Flow_init (T : Tx K mg) : Meth K (He.ga K "Flow") "__init__" (He.ma K (He.ga K "Flow") "__init__") := He.meth_ok (x := "Flow") (m := "__init__") (T.c.fact 72 rfl)
theorem Tx.m_Flow_number_now (T : Tx K mg) : Meth K (He.ga K "Flow") "number_now" (He.ma K (He.ga K "Flow") "number_now") := He.meth_ok (x := "Flow") (m := "number_now") (T.c.fact 73 rfl)
theorem Tx.m_Flow_change (T : Tx K mg) : Meth K (He.ga K "Flow") "change" (He.ma K (He.ga K "Flow") "change") := He.meth_ok (x := "Flow") (m := "change") (T.c.fact 74 rfl)
theorem Tx.f__wall (T : Tx K mg) : ∃ fd, FunD K "_wall" "_wall" (defArgs s__wall) (defBody s__wall) (defScope s__wall) [] [] (He.ga K "_wall") fd := T.c.def_ 0 (d := D.d__wall) rfl
theorem Tx.f_HallError_told (T : Tx K mg) : ∃ fd, FunD K "told" "HallError.told" (defArgs s_HallError_told) (defBody s_HallError_told) (defScope s_HallError_told) [] [] (He.ma K (He.ga K "HallError") "told") fd := T.c.def_ 1 (d := D.d_HallError_told) rfl
theorem Tx.f_NoFit_init (T : Tx K mg) : ∃ fd, FunD K "__init__" "NoFit.__init__" (defArgs s_NoFit_init) (defBody s_NoFit_init) (defScope s_NoFit_init) [] [] (He.ma K (He.ga K "NoFit") "__init__") fd := T.c.def_ 2 (d := D.d_NoFit_init) rfl
theorem Tx.f_NoFit_told (T : Tx K mg) : ∃ fd, FunD K "told" "NoFit.told" (defArgs s_NoFit_told) (defBody s_NoFit_told) (defScope s_NoFit_told) [] [] (He.ma K (He.ga K "NoFit") "told") fd := T.c.def_ 3 (d := D.d_NoFit_told) rfl
theorem Tx.f_NoCell_init (T : Tx K mg) : ∃ fd, FunD K "__init__" "NoCell.__init__" (defArgs s_NoCell_init) (defBody s_NoCell_init) (defScope s_NoCell_init) [] [] (He.ma K (He.ga K "NoCell") "__init__") fd := T.c.def_ 4 (d := D.d_NoCell_init) rfl
theorem Tx.f_NoCell_told (T : Tx K mg) : ∃ fd, FunD K "told" "NoCell.told" (defArgs s_NoCell_told) (defBody s_NoCell_told) (defScope s_NoCell_told) [] [] (He.ma K (He.ga K "NoCell") "told") fd := T.c.def_ 5 (d := D.d_NoCell_told) rfl
theorem Tx.f_cells_of (T : Tx K mg) : ∃ fd, FunD K "cells_of" "cells_of" (defArgs s_cells_of) (defBody s_cells_of) (defScope s_cells_of) [] [] (He.ga K "cells_of") fd := T.c.def_ 6 (d := D.d_cells_of) rfl
theorem Tx.f_last_cell (T : Tx K mg) : ∃ fd, FunD K "last_cell" "last_cell" (defArgs s_last_cell) (defBody s_last_cell) (defScope s_last_cell) [] [] (He.ga K "last_cell") fd := T.c.def_ 7 (d := D.d_last_cell) rfl
theorem Tx.f_number_at (T : Tx K mg) : ∃ fd, FunD K "number_at" "number_at" (defArgs s_number_at) (defBody s_number_at) (defScope s_number_at) [] [] (He.ga K "number_at") fd := T.c.def_ 8 (d := D.d_number_at) rfl
theorem Tx.f_read_hidden (T : Tx K mg) : ∃ fd, FunD K "read_hidden" "read_hidden" (defArgs s_read_hidden) (defBody s_read_hidden) (defScope s_read_hidden) [] [] (He.ga K "read_hidden") fd := T.c.def_ 9 (d := D.d_read_hidden) rfl
theorem Tx.f_refuse_no_cell (T : Tx K mg) : ∃ fd, FunD K "refuse_no_cell" "refuse_no_cell" (defArgs s_refuse_no_cell) (defBody s_refuse_no_cell) (defScope s_refuse_no_cell) [] [] (He.ga K "refuse_no_cell") fd := T.c.def_ 10 (d := D.d_refuse_no_cell) rfl
theorem Tx.f_refuse_shown (T : Tx K mg) : ∃ fd, FunD K "refuse_shown" "refuse_shown" (defArgs s_refuse_shown) (defBody s_refuse_shown) (defScope s_refuse_shown) [] [] (He.ga K "refuse_shown") fd := T.c.def_ 11 (d := D.d_refuse_shown) rfl
theorem Tx.f_arc_of (T : Tx K mg) : ∃ fd, FunD K "arc_of" "arc_of" (defArgs s_arc_of) (defBody s_arc_of) (defScope s_arc_of) [] [] (He.ga K "arc_of") fd := T.c.def_ 12 (d := D.d_arc_of) rfl
theorem Tx.f_Flow_init (T : Tx K mg) : ∃ fd, FunD K "__init__" "Flow.__init__" (defArgs s_Flow_init) (defBody s_Flow_init) (defScope s_Flow_init) [] [] (He.ma K (He.ga K "Flow") "__init__") fd := T.c.def_ 13 (d := D.d_Flow_init) rfl
theorem Tx.f_Flow_number_now (T : Tx K mg) : ∃ fd, FunD K "number_now" "Flow.number_now" (defArgs s_Flow_number_now) (defBody s_Flow_number_now) (defScope s_Flow_number_now) [] [] (He.ma K (He.ga K "Flow") "number_now") fd := T.c.def_ 14 (d := D.d_Flow_number_now) rfl
theorem Tx.f_Flow_change (T : Tx K mg) : ∃ fd, FunD K "change" "Flow.change" (defArgs s_Flow_change) (defBody s_Flow_change) (defScope s_Flow_change) [] [] (He.ma K (He.ga K "Flow") "change") fd := T.c.def_ 15 (d := D.d_Flow_change) rfl
theorem Tx.f_least_flow (T : Tx K mg) : ∃ fd, FunD K "least_flow" "least_flow" (defArgs s_least_flow) (defBody s_least_flow) (defScope s_least_flow) [] [] (He.ga K "least_flow") fd := T.c.def_ 16 (d := D.d_least_flow) rfl
theorem Tx.f_most_flow (T : Tx K mg) : ∃ fd, FunD K "most_flow" "most_flow" (defArgs s_most_flow) (defBody s_most_flow) (defScope s_most_flow) [] [] (He.ga K "most_flow") fd := T.c.def_ 17 (d := D.d_most_flow) rfl
theorem Tx.f_steps_of (T : Tx K mg) : ∃ fd, FunD K "steps_of" "steps_of" (defArgs s_steps_of) (defBody s_steps_of) (defScope s_steps_of) [] [] (He.ga K "steps_of") fd := T.c.def_ 18 (d := D.d_steps_of) rfl
theorem Tx.f_pushed (T : Tx K mg) : ∃ fd, FunD K "pushed" "pushed" (defArgs s_pushed) (defBody s_pushed) (defScope s_pushed) [] [] (He.ga K "pushed") fd := T.c.def_ 19 (d := D.d_pushed) rfl
theorem Tx.f_ways_from (T : Tx K mg) : ∃ fd, FunD K "ways_from" "ways_from" (defArgs s_ways_from) (defBody s_ways_from) (defScope s_ways_from) [] [] (He.ga K "ways_from") fd := T.c.def_ 20 (d := D.d_ways_from) rfl
theorem Tx.f_way_to (T : Tx K mg) : ∃ fd, FunD K "way_to" "way_to" (defArgs s_way_to) (defBody s_way_to) (defScope s_way_to) [] [] (He.ga K "way_to") fd := T.c.def_ 21 (d := D.d_way_to) rfl
theorem Tx.f_fits (T : Tx K mg) : ∃ fd, FunD K "fits" "fits" (defArgs s_fits) (defBody s_fits) (defScope s_fits) [] [] (He.ga K "fits") fd := T.c.def_ 22 (d := D.d_fits) rfl
theorem Tx.f_is_as_wide (T : Tx K mg) : ∃ fd, FunD K "is_as_wide" "is_as_wide" (defArgs s_is_as_wide) (defBody s_is_as_wide) (defScope s_is_as_wide) [] [] (He.ga K "is_as_wide") fd := T.c.def_ 23 (d := D.d_is_as_wide) rfl
theorem Tx.f_has_right_sums (T : Tx K mg) : ∃ fd, FunD K "has_right_sums" "has_right_sums" (defArgs s_has_right_sums) (defBody s_has_right_sums) (defScope s_has_right_sums) [] [] (He.ga K "has_right_sums") fd := T.c.def_ 24 (d := D.d_has_right_sums) rfl
theorem Tx.f_reach (T : Tx K mg) : ∃ fd, FunD K "reach" "reach" (defArgs s_reach) (defBody s_reach) (defScope s_reach) [] [] (He.ga K "reach") fd := T.c.def_ 25 (d := D.d_reach) rfl
theorem Tx.f_bound (T : Tx K mg) : ∃ fd, FunD K "bound" "bound" (defArgs s_bound) (defBody s_bound) (defScope s_bound) [] [] (He.ga K "bound") fd := T.c.def_ 26 (d := D.d_bound) rfl
theorem Tx.f_coming_in (T : Tx K mg) : ∃ fd, FunD K "coming_in" "coming_in" (defArgs s_coming_in) (defBody s_coming_in) (defScope s_coming_in) [] [] (He.ga K "coming_in") fd := T.c.def_ 27 (d := D.d_coming_in) rfl
theorem Tx.f_going_out (T : Tx K mg) : ∃ fd, FunD K "going_out" "going_out" (defArgs s_going_out) (defBody s_going_out) (defScope s_going_out) [] [] (He.ga K "going_out") fd := T.c.def_ 28 (d := D.d_going_out) rfl
theorem Tx.f_is_in (T : Tx K mg) : ∃ fd, FunD K "is_in" "is_in" (defArgs s_is_in) (defBody s_is_in) (defScope s_is_in) [] [] (He.ga K "is_in") fd := T.c.def_ 29 (d := D.d_is_in) rfl
theorem Tx.f_sum_shown (T : Tx K mg) : ∃ fd, FunD K "sum_shown" "sum_shown" (defArgs s_sum_shown) (defBody s_sum_shown) (defScope s_sum_shown) [] [] (He.ga K "sum_shown") fd := T.c.def_ 30 (d := D.d_sum_shown) rfl
theorem Tx.f_fences (T : Tx K mg) : ∃ fd, FunD K "fences" "fences" (defArgs s_fences) (defBody s_fences) (defScope s_fences) [] [] (He.ga K "fences") fd := T.c.def_ 31 (d := D.d_fences) rfl
theorem Tx.f_places_of (T : Tx K mg) : ∃ fd, FunD K "places_of" "places_of" (defArgs s_places_of) (defBody s_places_of) (defScope s_places_of) [] [] (He.ga K "places_of") fd := T.c.def_ 32 (d := D.d_places_of) rfl
theorem Tx.f_fence_of (T : Tx K mg) : ∃ fd, FunD K "fence_of" "fence_of" (defArgs s_fence_of) (defBody s_fence_of) (defScope s_fence_of) [] [] (He.ga K "fence_of") fd := T.c.def_ 33 (d := D.d_fence_of) rfl
theorem Tx.f__law_cell_at (T : Tx K mg) : ∃ fd, FunD K "_law_cell_at" "_law_cell_at" (defArgs s__law_cell_at) (defBody s__law_cell_at) (defScope s__law_cell_at) [] [] (He.ga K "_law_cell_at") fd := T.c.def_ 34 (d := D.d__law_cell_at) rfl
theorem Tx.f__law_state (T : Tx K mg) : ∃ fd, FunD K "_law_state" "_law_state" (defArgs s__law_state) (defBody s__law_state) (defScope s__law_state) [] [] (He.ga K "_law_state") fd := T.c.def_ 35 (d := D.d__law_state) rfl
theorem Tx.f__law_digit (T : Tx K mg) : ∃ fd, FunD K "_law_digit" "_law_digit" (defArgs s__law_digit) (defBody s__law_digit) (defScope s__law_digit) [] [] (He.ga K "_law_digit") fd := T.c.def_ 36 (d := D.d__law_digit) rfl
theorem Tx.f__law_summed (T : Tx K mg) : ∃ fd, FunD K "_law_summed" "_law_summed" (defArgs s__law_summed) (defBody s__law_summed) (defScope s__law_summed) [] [] (He.ga K "_law_summed") fd := T.c.def_ 37 (d := D.d__law_summed) rfl
theorem Tx.f__law_cells (T : Tx K mg) : ∃ fd, FunD K "_law_cells" "_law_cells" (defArgs s__law_cells) (defBody s__law_cells) (defScope s__law_cells) [] [] (He.ga K "_law_cells") fd := T.c.def_ 38 (d := D.d__law_cells) rfl
theorem Tx.f__law_hidden (T : Tx K mg) : ∃ fd, FunD K "_law_hidden" "_law_hidden" (defArgs s__law_hidden) (defBody s__law_hidden) (defScope s__law_hidden) [] [] (He.ga K "_law_hidden") fd := T.c.def_ 39 (d := D.d__law_hidden) rfl
theorem Tx.f__law_drawn_grid (T : Tx K mg) : ∃ fd, FunD K "_law_drawn_grid" "_law_drawn_grid" (defArgs s__law_drawn_grid) (defBody s__law_drawn_grid) (defScope s__law_drawn_grid) [] [] (He.ga K "_law_drawn_grid") fd := T.c.def_ 40 (d := D.d__law_drawn_grid) rfl
theorem Tx.f__law_arc (T : Tx K mg) : ∃ fd, FunD K "_law_arc" "_law_arc" (defArgs s__law_arc) (defBody s__law_arc) (defScope s__law_arc) [] [] (He.ga K "_law_arc") fd := T.c.def_ 41 (d := D.d__law_arc) rfl
theorem Tx.f__law_bound (T : Tx K mg) : ∃ fd, FunD K "_law_bound" "_law_bound" (defArgs s__law_bound) (defBody s__law_bound) (defScope s__law_bound) [] [] (He.ga K "_law_bound") fd := T.c.def_ 42 (d := D.d__law_bound) rfl
theorem Tx.f__law_fence (T : Tx K mg) : ∃ fd, FunD K "_law_fence" "_law_fence" (defArgs s__law_fence) (defBody s__law_fence) (defScope s__law_fence) [] [] (He.ga K "_law_fence") fd := T.c.def_ 43 (d := D.d__law_fence) rfl
theorem Tx.f__law_right (T : Tx K mg) : ∃ fd, FunD K "_law_right" "_law_right" (defArgs s__law_right) (defBody s__law_right) (defScope s__law_right) [] [] (He.ga K "_law_right") fd := T.c.def_ 44 (d := D.d__law_right) rfl
theorem Tx.f__law_changed_right (T : Tx K mg) : ∃ fd, FunD K "_law_changed_right" "_law_changed_right" (defArgs s__law_changed_right) (defBody s__law_changed_right) (defScope s__law_changed_right) [] [] (He.ga K "_law_changed_right") fd := T.c.def_ 45 (d := D.d__law_changed_right) rfl
theorem Tx.f__law_reached (T : Tx K mg) : ∃ fd, FunD K "_law_reached" "_law_reached" (defArgs s__law_reached) (defBody s__law_reached) (defScope s__law_reached) [] [] (He.ga K "_law_reached") fd := T.c.def_ 46 (d := D.d__law_reached) rfl
theorem Tx.f_law (T : Tx K mg) : ∃ fd, FunD K "law" "law" (defArgs s_law) (defBody s_law) (defScope s_law) [] [] (He.ga K "law") fd := T.c.def_ 47 (d := D.d_law) rfl
end
end K3
end A0_part
section V0_part
set_option Elab.async false
set_option linter.all false
set_option maxRecDepth 100000
set_option maxHeartbeats 0
namespace L2
open PySem PySem.Spec PyProof.Rows
/-! ### a def and its promise, for all callers -/
structure Ok (P : Program) (w : World) (K : PySem.W.Frag) (mg : Str → Option Value) (base : Heap) (k : Nat) (f : Addr) (ps : List Str) (sp : Sp) : Prop where
  run : ∃ fd, FnOk P w K mg base (L2.CX P w) k f fd ps sp ∧ Binds K fd ps [] ∧ PySem.W.keepIn K (.ref f) = true
section
variable {X : Cx} {k : Nat} {f : Addr} {ps : List Str} {sp : Sp} {x : Str} {e : Expr} {es : List Expr} {p pos : Pos} {t : TA}
/-- f(e, ..), nothing is raised -/
theorem pe_f (O : Ok X.prog X.w X.K X.mg X.base k f ps sp) (hr : Room k X.A) (hm : X.mg x = some (.ref f)) (ha : PA X (e :: es) t) (hg : Gl X x := by rfl) (hdb : (x == ("__debug__" : Str)) = false := by decide)
    (he : starEach (e :: es) X.env = (false, eval e X.env) :: starEach es X.env := by rfl) (hpl : (backTo pos (starEach es X.env)).any (·.1) = false := by rfl) :
    PE X (.Call (.Name x p) (e :: es) [] pos) (tCall sp [] E0 t) := by
  obtain ⟨fd, F, b, kp⟩ := O.run
  exact pe_call F hr hg hm kp b .nil passL ha hdb he hpl
/-- f(e, ..), what is raised is wished for by W at the slots -/
theorem pe_fE {W : WX} (tk : Takes X W) (O : Ok X.prog X.w X.K X.mg X.base k f ps sp) (hr : Room k X.A) (hm : X.mg x = some (.ref f)) (ha : PA X (e :: es) t) (hg : Gl X x := by rfl) (hdb : (x == ("__debug__" : Str)) = false := by decide)
    (he : starEach (e :: es) X.env = (false, eval e X.env) :: starEach es X.env := by rfl) (hpl : (backTo pos (starEach es X.env)).any (·.1) = false := by rfl) :
    PE X (.Call (.Name x p) (e :: es) [] pos) (tCallS sp (WE W) t) := by
  obtain ⟨fd, F, b, kp⟩ := O.run
  exact pe_callS F hr hg hm kp b (fun σ => passAt tk σ) ha hdb he hpl
theorem pe_gint {i : Int} (hm : ∃ t, X.mg x = some (.int i t)) (hg : Gl X x := by rfl) (hd : (x == ("__debug__" : Str)) = false := by decide) : PE X (.Name x pos) (tC (.int i)) := by
  obtain ⟨t, h⟩ := hm
  exact pe_glob hg h ⟨_, rfl⟩ hd
theorem pe_gstr {i : Str} (hm : ∃ t, X.mg x = some (.str i t)) (hg : Gl X x := by rfl) (hd : (x == ("__debug__" : Str)) = false := by decide) : PE X (.Name x pos) (tC (.str i)) := by
  obtain ⟨t, h⟩ := hm
  exact pe_glob hg h ⟨_, rfl⟩ hd
theorem pe_gref {a : Addr} (hm : X.mg x = some (.ref a)) (hg : Gl X x := by rfl) (hd : (x == ("__debug__" : Str)) = false := by decide) : PE X (.Name x pos) (tC (.ref a)) := pe_glob hg hm rfl hd
end
/-! ### readings, step by step -/
section
variable {σ : St} {H : Hp} {D : Ends} {t u : TS} {te ta tb tc : TE} {tt tt2 : TT} {tr : TA} {Q : VK} {QB : Bool → Hp → Prop} {QA : List V → Hp → Prop} {i : Nat} {v x y : V}
theorem w_seq (h : t { D with nx := u D } σ H) : tSeq t u D σ H := h
theorem w_next (h : D.nx σ H) : tNext D σ H := h
theorem w_set (h : te σ H fun x H1 => D.nx (σ.set i (some x)) H1) : tAsg te (gName i) D σ H := h
theorem w_drop (h : te σ H fun _ H1 => D.nx σ H1) : tDrop te D σ H := h
theorem w_ret (h : te σ H D.rt) : tRet te D σ H := h
theorem w_retN (h : D.rt .non H) : tRetN D σ H := h
theorem w_if (h : tt σ H fun b H1 => if b = true then t D σ H1 else u D σ H1) : tIfS tt t u D σ H := h
theorem w_var (h : σ[i]? = some (some v)) (q : Q v H) : tVar i σ H Q := ⟨v, h, q⟩
theorem w_c (q : Q v H) : tC v σ H Q := q
theorem w_nil (q : QA [] H) : tNil σ H QA := q
theorem w_cons (h : te σ H fun x H1 => tr σ H1 fun xs H2 => QA (x :: xs) H2) : tCons te tr σ H QA := h
theorem w_op {r : R2} (h : ta σ H fun x H1 => tb σ H1 fun y H2 => r x y H2 Q) : tOp r ta tb σ H Q := h
theorem w_un {r : V → Hp → VK → Prop} (h : ta σ H fun x H1 => r x H1 Q) : tUn r ta σ H Q := h
theorem w_test (h : te σ H fun x H' => ∃ k, x = .bl k ∧ QB k H') : tTest te σ H QB := h
theorem w_tB (h : te σ H fun x H' => ∃ k, x = .bl k ∧ QB k H') : tB te σ H QB := h
theorem w_not (h : tt σ H fun c H1 => QB (!c) H1) : tNot tt σ H QB := h
theorem w_and (h : tt σ H fun c H1 => if c = true then tt2 σ H1 QB else QB false H1) : tAnd tt tt2 σ H QB := h
theorem w_or (h : tt σ H fun c H1 => if c = true then QB true H1 else tt2 σ H1 QB) : tOr tt tt2 σ H QB := h
theorem w_bl {b : Bool} {P : Bool → Prop} (h : P b) : ∃ k, V.bl b = .bl k ∧ P k := ⟨b, rfl, h⟩
theorem w_nT {A B : Prop} (h : B) : if (!true) = true then A else B := iteF h
theorem w_nF {A B : Prop} (h : A) : if (!false) = true then A else B := iteT h
theorem w_nN {A B : Prop} {b : Bool} (h : if b = true then B else A) : if (!b) = true then A else B := by cases b <;> exact h
theorem w_andV (h : ta σ H fun x H1 => ∃ c, x = .bl c ∧ if c = true then tb σ H1 Q else Q (.bl false) H1) : tAndV ta tb σ H Q := h
theorem w_orV (h : ta σ H fun x H1 => ∃ c, x = .bl c ∧ if c = true then Q (.bl true) H1 else tb σ H1 Q) : tOrV ta tb σ H Q := h
theorem w_notV (h : ta σ H fun x H1 => ∃ c, x = .bl c ∧ Q (.bl (!c)) H1) : tNotV ta σ H Q := h
theorem w_ifE (h : tt σ H fun c H1 => if c = true then ta σ H1 Q else tb σ H1 Q) : tIf tt ta tb σ H Q := h
theorem w_chain {r r' : R2} (h : ta σ H fun x H1 => tb σ H1 fun y H2 => r x y H2 fun z H3 => ∃ k, z = .bl k ∧ (if k = true then tc σ H3 fun w' H4 => r' y w' H4 Q else Q (.bl false) H3)) : tChain r r' ta tb tc σ H Q := h
theorem w_i0 {g : Int → Int → V} {i j : Int} (h : Q (g i j) H) : rI0 g (.int i) (.int j) H Q := ⟨i, j, rfl, rfl, h⟩
theorem w_i {C : Int → Int → Prop} {g : Int → Int → V} {i j : Int} (c : C i j) (h : Q (g i j) H) : rI C g (.int i) (.int j) H Q := ⟨i, j, rfl, rfl, c, h⟩
theorem w_call {sp : Sp} {dvs : List V} {E : XK} (h : tr σ H fun vs H1 => sp (vs ++ dvs) H1 Q E) : tCall sp dvs E tr σ H Q := h
theorem w_callS {sp : Sp} {E : St → XK} (h : tr σ H fun vs H1 => sp vs H1 Q (E σ)) : tCallS sp E tr σ H Q := h
theorem w_cB {r : List V → Hp → VK → Prop} (h : tr σ H fun vs H1 => r vs H1 Q) : tCB r tr σ H Q := h
theorem w_tup (h : tr σ H fun xs H1 => xs.length ≤ sizeLine ∧ ∀ p, H1 p = none → Q (.ref p) (upd H1 p (.tup xs))) : tTup tr σ H Q := h
theorem w_lst (h : tr σ H fun xs H1 => xs.length ≤ sizeLine ∧ ∀ p, H1 p = none → Q (.ref p) (upd H1 p (.lst xs))) : tLst tr σ H Q := h
theorem w_fldV {K : PySem.W.Frag} {f : Str} (h : ta σ H fun x H1 => ∃ a C dx fs v, x = .ref a ∧ H1 a = some (.ins C dx fs) ∧ Cls K C ∧ NoAttr K C f ∧ fs.lookup f = some v ∧ Q v H1) : tFld K ta f σ H Q := h
theorem w_eqS {a b : Str} (h : Q (.bl (decide (V.str a = V.str b))) H) : rEq (.str a) (.str b) H Q := ⟨rfl, h⟩
theorem w_neF {A B : Prop} {a b : Bool} (h : if b = true then A else B) : if (if false = true then a else b) = true then A else B := by
  rw [if_neg Bool.false_ne_true]
  exact h
theorem w_neT {A B : Prop} {a b : Bool} (h : if a = true then A else B) : if (if true = true then a else b) = true then A else B := by
  rw [if_pos (rfl : true = true)]
  exact h
theorem w_yes (h : QB true H) : tYes σ H QB := h
theorem w_notN (h : ta σ H fun x H1 => Q (.bl (!decide (x = .non))) H1) : tNotN ta σ H Q := h
theorem w_isN (h : ta σ H fun x H1 => Q (.bl (decide (x = .non))) H1) : tIsN ta σ H Q := h
theorem w_gname {QS : L2.St → Hp → Prop} (h : QS (σ.set i (some v)) H) : gName i v σ H QS := h
theorem w_gsub {to ti : TE} {t : TSet} {QS : L2.St → Hp → Prop} (h : to σ H fun o H1 => ti σ H1 fun i H2 => t o i v H2 fun H3 => QS σ H3) : gSub to ti t v σ H QS := h
theorem w_asg {g : TG} (h : te σ H fun x H1 => g x σ H1 D.nx) : tAsg te g D σ H := h
theorem w_ixL {K : PySem.W.Frag} {p : Addr} {xs : List V} {i : Int} (hl : H p = some (.lst xs)) (ha : atI xs i = some v) (h : Q v H) : rIxL K (.ref p) (.int i) H Q := ⟨p, xs, i, v, rfl, rfl, SqL.of hl, ha, h⟩
theorem w_ixT {K : PySem.W.Frag} {p : Addr} {xs : List V} {i : Int} (hl : SqT K H p xs) (ha : atI xs i = some v) (h : Q v H) : rIxT K (.ref p) (.int i) H Q := ⟨p, xs, i, v, rfl, rfl, hl, ha, h⟩
theorem w_setL {p : Addr} {xs : List V} {i : Int} {j : Nat} {QH : Hp → Prop} (hl : H p = some (.lst xs)) (hj : ixN xs.length i = some j) (h : QH (upd H p (.lst (xs.set j v)))) : rSetL (.ref p) (.int i) v H QH := ⟨p, xs, i, j, rfl, rfl, hl, hj, h⟩
theorem w_iteT {A B : Prop} (h : A) : if true = true then A else B := iteT h
theorem w_iteF {A B : Prop} (h : B) : if false = true then A else B := iteF h
end
end L2
namespace L2
open PySem PySem.Spec PyProof.Rows
theorem Same.new {H : Hp} {p : Addr} (h : H p = none) (o : HO) : Same H (upd H p o) := fun b u q => by rw [upd_ne (ne_of_none q h)]; exact q
theorem Same.at {H H' : Hp} (s : Same H H') {a : Addr} {o : HO} (h : H a = some o) : H' a = some o := s _ _ h
/-- an object that H does not know may change -/
theorem Same.mut {H H' : Hp} {p : Addr} {o : HO} (e : Same H H') (h : H p = none) : Same H (upd H' p o) := fun a u ha => by
  rw [upd_ne (ne_of_none ha h)]
  exact e a u ha
theorem Same.sqt {K : PySem.W.Frag} {H H' : Hp} {a : Addr} {xs : List V} (e : Same H H') (h : SqT K H a xs) : SqT K H' a xs := by
  rcases h with (h | ⟨o, h⟩) | h
  · exact .inl (.inl (e _ _ h))
  · exact .inl (.inr ⟨o, e _ _ h⟩)
  · exact .inr h
/-- instances and tuples stand -/
def keepF : List (Str × V) → Bool
  | [] => false
  | [(f, _)] => decide (f = ("inner" : Str))
  | [_, (g, _)] => !decide (g = ("questions" : Str))
  | _ => true
def keepO : HO → Bool
  | .ins _ _ fs => keepF fs
  | .tup _ => true
  | .frz _ _ => true
  | _ => false
def SI (H H' : Hp) : Prop := ∀ b o, keepO o = true → H b = some o → H' b = some o
theorem Same.si {H H' : Hp} (e : Same H H') : SI H H' := fun b o _ h => e b o h
theorem SI.trans {H H1 H2 : Hp} (a : SI H H1) (b : SI H1 H2) : SI H H2 := fun c o k h => b c o k (a c o k h)
theorem SI.refl (H : Hp) : SI H H := fun _ _ _ h => h
theorem SI.upd {H : Hp} {p : Addr} {u : HO} (h : H p = some u) (hu : keepO u = false) (o : HO) : SI H (upd H p o) := fun b o' k q => by
  rw [upd_ne (fun z => by rw [z, h] at q; rw [← Option.some.inj q, hu] at k; cases k)]
  exact q
theorem SI.sqt {K : PySem.W.Frag} {H H' : Hp} {a : Addr} {xs : List V} (e : SI H H') (h : SqT K H a xs) : SqT K H' a xs := by
  rcases h with (h | ⟨o, h⟩) | h
  · exact .inl (.inl (e _ _ rfl h))
  · exact .inl (.inr ⟨o, e _ _ rfl h⟩)
  · exact .inr h
/-- [te for c in z]: each element is f c -/
theorem lc_strF {z : Str} {f : Nat → V} {σ : St} {i : Nat} {vs : List Nat} {ta te : TE} {H : Hp} {Q : VK} (ha : ∀ (Q : VK), Q (.str z) H → ta σ H Q) (hz : z.cps.size ≤ 1000) (hw : ∀ x, wipe ((wipe σ vs).set i (some x)) vs = wipe σ vs)
    (he : ∀ (c : Nat) (H' : Hp) (Q : VK), Same H H' → Q (f c) H' → te ((wipe σ vs).set i (some (.str ⟨#[c]⟩))) H' Q)
    (q : ∀ (p : Addr) (H' : Hp), H p = none → Same H H' → H' p = some (.lst (z.cps.toList.map f)) → Q (.ref p) H') : tLc (iStr ta) (gName i) tYes te vs σ H Q := by
  refine ha _ ⟨z, rfl, fun p hp => ?_⟩
  refine lc_it (n := z.cps.size) walk_str (fun n H' => Same H H' ∧ H' p = some (.lst ((z.cps.toList.take n).map f))) ⟨Same.new hp _, upd_same⟩ (fun _ _ _ _ => trivial) ?_ ?_
  · rintro n x H1 H2 hn ⟨s1, e1⟩ ⟨rfl, c, hc, rfl⟩
    refine ⟨hw _, ?_⟩
    refine w_yes ?_
    refine w_iteT ?_
    refine (he c _ _ s1 ⟨_, e1, ?_, s1.mut hp, ?_⟩)
    · rw [List.length_map, List.length_take, Array.length_toList]
      exact Nat.lt_of_lt_of_le (Nat.lt_of_le_of_lt (Nat.min_le_left _ _) (Nat.lt_of_lt_of_le hn hz)) (by decide)
    · rw [upd_same, List.take_add_one]
      have : z.cps.toList[n]? = some c := by rw [Array.getElem?_toList]; exact hc
      rw [this]
      simp
  · rintro H' ⟨s1, e1⟩
    refine q p H' hp s1 ?_
    rw [e1, List.take_of_length_le (by rw [Array.length_toList] <;> exact Nat.le_refl _)]
end L2
end V0_part
section G0_part
set_option Elab.async false
set_option linter.all false
set_option maxRecDepth 100000
set_option maxHeartbeats 1000000
set_option pp.deepTerms.threshold 5
open PySem PySem.Spec PyProof.Rows L2
/-- go on as far as nothing is open -/
local macro_rules | `(tactic| walk_at "go") => `(tactic| repeat (first
  | with_reducible refine w_seq ?_ | with_reducible refine w_next ?_ | with_reducible refine w_set ?_ | with_reducible refine w_drop ?_ | with_reducible refine w_ret ?_ | with_reducible refine w_retN ?_
  | with_reducible refine w_if ?_ | ((with_reducible refine' w_var ?hv ?_); (case hv => exact rfl)) | with_reducible refine w_c ?_ | with_reducible refine w_nil ?_ | with_reducible refine w_cons ?_ | with_reducible refine w_op ?_ | with_reducible refine w_un ?_
  | with_reducible refine w_test ?_ | with_reducible refine w_tB ?_ | with_reducible refine w_not ?_ | with_reducible refine w_and ?_ | with_reducible refine w_or ?_ | with_reducible refine w_bl ?_
  | with_reducible refine w_andV ?_ | with_reducible refine w_orV ?_ | with_reducible refine w_notV ?_ | with_reducible refine w_ifE ?_ | with_reducible refine w_chain ?_ | with_reducible refine w_i0 ?_
  | with_reducible refine w_call ?_ | with_reducible refine w_callS ?_ | with_reducible refine w_cB ?_ | with_reducible refine w_tup ?_ | with_reducible refine w_lst ?_ | with_reducible refine w_fldV ?_
  | with_reducible refine w_neF ?_ | with_reducible refine w_neT ?_ | with_reducible refine w_notN ?_ | with_reducible refine w_isN ?_ | with_reducible refine w_gname ?_ | with_reducible refine w_gsub ?_ | with_reducible refine w_asg ?_ | with_reducible refine w_yes ?_ | with_reducible refine w_nT ?_ | with_reducible refine w_nF ?_ | with_reducible refine w_iteT ?_ | with_reducible refine w_iteF ?_))
namespace L2
open PySem PySem.Spec PyProof.Rows
section
variable {σ : St} {H : Hp} {te : TE} {tl th : TO} {Q : VK} {QO : Option Int → Hp → Prop} {r : V → Option Int → Option Int → Hp → VK → Prop}
theorem w_sl (h : te σ H fun x H1 => tl σ H1 fun l H2 => th σ H2 fun u H3 => r x l u H3 Q) : tSl r te tl th σ H Q := h
theorem w_noP (h : QO none H) : tNoPart σ H QO := h
theorem w_part (h : te σ H fun x H1 => ∃ i, x = .int i ∧ QO (some i) H1) : tPart te σ H QO := h
theorem w_int1 {i : Int} {P : Int → Prop} (h : P i) : ∃ j, V.int i = .int j ∧ P j := ⟨i, rfl, h⟩
end
end L2

namespace K3
/-! ### heaps less what may change -/
def less (H : Hp) (M : List Addr) : Hp := fun b => if b ∈ M then none else H b
/-- all stands, what is in M perhaps changed -/
def BM (M : List Addr) (H H' : Hp) : Prop := ∀ b o, H b = some o → ∃ o', H' b = some o' ∧ (b ∉ M → o' = o)
theorem BM.refl (M : List Addr) (H : Hp) : BM M H H := fun _ o h => ⟨o, h, fun _ => rfl⟩
theorem BM.trans {M : List Addr} {H H1 H2 : Hp} (a : BM M H H1) (b : BM M H1 H2) : BM M H H2 := fun c o h => by
  obtain ⟨o1, h1, k1⟩ := a c o h
  obtain ⟨o2, h2, k2⟩ := b c o1 h1
  exact ⟨o2, h2, fun k => (k2 k).trans (k1 k)⟩
theorem BM.at {M : List Addr} {H H1 : Hp} (a : BM M H H1) {b : Addr} {o : HO} (h : H b = some o) (k : b ∉ M) : H1 b = some o := by
  obtain ⟨o1, h1, k1⟩ := a b o h
  rw [h1, k1 k]
theorem BM.of {M : List Addr} {H H1 : Hp} (a : Same H H1) : BM M H H1 := fun c o h => ⟨o, a c o h, fun _ => rfl⟩
theorem BM.mono {M N : List Addr} {H H1 : Hp} (a : BM M H H1) (s : ∀ b ∈ M, b ∈ N) : BM N H H1 := fun c o h => by
  obtain ⟨o1, h1, k1⟩ := a c o h
  exact ⟨o1, h1, fun k => k1 fun z => k (s c z)⟩
theorem BM.upd {M : List Addr} {H : Hp} {p : Addr} (hp : p ∈ M) (o : HO) : BM M H (upd H p o) := fun b u h => by
  by_cases c : b = p
  · exact ⟨o, by rw [c]; exact upd_same, fun k => absurd (by rw [c]; exact hp) k⟩
  · exact ⟨u, by rw [upd_ne c]; exact h, fun _ => rfl⟩
theorem BM.less {M : List Addr} {H H1 : Hp} (a : BM M H H1) : Same (less H M) (less H1 M) := fun b o h => by
  unfold K3.less at h ⊢
  by_cases c : b ∈ M
  · rw [if_pos c] at h; cases h
  · rw [if_neg c] at h ⊢
    exact a.at h c
theorem BM.free {M : List Addr} {H H1 : Hp} (h : BM M H H1) {p : Addr} (hp : H1 p = none) : H p = none := by
  cases e : H p with
  | none => rfl
  | some o =>
    obtain ⟨o1, h1, _⟩ := h p o e
    rw [hp] at h1
    cases h1
theorem less_at {H : Hp} {M : List Addr} {b : Addr} {o : HO} (h : less H M b = some o) : H b = some o ∧ b ∉ M := by
  unfold less at h
  by_cases c : b ∈ M
  · rw [if_pos c] at h; cases h
  · rw [if_neg c] at h; exact ⟨h, c⟩
theorem less_of {H : Hp} {M : List Addr} {b : Addr} {o : HO} (h : H b = some o) (c : b ∉ M) : less H M b = some o := by
  unfold less
  rw [if_neg c]
  exact h
theorem less_same {H : Hp} {M : List Addr} : Same (less H M) H := fun b o h => (less_at h).1
/-- all of M is there -/
def In (M : List Addr) (H : Hp) : Prop := ∀ m ∈ M, ∃ o, H m = some o
theorem In.new {M : List Addr} {H : Hp} {p : Addr} (h : In M H) (hp : H p = none) : p ∉ M := fun z => by obtain ⟨o, e⟩ := h p z; rw [hp] at e; cases e
theorem In.bm {M N : List Addr} {H H' : Hp} (h : In M H) (e : BM N H H') : In M H' := fun m hm => by
  obtain ⟨o, q⟩ := h m hm
  obtain ⟨o', q', _⟩ := e m o q
  exact ⟨o', q'⟩
/-- the source of draws -/
def Src (H : Hp) (s : Addr) : Prop := ∃ a b c : Int, H s = some (.lst [.int a, .int b, .int c])
theorem Src.bm {M : List Addr} {H H' : Hp} {s : Addr} (h : Src H s) (e : BM M H H') (k : s ∉ M) : Src H' s := let ⟨a, b, c, q⟩ := h; ⟨a, b, c, e.at q k⟩
theorem Src.same {H H' : Hp} {s : Addr} (h : Src H s) (e : Same H H') : Src H' s := let ⟨a, b, c, q⟩ := h; ⟨a, b, c, e _ _ q⟩
theorem Paired.app {α β : Type} {F : α → β → Prop} : ∀ {l1 l3 : List α} {l2 l4 : List β}, Paired F l1 l2 → Paired F l3 l4 → Paired F (l1 ++ l3) (l2 ++ l4)
  | _, _, _, _, .nil, h => h
  | _, _, _, _, .cons a t, h => .cons a (Paired.app t h)
theorem Paired.get {α β : Type} {F : α → β → Prop} : ∀ {l1 : List α} {l2 : List β}, Paired F l1 l2 → ∀ {i : Nat} {x : α}, l1[i]? = some x → ∃ y, l2[i]? = some y ∧ F x y
  | _, _, .nil, i, x, h => by simp at h
  | _, _, .cons (a := a) (b := b) h t, 0, x, e => by
    have e' : a = x := by simpa using e
    subst e'
    exact ⟨b, rfl, h⟩
  | _, _, .cons h t, i + 1, x, e => Paired.get t (i := i) (by simpa using e)
def rEqE (K : PySem.W.Frag) : R2 := fun x y H Q => ∃ (a b : Addr) (xs ys : List V), x = .ref a ∧ y = .ref b ∧ SqL K H a xs ∧ SqL K H b ys ∧ (xs = [] ∨ ys = [] ∨ xs.length ≠ ys.length) ∧ Q (.bl (decide (xs = [] ∧ ys = []))) H
def rNeE (K : PySem.W.Frag) : R2 := fun x y H Q => ∃ (a b : Addr) (xs ys : List V), x = .ref a ∧ y = .ref b ∧ SqL K H a xs ∧ SqL K H b ys ∧ (xs = [] ∨ ys = [] ∨ xs.length ≠ ys.length) ∧ Q (.bl (!decide (xs = [] ∧ ys = []))) H
theorem sizes {xs ys : List V} {is js : List Value} (r1 : Vals xs is) (r2 : Vals ys js) (h : xs = [] ∨ ys = [] ∨ xs.length ≠ ys.length) (c : ¬ (xs = [] ∧ ys = [])) : (is.toArray.size != js.toArray.size) = true := by
  have e1 := r1.length
  have e2 := r2.length
  simp only [List.size_toArray, bne_iff_ne, ne_eq]
  rw [← e1, ← e2]
  intro z
  rcases h with h | h | h
  · rw [h] at z
    exact c ⟨h, List.length_eq_zero_iff.mp z.symm⟩
  · rw [h] at z
    exact c ⟨List.length_eq_zero_iff.mp z, h⟩
  · exact h z
theorem op_eqE {X : Cx} (hu : X.A.units < cLine) : OpR X (compareOp .Eq) (rEqE X.K) := by
  intro pins s σ H x y v u Q I rx ry h
  obtain ⟨a, b, xs, ys, rfl, rfl, ha, hb, hs, q⟩ := h
  cases rx
  cases ry
  obtain ⟨is, r1, p1, _⟩ := I.list ha
  obtain ⟨js, r2, p2, _⟩ := I.list hb
  by_cases c : xs = [] ∧ ys = []
  · rw [decide_eq_true c] at q
    obtain ⟨rfl, rfl⟩ := c
    cases r1
    cases r2
    exact SeqAt.eq_listAt (e := fun _ => true) p1.isList p2.isList rfl hu (fun j h1 => absurd h1 (Nat.not_lt_zero _)) ⟨.bl true, H, I, rfl, q⟩
  · rw [decide_eq_false c] at q
    exact SeqAt.eq_list_lengthsAt p1.isList p2.isList (sizes r1 r2 hs c) hu ⟨.bl false, H, I, rfl, q⟩
theorem op_neE {X : Cx} (hu : X.A.units < cLine) : OpR X (compareOp .NotEq) (rNeE X.K) := by
  intro pins s σ H x y v u Q I rx ry h
  obtain ⟨a, b, xs, ys, rfl, rfl, ha, hb, hs, q⟩ := h
  cases rx
  cases ry
  obtain ⟨is, r1, p1, _⟩ := I.list ha
  obtain ⟨js, r2, p2, _⟩ := I.list hb
  by_cases c : xs = [] ∧ ys = []
  · rw [decide_eq_true c] at q
    obtain ⟨rfl, rfl⟩ := c
    cases r1
    cases r2
    exact SeqAt.RcNeAt.lists (e := fun _ => true) p1.isList p2.isList rfl hu (fun j h1 => absurd h1 (Nat.not_lt_zero _)) X.prog X.w X.xe _ ⟨.bl false, H, I, rfl, q⟩
  · rw [decide_eq_false c] at q
    exact SeqAt.RcNeAt.lists_lengths p1.isList p2.isList (sizes r1 r2 hs c) hu X.prog X.w X.xe _ ⟨.bl true, H, I, rfl, q⟩

theorem cut_to (xs : List V) (i : Nat) : cutV xs none (some (i : Int)) = xs.take i := by
  unfold cutV
  rw [HT.sIx_none, HT.sIx_nat, List.drop_zero, Nat.sub_zero]
  by_cases h : i ≤ xs.length
  · rw [Nat.min_eq_left h]
  · rw [Nat.min_eq_right (by omega), List.take_length, List.take_of_length_le (by omega)]
theorem cut_from (xs : List V) (i : Nat) : cutV xs (some (i : Int)) none = xs.drop i := by
  unfold cutV
  rw [HT.sIx_none, HT.sIx_nat]
  by_cases h : i ≤ xs.length
  · rw [Nat.min_eq_left h, List.take_of_length_le (by rw [List.length_drop]; omega)]
  · rw [Nat.min_eq_right (by omega), List.drop_length, List.take_nil, List.drop_of_length_le (by omega)]
theorem w_ifR {tt : TT} {t u : TS} {D : L2.Ends} {σ : L2.St} {H : Hp} (R : Bool → Hp → Prop) (h : ∀ QB : Bool → Hp → Prop, (∀ b H', R b H' → QB b H') → tt σ H QB) (h1 : ∀ H', R true H' → t D σ H') (h2 : ∀ H', R false H' → u D σ H') : tIfS tt t u D σ H :=
  h _ fun b H' r => by
    cases b with
    | true => exact h1 H' r
    | false => exact h2 H' r
theorem less_upd {H : Hp} {M : List Addr} {p : Addr} (h : p ∈ M) (o : HO) : less (upd H p o) M = less H M := by
  funext b
  unfold K3.less
  by_cases c : b ∈ M
  · rw [if_pos c, if_pos c]
  · rw [if_neg c, if_neg c, upd_ne (fun z => c (by rw [z]; exact h))]
theorem less_sub {H : Hp} {M N : List Addr} (h : ∀ b ∈ M, b ∈ N) : Same (less H N) (less H M) := fun b o q => less_of (less_at q).1 fun z => (less_at q).2 (h b z)
end K3
end G0_part
section C1_part
set_option Elab.async false
set_option linter.all false
set_option maxRecDepth 100000
set_option maxHeartbeats 1000000
set_option pp.deepTerms.threshold 5
open PySem PySem.Spec PyProof.Rows L2
/-- go on as far as nothing is open -/
local macro_rules | `(tactic| walk_at "go") => `(tactic| repeat (first
  | with_reducible refine w_seq ?_ | with_reducible refine w_next ?_ | with_reducible refine w_set ?_ | with_reducible refine w_drop ?_ | with_reducible refine w_ret ?_ | with_reducible refine w_retN ?_
  | with_reducible refine w_if ?_ | ((with_reducible refine' w_var ?hv ?_); (case hv => exact rfl)) | with_reducible refine w_c ?_ | with_reducible refine w_nil ?_ | with_reducible refine w_cons ?_ | with_reducible refine w_op ?_ | with_reducible refine w_un ?_
  | with_reducible refine w_test ?_ | with_reducible refine w_tB ?_ | with_reducible refine w_not ?_ | with_reducible refine w_and ?_ | with_reducible refine w_or ?_ | with_reducible refine w_bl ?_
  | with_reducible refine w_andV ?_ | with_reducible refine w_orV ?_ | with_reducible refine w_notV ?_ | with_reducible refine w_ifE ?_ | with_reducible refine w_chain ?_ | with_reducible refine w_i0 ?_
  | with_reducible refine w_call ?_ | with_reducible refine w_callS ?_ | with_reducible refine w_cB ?_ | with_reducible refine w_tup ?_ | with_reducible refine w_lst ?_ | with_reducible refine w_fldV ?_
  | with_reducible refine w_neF ?_ | with_reducible refine w_neT ?_ | with_reducible refine w_notN ?_ | with_reducible refine w_isN ?_ | with_reducible refine w_gname ?_ | with_reducible refine w_gsub ?_ | with_reducible refine w_asg ?_ | with_reducible refine w_sl ?_ | with_reducible refine w_noP ?_ | with_reducible refine w_int1 ?_ | with_reducible refine w_part ?_ | with_reducible refine w_yes ?_ | with_reducible refine w_nT ?_ | with_reducible refine w_nF ?_ | with_reducible refine w_iteT ?_ | with_reducible refine w_iteF ?_))
namespace K3
/-! ### tables -/
abbrev RowAt (H : Hp) (r : Addr) (row : List Int) : Prop := H r = some (.lst (row.map V.int))
structure Tab (H : Hp) (p : Addr) (rs : List Addr) (t : List (List Int)) : Prop where
  at_ : H p = some (.lst (rs.map V.ref))
  rows : Paired (RowAt H) rs t
theorem Tab.same {H H' : Hp} (e : Same H H') {p : Addr} {rs : List Addr} {t : List (List Int)} (h : Tab H p rs t) : Tab H' p rs t := ⟨e _ _ h.at_, L2.Paired.mapP h.rows fun _ _ z => e _ _ z⟩
/-- all of it is new -/
structure New (H : Hp) (p : Addr) (rs : List Addr) : Prop where
  p0 : H p = none
  rs0 : ∀ r ∈ rs, H r = none
  nd : rs.Nodup
  ne : p ∉ rs
def addSum (r : List Int) : List Int := r ++ [r.sum]
def colOf (u : List (List Int)) (c : Nat) : List Int := u.map fun r => r.getD c 0
def withSums (k : Nat) (t : List (List Int)) : List (List Int) := t.map addSum ++ [(List.range (k + 1)).map fun c => (colOf (t.map addSum) c).sum]
theorem lc_open {wi : TI} {g : TG} {tt : TT} {te : TE} {vs : List Nat} {σ : L2.St} {H : Hp} {Q : VK} (h : wi σ H fun J H1 => ∀ D, H1 D = none → ∃ W : Nat → Nat → Hp → Prop, (∃ m, W 0 m (upd H1 D (.lst []))) ∧ ∀ i m H, W i m H →
    (J.stop i H ∧ Q (.ref D) H) ∨ (J.go i H ∧ ∃ Nx : Hp → Prop, (∀ H', Nx H' → ∃ m', m' < m ∧ W (i + 1) m' H') ∧ ∀ x H', J.yld i H x H' → g x (wipe σ vs) H' fun σ2 H2 => wipe σ2 vs = wipe σ vs ∧ tt σ2 H2 fun b H3 =>
      if b = true then te σ2 H3 fun y H4 => ∃ acc, H4 D = some (.lst acc) ∧ acc.length < sizeLine ∧ Nx (upd H4 D (.lst (acc ++ [y]))) else Nx H3)) : tLc wi g tt te vs σ H Q := h
theorem rng_open {ta : TA} {σ : L2.St} {H : Hp} {R : It → Hp → Prop} (h : ta σ H fun vs H1 => ∃ j : Int, vs = [.int j] ∧ -(2 ^ 62) ≤ j ∧ j < 2 ^ 62 ∧ R (Itr 0 j.toNat) H1) : iRng1 ta σ H R := h
theorem list_open {K : PySem.W.Frag} {tl : TE} {σ : L2.St} {H : Hp} {R : It → Hp → Prop} (h : tl σ H fun x H1 => ∃ a, x = .ref a ∧ (∃ xs, SqL K H1 a xs) ∧ R (Itl K a) H1) : iList K tl σ H R := h
theorem nodup_snoc {α : Type} {l : List α} {z : α} (h : l.Nodup) (hz : z ∉ l) : (l ++ [z]).Nodup := by
  rw [List.nodup_append]
  exact ⟨h, by simp, fun a ha b hb => by rw [List.mem_singleton.mp hb]; exact fun q => hz (q ▸ ha)⟩
theorem map_ref {rs : List Addr} {i : Nat} {x : V} (h : (rs.map V.ref)[i]? = some x) : ∃ r, rs[i]? = some r ∧ x = .ref r := by
  rw [List.getElem?_map] at h
  cases e : rs[i]? with
  | none => rw [e] at h; cases h
  | some r => rw [e] at h; exact ⟨r, rfl, (Option.some.inj h).symm⟩
theorem paired_up {α β : Type} {F G : α → β → Prop} : ∀ {xs : List α} {ys : List β}, Paired F xs ys → (∀ x y, x ∈ xs → F x y → G x y) → Paired G xs ys
  | _, _, .nil, _ => .nil
  | _, _, .cons h t, k => .cons (k _ _ (List.mem_cons_self ..) h) (paired_up t fun x y hx => k x y (List.mem_cons_of_mem _ hx))
theorem paired_has {α β : Type} {F : α → β → Prop} : ∀ {xs : List α} {ys : List β}, Paired F xs ys → ∀ {x : α}, x ∈ xs → ∃ y, F x y
  | _, _, .cons (b := b) h t, x, hx => by
    rcases List.mem_cons.mp hx with rfl | hx
    · exact ⟨b, h⟩
    · exact paired_has t hx
theorem at_getD {r : List Int} {c : Nat} (h : c < r.length) : atI (r.map V.int) (c : Int) = some (.int (r.getD c 0)) := by
  refine atI_nat ?_
  rw [List.getElem?_map, List.getElem?_eq_getElem h, List.getD_eq_getElem?_getD, List.getElem?_eq_getElem h]
  rfl
end K3

namespace K3
def CellAt (H : Hp) (v : V) (c : Nat × Nat) : Prop := ∃ a, v = .ref a ∧ H a = some (.tup [.int (c.1 : Int), .int (c.2 : Int)])
theorem CellAt.same {H H' : Hp} (e : Same H H') {v : V} {c : Nat × Nat} (h : CellAt H v c) : CellAt H' v c := let ⟨a, h1, h2⟩ := h; ⟨a, h1, e _ _ h2⟩
def rowCells (n r : Nat) : List (Nat × Nat) := (List.range n).map fun c => (r, c)
def cellsOf (m n : Nat) : List (Nat × Nat) := (List.range m).flatMap (rowCells n)
theorem cells_len (m n : Nat) : (cellsOf m n).length = m * n := by
  unfold cellsOf
  induction m with
  | zero => simp
  | succ m ih => rw [List.range_succ, List.flatMap_append, List.length_append, ih]; simp [rowCells, Nat.succ_mul]
theorem cut_last {xs : List V} : cutV xs none (some (-1)) = xs.dropLast := by
  unfold cutV HT.sIx
  rw [List.dropLast_eq_take]
  show (xs.drop 0).take ((if (-1 : Int) < 0 then ((-1 : Int) + (xs.length : Int)).toNat else min (-1 : Int).toNat xs.length) - 0) = _
  rw [if_pos (by decide), List.drop_zero, Nat.sub_zero]
  congr 1
  omega
theorem paired_drop {α β : Type} {F : α → β → Prop} : ∀ {xs : List α} {ys : List β}, Paired F xs ys → Paired F xs.dropLast ys.dropLast
  | _, _, .nil => .nil
  | _, _, .cons h .nil => .nil
  | _, _, .cons h (.cons h2 t) => .cons h (paired_drop (.cons h2 t))
def spCells (K : PySem.W.Frag) : Sp := fun vs H Q _ => ∃ (p : Addr) (rs : List Addr) (t : List (List Int)) (n : Nat) (r0 : List Int), vs = [.ref p] ∧ Tab H p rs t ∧ t[0]? = some r0 ∧ r0.length = n ∧ t.length ≤ 100 ∧ n ≤ 100 ∧ ∀ p' H' vs, Same H H' → H p' = none → H' p' = some (.lst vs) → Paired (CellAt H') vs (cellsOf t.length n).dropLast → Q (.ref p') H'
end K3

namespace K3
theorem CellAt.bm {s : Addr} {H H' : Hp} (hs : Src H s) (e : BM [s] H H') {v : V} {c : Nat × Nat} (h : CellAt H v c) : CellAt H' v c := by
  obtain ⟨a, h1, h2⟩ := h
  refine ⟨a, h1, e.at h2 ?_⟩
  intro z
  obtain ⟨x, y, w, hs⟩ := hs
  rw [List.mem_singleton.mp z, hs] at h2
  cases h2
theorem ix_nat {n j : Nat} (h : j < n) : seqIndex? (j : Int) n = some j := by
  have e : ixN n (j : Int) = some j := by
    unfold ixN
    rw [if_pos (by omega), if_pos (by omega)]
    simp
  exact (ixN_seq e).1
theorem paired_erase {α β : Type} {F : α → β → Prop} : ∀ {xs : List α} {ys : List β}, Paired F xs ys → ∀ k, Paired F (xs.eraseIdx k) (ys.eraseIdx k)
  | _, _, .nil, _ => .nil
  | _, _, .cons h t, 0 => t
  | _, _, .cons h t, k + 1 => .cons h (paired_erase t k)
/-- the first list's elements that are drawn out of it -/
def spSample (K : PySem.W.Frag) : Sp := fun vs H Q _ => ∃ (s l : Addr) (xs : List V) (cs : List (Nat × Nat)) (n : Nat), vs = [.ref s, .ref l, .int (n : Int)] ∧ Src H s ∧ H l = some (.lst xs) ∧ Paired (CellAt H) xs cs ∧ n ≤ xs.length ∧ xs.length ≤ 100000 ∧
  ∀ p H' ws hs, H p = none → BM [s] H H' → Src H' s → H' p = some (.lst ws) → Paired (CellAt H') ws hs → (∀ h ∈ hs, h ∈ cs) → hs.length = n → Q (.ref p) H'
def spGrid (K : PySem.W.Frag) : Sp := fun vs H Q _ => ∃ (s : Addr), vs = [.ref s] ∧ Src H s ∧ ∀ p H' rs t k, BM [s] H H' → Src H' s → New H p rs → Tab H' p rs (withSums k t) → (∀ r ∈ t, r.length = k ∧ ∀ x ∈ r, 0 ≤ x) → 1 ≤ k → k ≤ 5 → 1 ≤ t.length → t.length ≤ 5 → Q (.ref p) H'
theorem BM.same {M : List Addr} {H H1 H2 : Hp} (a : BM M H H1) (b : Same H1 H2) : BM M H H2 := a.trans (BM.of b)
theorem BM.mut {M : List Addr} {H H' : Hp} {p : Addr} {o : HO} (e : BM M H H') (h : H p = none) : BM M H (L2.upd H' p o) := fun b u hb => by
  obtain ⟨o', h1, h2⟩ := e b u hb
  exact ⟨o', by rw [upd_ne (fun z => by rw [z, h] at hb; cases hb)]; exact h1, h2⟩
theorem src_ne {H : Hp} {s p : Addr} (hs : Src H s) (hp : H p = none) : p ≠ s := fun z => by
  obtain ⟨_, _, _, hs⟩ := hs
  rw [← z, hp] at hs
  cases hs
theorem Src.upd {H : Hp} {s p : Addr} (hs : Src H s) (ne : p ≠ s) (o : HO) : Src (L2.upd H p o) s := let ⟨a, b, c, h⟩ := hs; ⟨a, b, c, by rw [upd_ne ne.symm]; exact h⟩
def scGrow : Scope := { kind := .function, names := [(".0", .local), ("_law_row", .local), ("range", .globalImplicit), ("_law_count", .cell), ("_law_limit", .cell), ("_law_rng_here", .cell)], isGenerator := false, isCoroutine := false }
end K3

namespace K3
theorem w_eqI {i j : Int} {H : Hp} {Q : VK} (h : Q (.bl (decide (V.int i = V.int j))) H) : rEq (.int i) (.int j) H Q := ⟨rfl, h⟩
theorem decV {i j : Int} : decide (V.int i = V.int j) = decide (i = j) := by
  by_cases h : i = j
  · rw [h]; simp
  · rw [decide_eq_false h, decide_eq_false (fun z => h (V.int.inj z))]
theorem paired_take {α β : Type} {F : α → β → Prop} : ∀ {xs : List α} {ys : List β}, Paired F xs ys → ∀ k, Paired F (xs.take k) (ys.take k)
  | _, _, .nil, k => by rw [List.take_nil, List.take_nil]; exact .nil
  | _, _, .cons h t, 0 => .nil
  | _, _, .cons h t, k + 1 => .cons h (paired_take t k)
/-- what may be hidden cells of a grid of such a shape -/
structure Hid (H : Hp) (p : Addr) (ws : List V) (hs : List (Nat × Nat)) (m n : Nat) : Prop where
  at_ : H p = some (.lst ws)
  cells : Paired (CellAt H) ws hs
  mem : ∀ h ∈ hs, h ∈ (cellsOf m n).dropLast
  len : hs.length ≤ 60
def spHidden (K : PySem.W.Frag) : Sp := fun vs H Q _ => ∃ (s g : Addr) (rs : List Addr) (t : List (List Int)) (n : Nat) (r0 : List Int), vs = [.ref s, .ref g] ∧ Src H s ∧ Tab H g rs t ∧ t[0]? = some r0 ∧ r0.length = n ∧ t.length ≤ 6 ∧ n ≤ 6 ∧
  ∀ p H' ws hs, H p = none → BM [s] H H' → Src H' s → Hid H' p ws hs t.length n → Q (.ref p) H'
end K3

namespace K3
/-! ### a cell among cells -/
def cellD (c : Nat × Nat) : PyData := .tuple [.int (c.1 : Int), .int (c.2 : Int)]
theorem cell_dp {K : PySem.W.Frag} {H : Hp} {v : V} {c : Nat × Nat} (h : CellAt H v c) : Dp K H v (cellD c) := by
  obtain ⟨a, rfl, h⟩ := h
  exact Dp.tup (SqT.of h) (.cons (.int _) (.cons (.int _) .nil))
theorem cells_dp {K : PySem.W.Frag} {H : Hp} : ∀ {ws : List V} {hs : List (Nat × Nat)}, Paired (CellAt H) ws hs → DpAll K H ws (hs.map cellD)
  | _, _, .nil => .nil
  | _, _, .cons h t => .cons (cell_dp h) (cells_dp t)
theorem cell_same (a b : Nat × Nat) : PySem.Spec.same (cellD a) (cellD b) = decide (a = b) := by
  unfold cellD
  obtain ⟨a1, a2⟩ := a
  obtain ⟨b1, b2⟩ := b
  rw [Bool.eq_iff_iff]
  simp [PySem.Spec.same, PySem.Spec.sameAll]
  omega
theorem cell_nomix (a b : Nat × Nat) : SeqAt.noMix (cellD a) (cellD b) = true := rfl
theorem cell_count (c : Nat × Nat) : ∀ hs : List (Nat × Nat), 0 ≤ countIn (cellD c) (hs.map cellD) ∧ (countIn (cellD c) (hs.map cellD) ≠ 0 ↔ c ∈ hs)
  | [] => ⟨Int.le_refl 0, by simp [countIn]⟩
  | h :: hs => by
    obtain ⟨i0, i1⟩ := cell_count c hs
    simp only [List.map_cons, countIn, cell_same, List.mem_cons]
    by_cases e : h = c
    · rw [e]
      simp only [decide_true, if_true]
      exact ⟨by omega, ⟨fun _ => by simp, fun _ => by omega⟩⟩
    · rw [decide_eq_false e]
      simp only [Bool.false_eq_true, if_false]
      refine ⟨by omega, ⟨fun z => .inr (i1.mp (by omega)), fun z => ?_⟩⟩
      rcases z with z | z
      · exact absurd z.symm e
      · have := i1.mpr z
        omega
theorem log_small {n : Nat} (h : n < 1000) : (if (n : Int) = 0 then 0 else (n : Int).natAbs.log2 + 1) ≤ 10 := by
  split
  · exact Nat.zero_le _
  · rename_i h0
    have : n ≠ 0 := fun z => h0 (by rw [z]; rfl)
    have : n.log2 < 10 := (Nat.log2_lt this).mpr (by omega)
    simp only [Int.natAbs_natCast]
    omega
theorem cell_lay (c : Nat × Nat) (h : c.1 < 1000 ∧ c.2 < 1000) : (cellD c).canLay0 = true ∧ (cellD c).depth ≤ 5 ∧ (cellD c).weight ≤ 50 := by
  have l1 := log_small h.1
  have l2 := log_small h.2
  unfold cellD
  refine ⟨rfl, by simp [PyData.depth, PyData.depthAll], ?_⟩
  simp [PyData.weight, PyData.weightAll] at l1 l2 ⊢
  omega
theorem cells_lay : ∀ hs : List (Nat × Nat), (∀ c ∈ hs, c.1 < 1000 ∧ c.2 < 1000) → PyData.canLayAll0 (hs.map cellD) = true ∧ PyData.depthAll (hs.map cellD) ≤ 5 ∧ PyData.weightAll (hs.map cellD) ≤ 100 * hs.length
  | [], _ => by simp [PyData.canLayAll0, PyData.depthAll, PyData.weightAll]
  | h :: hs, k => by
    obtain ⟨a, b, c⟩ := cells_lay hs fun c hc => k c (List.mem_cons_of_mem _ hc)
    obtain ⟨d, e, f⟩ := cell_lay h (k h (List.mem_cons_self ..))
    simp only [List.map_cons, PyData.canLayAll0, PyData.depthAll, PyData.weightAll, List.length_cons]
    refine ⟨by rw [a, d]; rfl, by omega, by omega⟩
theorem list_lay {hs : List (Nat × Nat)} (k : ∀ c ∈ hs, c.1 < 1000 ∧ c.2 < 1000) (n : hs.length ≤ 1000) : (PyData.list (hs.map cellD)).layable0 = true ∧ (PyData.tuple (hs.map cellD)).layable0 = true := by
  obtain ⟨a, b, c⟩ := cells_lay hs k
  have e (d : PyData) (h1 : d.canLay0 = true) (h2 : d.depth ≤ 64) (h3 : d.weight ≤ 2 ^ 20) : d.layable0 = true := by
    unfold PyData.layable0
    rw [h1, decide_eq_true h2, decide_eq_true h3]
    rfl
  constructor
  · refine e _ (by simpa [PyData.canLay0] using a) (by simp only [PyData.depth]; omega) ?_
    simp only [PyData.weight]
    omega
  · refine e _ (by simpa [PyData.canLay0] using a) (by simp only [PyData.depth]; omega) ?_
    simp only [PyData.weight]
    omega
def rNotInC (K : PySem.W.Frag) : R2 := fun x y H Q => ∃ (p : Addr) (ws : List V) (hs : List (Nat × Nat)) (c : Nat × Nat), CellAt H x c ∧ y = .ref p ∧ (SqL K H p ws ∨ SqT K H p ws) ∧ Paired (CellAt H) ws hs ∧ hs.length ≤ 1000 ∧ (∀ h ∈ hs, h.1 < 1000 ∧ h.2 < 1000) ∧ (c.1 < 1000 ∧ c.2 < 1000) ∧ Q (.bl (!decide (c ∈ hs))) H
theorem op_notInC {X : Cx} (hu : X.A.units + 65 < cLine) : OpR X (compareOp .NotIn) (rNotInC X.K) := by
  intro pins s σ H x y v u Q I rx ry ⟨p, ws, hs, c, hc, ey, hp, hw, hn, hb, hcb, q⟩
  obtain ⟨as, ra⟩ := Dp.reads I _ _ _ (cell_dp (K := X.K) hc) rx
  have ll := list_lay hb hn
  have lc : (cellD c).layable0 = true := by
    obtain ⟨a, b, d⟩ := cell_lay c hcb
    unfold PyData.layable0
    rw [a, decide_eq_true (show (cellD c).depth ≤ 64 by omega), decide_eq_true (show (cellD c).weight ≤ 2 ^ 20 by omega)]
    rfl
  have e : decide (countIn (cellD c) (hs.map cellD) ≠ 0) = decide (c ∈ hs) := decide_eq_decide.mpr (cell_count c hs).2
  have nm : ∀ y ∈ hs.map cellD, SeqAt.noMix y (cellD c) = true := fun y hy => by
    obtain ⟨h, _, rfl⟩ := List.mem_map.mp hy
    exact cell_nomix _ _
  rcases hp with hp | hp
  · obtain ⟨bs, rb⟩ := Dp.reads I _ _ _ (by rw [ey]; exact Dp.lst hp (cells_dp hw)) ry
    exact notIn_list_dataS rb ra ll.1 lc hu nm ⟨.bl (!decide (c ∈ hs)), H, I, by rw [e]; exact rfl, q⟩
  · obtain ⟨bs, rb⟩ := Dp.reads I _ _ _ (by rw [ey]; exact Dp.tup hp (cells_dp hw)) ry
    exact PyProof.Rows.notIn_tuple_dataS rb ra ll.2 lc hu nm ⟨.bl (!decide (c ∈ hs)), H, I, by rw [e]; exact rfl, q⟩
theorem Room.units65 {k : Nat} {A : Around} (h : Room k A) : A.units + 65 < cLine := Nat.lt_of_le_of_lt (by omega) h.un
end K3

namespace L2
open PySem PySem.Spec PyProof.Rows
section
variable {X : Cx}
/-- either reading will do -/
theorem pi_or {tg e : Expr} {a b : TI} (ha : PI X tg e a) (hb : PI X tg e b) : PI X tg e (fun σ H R => a σ H R ∨ b σ H R) := ⟨fun pins s σ H R I h => h.elim (ha.run pins s σ H R I) (hb.run pins s σ H R I)⟩
theorem cr_or {f : Value} {a b : List V → Hp → VK → Prop} (ha : CallR X f a) (hb : CallR X f b) : CallR X f (fun xs H Q => a xs H Q ∨ b xs H Q) := fun pins s σ H xs us Q I v h => h.elim (ha pins s σ H xs us Q I v) (hb pins s σ H xs us Q I v)
/-- a statement that is never come to -/
theorem ps_dead {st : Stmt} : PS X st (fun _ _ _ => False) := ⟨fun _ _ _ _ _ _ h => h.elim⟩
end
section
variable {J : It} {n : Nat} {G : Hp → Prop} {Y : Nat → Hp → V → Hp → Prop}
/-- the second source's own loop within a comprehension of two fors -/
def In1 (D : Addr) (g1 : TG) (tt1 : TT) (te : TE) (vs1 : List Nat) (Nx : Hp → Prop) (J1 : It) (σ2 : L2.St) (H4 : Hp) : Prop :=
  ∃ W1 : Nat → Nat → Hp → Prop, (∃ m, W1 0 m H4) ∧ ∀ j k H, W1 j k H →
      (J1.stop j H ∧ Nx H) ∨ (J1.go j H ∧ ∃ Nx1 : Hp → Prop, (∀ H', Nx1 H' → ∃ k', k' < k ∧ W1 (j + 1) k' H') ∧ ∀ x H', J1.yld j H x H' → g1 x (wipe σ2 vs1) H' fun σ3 H5 => wipe σ3 vs1 = wipe σ2 vs1 ∧ tt1 σ3 H5 fun b H6 =>
        if b = true then te σ3 H6 fun y H7 => ∃ acc, H7 D = some (.lst acc) ∧ acc.length < sizeLine ∧ Nx1 (upd H7 D (.lst (acc ++ [y]))) else Nx1 H6)
theorem in1_it (w : Walk J n G Y) {D : Addr} {g1 : TG} {tt1 : TT} {te : TE} {vs1 : List Nat} {Nx : Hp → Prop} {σ2 : L2.St} {H4 : Hp} (Pv : Nat → Hp → Prop) (h0 : Pv 0 H4) (hG : ∀ i H, i ≤ n → Pv i H → G H)
    (hs : ∀ j x H H', j < n → Pv j H → Y j H x H' → g1 x (wipe σ2 vs1) H' fun σ3 H5 => wipe σ3 vs1 = wipe σ2 vs1 ∧ tt1 σ3 H5 fun b H6 =>
        if b = true then te σ3 H6 fun y H7 => ∃ acc, H7 D = some (.lst acc) ∧ acc.length < sizeLine ∧ Pv (j + 1) (upd H7 D (.lst (acc ++ [y]))) else Pv (j + 1) H6)
    (hd : ∀ H, Pv n H → Nx H) : In1 D g1 tt1 te vs1 Nx J σ2 H4 := by
  refine ⟨fun i k H => k = n - i ∧ i ≤ n ∧ Pv i H, ⟨n, rfl, Nat.zero_le _, h0⟩, ?_⟩
  rintro i k H ⟨rfl, hi, p⟩
  by_cases c : i < n
  · exact .inr ⟨w.goes i H c (hG i H hi p), Pv (i + 1), fun _ p' => ⟨n - (i + 1), by omega, rfl, c, p'⟩, fun x H' y => hs i x H H' c p (w.yields i H x H' c (hG i H hi p) y)⟩
  · obtain rfl : i = n := by omega
    exact .inl ⟨w.stops H (hG i H hi p), hd H p⟩
theorem lc2_it (w : Walk J n G Y) {g g1 : TG} {tt tt1 : TT} {wi1 : TI} {te : TE} {vs vs1 : List Nat} {σ : L2.St} {H1 : Hp} {D : Addr} {Qd : Hp → Prop} (Pv : Nat → Hp → Prop) (h0 : Pv 0 (upd H1 D (.lst []))) (hG : ∀ i H, i ≤ n → Pv i H → G H)
    (hs : ∀ i x H H', i < n → Pv i H → Y i H x H' → g x (wipe σ vs) H' fun σ2 H2 => wipe σ2 vs = wipe σ vs ∧ tt σ2 H2 fun b H3 =>
      if b = true then wi1 σ2 H3 fun J1 H4 => In1 D g1 tt1 te vs1 (Pv (i + 1)) J1 σ2 H4 else Pv (i + 1) H3)
    (hd : ∀ H, Pv n H → Qd H) :
    ∃ W : Nat → Nat → Hp → Prop, (∃ m, W 0 m (upd H1 D (.lst []))) ∧ ∀ i m H, W i m H →
  (J.stop i H ∧ Qd H) ∨ (J.go i H ∧ ∃ Nx : Hp → Prop, (∀ H', Nx H' → ∃ m', m' < m ∧ W (i + 1) m' H') ∧ ∀ x H', J.yld i H x H' → g x (wipe σ vs) H' fun σ2 H2 => wipe σ2 vs = wipe σ vs ∧ tt σ2 H2 fun b H3 =>
    if b = true then wi1 σ2 H3 fun J1 H4 => In1 D g1 tt1 te vs1 Nx J1 σ2 H4 else Nx H3) := by
  refine ⟨fun i k H => k = n - i ∧ i ≤ n ∧ Pv i H, ⟨n, rfl, Nat.zero_le _, h0⟩, ?_⟩
  rintro i k H ⟨rfl, hi, p⟩
  by_cases c : i < n
  · exact .inr ⟨w.goes i H c (hG i H hi p), Pv (i + 1), fun _ p' => ⟨n - (i + 1), by omega, rfl, c, p'⟩, fun x H' y => hs i x H H' c p (w.yields i H x H' c (hG i H hi p) y)⟩
  · obtain rfl : i = n := by omega
    exact .inl ⟨w.stops H (hG i H hi p), hd H p⟩
theorem lc2_open {wi wi1 : TI} {g g1 : TG} {tt tt1 : TT} {te : TE} {vs vs1 : List Nat} {σ : L2.St} {H : Hp} {Q : VK} (h : wi σ H fun J H1 => ∀ D, H1 D = none → ∃ W : Nat → Nat → Hp → Prop, (∃ m, W 0 m (upd H1 D (.lst []))) ∧ ∀ i m H, W i m H →
  (J.stop i H ∧ Q (.ref D) H) ∨ (J.go i H ∧ ∃ Nx : Hp → Prop, (∀ H', Nx H' → ∃ m', m' < m ∧ W (i + 1) m' H') ∧ ∀ x H', J.yld i H x H' → g x (wipe σ vs) H' fun σ2 H2 => wipe σ2 vs = wipe σ vs ∧ tt σ2 H2 fun b H3 =>
    if b = true then wi1 σ2 H3 fun J1 H4 => In1 D g1 tt1 te vs1 Nx J1 σ2 H4 else Nx H3)) : tLc2 wi g tt wi1 g1 tt1 te vs vs1 σ H Q := h
end
end L2
namespace K3
def Rect (t : List (List Int)) (m n : Nat) : Prop := t.length = m ∧ ∀ r ∈ t, r.length = n
def at2 (t : List (List Int)) (i j : Nat) : Int := (t.getD i []).getD j 0
theorem row_of {H : Hp} {g : Addr} {rs : List Addr} {t : List (List Int)} (ht : Tab H g rs t) {i : Nat} (hi : i < t.length) : ∃ a r, rs[i]? = some a ∧ t[i]? = some r ∧ H a = some (.lst (r.map V.int)) := by
  have l := ht.rows.length
  obtain ⟨r, hr, hx⟩ := K3.Paired.get ht.rows (i := i) (x := rs[i]'(by omega)) (List.getElem?_eq_getElem _)
  exact ⟨_, r, List.getElem?_eq_getElem _, hr, hx⟩
theorem at2_of {t : List (List Int)} {i j : Nat} {r : List Int} (h : t[i]? = some r) : at2 t i j = r.getD j 0 := by
  unfold at2
  have e : t.getD i [] = r := by rw [List.getD_eq_getElem?_getD, h]; rfl
  rw [e]
theorem ref_at {rs : List Addr} {i : Nat} {a : Addr} (h : rs[i]? = some a) : atI (rs.map V.ref) (i : Int) = some (.ref a) := atI_nat (by rw [List.getElem?_map, h]; rfl)
theorem w_gtup {K : PySem.W.Frag} {n : Nat} {t : TGs} {a : Addr} {xs : List V} {σ : L2.St} {H : Hp} {Q : L2.St → Hp → Prop} (h1 : SqT K H a xs) (h2 : xs.length = n) (h : t xs σ H Q) : gTup K n t (.ref a) σ H Q := ⟨a, xs, rfl, h1, h2, h⟩
end K3
end C1_part
section E1_part
set_option Elab.async false
set_option linter.all false
set_option maxRecDepth 100000
set_option maxHeartbeats 1000000
set_option pp.deepTerms.threshold 5
open PySem PySem.Spec PyProof.Rows L2
/-- go on as far as nothing is open -/
local macro_rules | `(tactic| walk_at "go") => `(tactic| repeat (first
  | with_reducible refine w_seq ?_ | with_reducible refine w_next ?_ | with_reducible refine w_set ?_ | with_reducible refine w_drop ?_ | with_reducible refine w_ret ?_ | with_reducible refine w_retN ?_
  | with_reducible refine w_if ?_ | ((with_reducible refine' w_var ?hv ?_); (case hv => exact rfl)) | with_reducible refine w_c ?_ | with_reducible refine w_nil ?_ | with_reducible refine w_cons ?_ | with_reducible refine w_op ?_ | with_reducible refine w_un ?_
  | with_reducible refine w_test ?_ | with_reducible refine w_tB ?_ | with_reducible refine w_not ?_ | with_reducible refine w_and ?_ | with_reducible refine w_or ?_ | with_reducible refine w_bl ?_
  | with_reducible refine w_andV ?_ | with_reducible refine w_orV ?_ | with_reducible refine w_notV ?_ | with_reducible refine w_ifE ?_ | with_reducible refine w_chain ?_ | with_reducible refine w_i0 ?_
  | with_reducible refine w_call ?_ | with_reducible refine w_callS ?_ | with_reducible refine w_cB ?_ | with_reducible refine w_tup ?_ | with_reducible refine w_lst ?_ | with_reducible refine w_fldV ?_
  | with_reducible refine w_neF ?_ | with_reducible refine w_neT ?_ | with_reducible refine w_notN ?_ | with_reducible refine w_isN ?_ | with_reducible refine w_gname ?_ | with_reducible refine w_gsub ?_ | with_reducible refine w_asg ?_ | with_reducible refine w_sl ?_ | with_reducible refine w_noP ?_ | with_reducible refine w_int1 ?_ | with_reducible refine w_part ?_ | with_reducible refine w_yes ?_ | with_reducible refine w_nT ?_ | with_reducible refine w_nF ?_ | with_reducible refine w_iteT ?_ | with_reducible refine w_iteF ?_))
namespace L2
open PySem PySem.Spec PyProof.Rows
/-! ### a list or a tuple -/
def SqB (K : PySem.W.Frag) (H : Hp) : Bool → Addr → List V → Prop
  | false => SqL K H
  | true => SqT K H
def SqE (K : PySem.W.Frag) (H : Hp) (a : Addr) (xs : List V) : Prop := ∃ b, SqB K H b a xs
theorem SqE.either {K : PySem.W.Frag} {H : Hp} {a : Addr} {xs : List V} : SqE K H a xs → SqL K H a xs ∨ SqT K H a xs
  | ⟨false, h⟩ => .inl h
  | ⟨true, h⟩ => .inr h
theorem SqB.same {K : PySem.W.Frag} {H H' : Hp} {a : Addr} {xs : List V} (e : Same H H') : ∀ {b : Bool}, SqB K H b a xs → SqB K H' b a xs
  | false, h => e.seq h
  | true, h => e.sqt h
theorem SqE.same {K : PySem.W.Frag} {H H' : Hp} {a : Addr} {xs : List V} (h : SqE K H a xs) (e : Same H H') : SqE K H' a xs := h.imp fun _ z => z.same e
theorem SqE.lst {K : PySem.W.Frag} {H : Hp} {a : Addr} {xs : List V} (h : H a = some (.lst xs)) : SqE K H a xs := ⟨false, SqL.of h⟩
theorem SqE.tup {K : PySem.W.Frag} {H : Hp} {a : Addr} {xs : List V} (h : H a = some (.tup xs)) : SqE K H a xs := ⟨true, SqT.of h⟩
def ItB (K : PySem.W.Frag) : Bool → Addr → It
  | false => Itl K
  | true => Itt K
theorem walk_B {K : PySem.W.Frag} {a : Addr} {xs : List V} : ∀ {b : Bool}, Walk (ItB K b a) xs.length (fun H => SqB K H b a xs) (YAt xs)
  | false => walk_list
  | true => walk_tup
def iSeq (K : PySem.W.Frag) (tl : TE) : TI := fun σ H R => tl σ H fun x H1 => ∃ a b, x = .ref a ∧ (∃ xs, SqB K H1 b a xs) ∧ R (ItB K b a) H1
theorem seqI_open {K : PySem.W.Frag} {tl : TE} {σ : L2.St} {H : Hp} {R : It → Hp → Prop} (h : tl σ H fun x H1 => ∃ a b, x = .ref a ∧ (∃ xs, SqB K H1 b a xs) ∧ R (ItB K b a) H1) : iSeq K tl σ H R := h
section
variable {X : Cx} {tg l : Expr} {tl : TE}
theorem pi_seq (hl : PE X l tl) : PI X tg l (iSeq X.K tl) := by
  constructor
  intro pins s σ H R I h
  refine thn (hl.run pins s σ H _ I h) ?_
  rintro v s1 ⟨x, H1, I1, r1, a, b, rfl, ⟨xs, hq⟩, q⟩
  cases r1
  have kept : ∀ o : Obj, Inv X pins σ H1 { s1 with heap := s1.heap.push o, toks := s1.toks } := fun o => I1.kept fun b u e => Heap.get?_push_of_some o e
  have out : ∀ b ∈ [s1.heap.objs.size], _ := fun b hb => by
    obtain rfl := List.mem_singleton.mp hb
    exact I1.fpOk (Nat.le_refl _) (I1.hok.fresh (Nat.le_refl _))
  cases b with
  | false =>
    obtain ⟨its, _, p, _⟩ := I1.list hq
    exact wpAny_pyIter_list p.isList ⟨s1.heap.objs.size, [s1.heap.objs.size], _, _, H1, rfl, kept _, turn_list a _, ⟨_, Heap.get?_push_size _ rfl, rfl, rfl⟩, out, q⟩
  | true =>
    obtain ⟨its, _, p, _⟩ := I1.tuple hq
    exact wpAny_pyIter_tuple (show s1.heap.IsTuple a its.toArray from p) ⟨s1.heap.objs.size, [s1.heap.objs.size], _, _, H1, rfl, kept _, turn_tuple a _, ⟨_, Heap.get?_push_size _ rfl, rfl, rfl⟩, out, q⟩
def rIxE (K : PySem.W.Frag) : R2 := fun x y H Q => rIxL K x y H Q ∨ rIxT K x y H Q
theorem ix_e : IxR X (rIxE X.K) := by
  intro value slice pins s σ H x y v u Q I rx ry h hs
  rcases h with h | h
  · exact ix_list value slice pins s σ H x y v u Q I rx ry h hs
  · exact ix_tup value slice pins s σ H x y v u Q I rx ry h hs
theorem w_ixE {K : PySem.W.Frag} {H : Hp} {p : Addr} {xs : List V} {i : Int} {v : V} {Q : VK} (h : SqE K H p xs) (ha : atI xs i = some v) (q : Q v H) : rIxE K (.ref p) (.int i) H Q := by
  rcases h.either with h | h
  · exact .inl ⟨p, xs, i, v, rfl, rfl, h, ha, q⟩
  · exact .inr ⟨p, xs, i, v, rfl, rfl, h, ha, q⟩
/-- sum of a list or a tuple of ints -/
def rSumE (K : PySem.W.Frag) : List V → Hp → VK → Prop := fun vs H Q => ∃ (a : Addr) (ns : List Int), vs = [V.ref a] ∧ SqE K H a (ns.map V.int) ∧ Q (.int ns.sum) H
theorem cr_sumE (hc : X.calm = true) : CallR X (.builtin "sum") (rSumE X.K) := by
  intro pins s σ H vs us Q I r ⟨a, ns, e, ⟨b, hs⟩, q⟩
  subst e
  cases b with
  | false => exact cr_sum hc pins s σ H _ us Q I r ⟨a, ns, rfl, hs, q⟩
  | true =>
    obtain ⟨its, rv, hl, _⟩ := I.tuple hs
    rw [Vals.ref1 r]
    have hi := rv.ints
    obtain ⟨xs, e⟩ := hi.allInts.items
    have hn : numsOf its.toArray.toList = ns := by rw [show its.toArray.toList = its from rfl, hi.numsOf]
    have hl : s.heap.IsTuple a its.toArray := hl
    rw [e] at hl hn
    rw [nums_intItems] at hn
    refine PySem.W.ktm_sumG (I.ok.hd hc) hl fun h' tk t' hk => ?_
    rw [preSum_eq, List.take_of_length_le (by simp), hn]
    exact ⟨.int _, H, I.kept hk, ⟨_, rfl⟩, q⟩
end
/-- a comprehension over items of which something is known: each gives a value of its own -/
theorem items_atE {K : PySem.W.Frag} {α : Type} {F : Hp → V → α → Prop} (mono : ∀ {H H' : Hp} {v : V} {y : α}, Same H H' → F H v y → F H' v y) {a D : Addr} {xs : List V} {ys : List α} {te : TE} {vs : List Nat} {σ : L2.St} {j : Nat} {H1 : Hp} {b : Bool} {Qd : Hp → Prop} (f : α → V)
    (hs : SqB K H1 b a xs) (hp : Paired (F H1) xs ys) (hD : H1 D = none) (hlen : xs.length ≤ 10000) (hw : ∀ x, wipe ((wipe σ vs).set j (some x)) vs = wipe σ vs)
    (he : ∀ (v : V) (y : α) (H' : Hp), Same H1 H' → y ∈ ys → F H' v y → ∀ Q : VK, (∀ H'', Same H' H'' → Q (f y) H'') → te ((wipe σ vs).set j (some v)) H' Q)
    (hd : ∀ H', Same H1 H' → H' D = some (.lst (ys.map f)) → Qd H') :
    ∃ W : Nat → Nat → Hp → Prop, (∃ m, W 0 m (upd H1 D (.lst []))) ∧ ∀ i m H, W i m H →
    ((ItB K b a).stop i H ∧ Qd H) ∨ ((ItB K b a).go i H ∧ ∃ Nx : Hp → Prop, (∀ H', Nx H' → ∃ m', m' < m ∧ W (i + 1) m' H') ∧ ∀ x H', (ItB K b a).yld i H x H' → gName j x (wipe σ vs) H' fun σ2 H2 =>
      wipe σ2 vs = wipe σ vs ∧ tYes σ2 H2 fun b H3 => if b = true then te σ2 H3 fun y H4 => ∃ acc, H4 D = some (.lst acc) ∧ acc.length < sizeLine ∧ Nx (upd H4 D (.lst (acc ++ [y]))) else Nx H3) := by
  refine lc_it (walk_B (K := K) (a := a) (xs := xs) (b := b)) (fun i H' => Same H1 H' ∧ H' D = some (.lst ((ys.take i).map f))) ⟨Same.new hD _, upd_same⟩ (fun i H' _ z => hs.same z.1) ?_ ?_
  · rintro i x H2 H2' hi ⟨e2, hD2⟩ ⟨rfl, hx⟩
    obtain ⟨y, hy, hF⟩ := K3.Paired.get hp hx
    refine ⟨hw x, ?_⟩
    refine w_yes ?_
    refine iteT ?_
    refine he x y H2' e2 (List.mem_of_getElem? hy) (mono e2 hF) _ fun H3 e3 => ?_
    refine ⟨_, e3 _ _ hD2, ?_, (e2.trans e3).mut hD, ?_⟩
    · refine Nat.lt_of_le_of_lt (show _ ≤ 10000 from ?_) (by decide)
      rw [List.length_map, List.length_take, ← hp.length]
      omega
    · rw [upd_same, List.take_add_one, hy, List.map_append]
      rfl
  · rintro H2 ⟨e2, hD2⟩
    refine hd H2 e2 ?_
    rw [hD2, hp.length, List.take_length]
end L2
namespace K3
/-- a grid: lists of lists, tuples of tuples, or both -/
structure GT (K : PySem.W.Frag) (H : Hp) (g : Addr) (rs : List Addr) (t : List (List Int)) : Prop where
  at_ : SqE K H g (rs.map V.ref)
  rows : Paired (fun r row => SqE K H r (row.map V.int)) rs t
theorem GT.same {K : PySem.W.Frag} {H H' : Hp} {g : Addr} {rs : List Addr} {t : List (List Int)} (h : GT K H g rs t) (e : Same H H') : GT K H' g rs t := ⟨h.at_.same e, L2.Paired.mapP h.rows fun _ _ z => z.same e⟩
theorem Tab.gt {K : PySem.W.Frag} {H : Hp} {g : Addr} {rs : List Addr} {t : List (List Int)} (h : Tab H g rs t) : GT K H g rs t := ⟨.lst h.at_, L2.Paired.mapP h.rows fun _ _ z => .lst z⟩
theorem row_ofG {K : PySem.W.Frag} {H : Hp} {g : Addr} {rs : List Addr} {t : List (List Int)} (ht : GT K H g rs t) {i : Nat} (hi : i < t.length) : ∃ a r, rs[i]? = some a ∧ t[i]? = some r ∧ SqE K H a (r.map V.int) := by
  have l := ht.rows.length
  obtain ⟨r, hr, h⟩ := K3.Paired.get ht.rows (List.getElem?_eq_getElem (show i < rs.length by omega))
  exact ⟨_, r, List.getElem?_eq_getElem (by omega), hr, h⟩
def RowE (K : PySem.W.Frag) (H : Hp) (v : V) (r : List Int) : Prop := ∃ a, v = .ref a ∧ SqE K H a (r.map V.int)
theorem RowE.same {K : PySem.W.Frag} {H H' : Hp} (e : Same H H') {v : V} {r : List Int} (h : RowE K H v r) : RowE K H' v r := let ⟨a, h1, h2⟩ := h; ⟨a, h1, h2.same e⟩
theorem rowE_of {K : PySem.W.Frag} {H : Hp} : ∀ {rs : List Addr} {t : List (List Int)}, Paired (fun r row => SqE K H r (row.map V.int)) rs t → Paired (RowE K H) (rs.map V.ref) t
  | _, _, .nil => .nil
  | _, _, .cons h t => .cons ⟨_, rfl, h⟩ (rowE_of t)
end K3
end E1_part
section C2_part
set_option Elab.async false
set_option linter.all false
set_option maxRecDepth 100000
set_option maxHeartbeats 1000000
set_option pp.deepTerms.threshold 5
open PySem PySem.Spec PyProof.Rows L2
/-- go on as far as nothing is open -/
local macro_rules | `(tactic| walk_at "go") => `(tactic| repeat (first
  | with_reducible refine w_seq ?_ | with_reducible refine w_next ?_ | with_reducible refine w_set ?_ | with_reducible refine w_drop ?_ | with_reducible refine w_ret ?_ | with_reducible refine w_retN ?_
  | with_reducible refine w_if ?_ | ((with_reducible refine' w_var ?hv ?_); (case hv => exact rfl)) | with_reducible refine w_c ?_ | with_reducible refine w_nil ?_ | with_reducible refine w_cons ?_ | with_reducible refine w_op ?_ | with_reducible refine w_un ?_
  | with_reducible refine w_test ?_ | with_reducible refine w_tB ?_ | with_reducible refine w_not ?_ | with_reducible refine w_and ?_ | with_reducible refine w_or ?_ | with_reducible refine w_bl ?_
  | with_reducible refine w_andV ?_ | with_reducible refine w_orV ?_ | with_reducible refine w_notV ?_ | with_reducible refine w_ifE ?_ | with_reducible refine w_chain ?_ | with_reducible refine w_i0 ?_
  | with_reducible refine w_call ?_ | with_reducible refine w_callS ?_ | with_reducible refine w_cB ?_ | with_reducible refine w_tup ?_ | with_reducible refine w_lst ?_ | with_reducible refine w_fldV ?_
  | with_reducible refine w_neF ?_ | with_reducible refine w_neT ?_ | with_reducible refine w_notN ?_ | with_reducible refine w_isN ?_ | with_reducible refine w_gname ?_ | with_reducible refine w_gsub ?_ | with_reducible refine w_asg ?_ | with_reducible refine w_sl ?_ | with_reducible refine w_noP ?_ | with_reducible refine w_int1 ?_ | with_reducible refine w_part ?_ | with_reducible refine w_yes ?_ | with_reducible refine w_nT ?_ | with_reducible refine w_nF ?_ | with_reducible refine w_iteT ?_ | with_reducible refine w_iteF ?_))
namespace K3
def spCellsOf (K : PySem.W.Frag) : Sp := fun vs H Q _ => ∃ (g : Addr) (rs : List Addr) (t : List (List Int)) (m n : Nat), vs = [.ref g] ∧ GT K H g rs t ∧ Rect t m n ∧ 1 ≤ m ∧ m ≤ 100 ∧ n ≤ 100 ∧ ∀ p' H' vs, Same H H' → H p' = none → H' p' = some (.lst vs) → Paired (CellAt H') vs (cellsOf m n) → Q (.ref p') H'
def spLast (K : PySem.W.Frag) : Sp := fun vs H Q _ => ∃ (g : Addr) (rs : List Addr) (t : List (List Int)) (m n : Nat), vs = [.ref g] ∧ GT K H g rs t ∧ Rect t m n ∧ 1 ≤ m ∧ 1 ≤ n ∧ ∀ a H', Same H H' → CellAt H' (.ref a) (m - 1, n - 1) → Q (.ref a) H'
def spNum (K : PySem.W.Frag) : Sp := fun vs H Q _ => ∃ (g : Addr) (v : V) (rs : List Addr) (t : List (List Int)) (m n i j : Nat), vs = [.ref g, v] ∧ GT K H g rs t ∧ Rect t m n ∧ CellAt H v (i, j) ∧ i < m ∧ j < n ∧ Q (.int (at2 t i j)) H
def spRefuse (K : PySem.W.Frag) : Sp := fun vs H Q _ => ∃ (g : Addr) (v : V) (rs : List Addr) (t : List (List Int)) (m n i j : Nat), vs = [.ref g, v] ∧ GT K H g rs t ∧ Rect t m n ∧ CellAt H v (i, j) ∧ i < m ∧ j < n ∧ Q .non H
section
variable {P : Program} {w : World} {K : PySem.W.Frag} {mg : Str → Option Value} {base : Heap}
theorem sc_cells_of : FnScope ["grid", "row", "column"] ["grid"] (defScope s_cells_of) := ⟨rfl, rfl, rfl, by decide +kernel, rfl, by decide +kernel, by decide +kernel⟩
theorem ok_cells_of (T : Tx K mg) : Ok P w K mg base 1 (He.ga K "cells_of") ["grid"] (spCellsOf K) := by
  obtain ⟨fd, F⟩ := T.f_cells_of
  refine ⟨fd, F.ok (k := 0) sc_cells_of (fun vs H Q E h => ?_) (fun cdv A outer s' H vs Q E hr h => ?_), F.bindsN fun _ _ _ _ _ _ us hl => match us, hl with | [_], _ => rfl, F.kp⟩
  · obtain ⟨g, rs, t, m, n, rfl, _⟩ := h
    rfl
  obtain ⟨g, rs, t, m, n, rfl, ht, ⟨tm, tn⟩, m1, m2, n2, q⟩ := h
  refine ⟨_, pss_one (ps_ret (by exact pe_lc2 (own := [("row", 1), ("column", 2)]) (vs1 := [2]) (g := gName 1) (tt := tYes) (wi1 := (iRng1 (tCons (tCB (fun xs H Q => ∃ p ys, xs = [V.ref p] ∧ (SqL K H p ys ∨ SqT K H p ys) ∧ Q (.int ys.length) H) (tCons (tOp (rIxE K) (tVar 0) (tC (.int 0))) tNil)) tNil))) (g1 := gName 2) (tt1 := tYes) (te := (tTup (tCons (tVar 1) (tCons (tVar 2) tNil)))) (by rfl) sc_cells_of.nd (pi_range1 rfl T.z_range (pa_cons (pe_callB call_len_seq (by rfl) T.z_len PySem.boot_len (pa_cons (pv 0) pa_nil)) pa_nil)) (blkOk_by (own := [("row", 1), ("column", 2)]) (N := ["grid", "row", "column"]) (sc := defScope s_cells_of) (by decide +kernel)) (by decide) (fun _ _ _ _ _ => pg_name (i := 1) sc_cells_of.nd rfl (Or.inl rfl)) (fun _ _ _ _ _ => pts_nil) (fun _ _ _ _ _ => (pi_range1 rfl T.z_range (pa_cons (pe_callB call_len_seq (by rfl) T.z_len PySem.boot_len (pa_cons (pe_ix ix_e (pv 0) pe_int (fun _ _ => rfl)) pa_nil)) pa_nil))) (fun _ _ _ _ _ => pg_name (i := 2) sc_cells_of.nd rfl (Or.inl rfl)) (fun _ _ _ _ _ => pts_nil) (fun _ _ _ _ _ => (pe_tup (pa_cons (pv 1) (pa_cons (pv 2) pa_nil)))))), ?_⟩
  have lr := ht.rows.length
  obtain ⟨a0, r0, ha0, hr0, hx0⟩ := row_ofG ht (i := 0) (by omega)
  have ln : r0.length = n := tn _ (List.mem_of_getElem? hr0)
  walk_at "go"
  refine lc2_open ?_
  refine rng_open ?_
  walk_at "go"
  refine ⟨g, _, rfl, ht.at_.either, ?_⟩
  rw [List.length_map, lr, tm]
  refine ⟨_, rfl, by omega, by omega, fun D hD => ?_⟩
  rw [Int.toNat_natCast]
  refine lc2_it walk_range (fun (i : Nat) H' => ∃ vs : List V, Same H H' ∧ H' D = some (.lst vs) ∧ Paired (CellAt H') vs (cellsOf i n)) ⟨[], Same.new hD _, upd_same, .nil⟩ (fun _ _ _ _ => trivial) ?_ ?_
  · rintro i x H1 H2 hi ⟨vs, e1, hD1, hp1⟩ ⟨rfl, rfl⟩
    show gName 1 (V.int ((0 : Int) + (i : Int))) _ _ _
    rw [show (0 : Int) + (i : Int) = (i : Int) by omega]
    walk_at "go"
    refine ⟨rfl, ?_⟩
    walk_at "go"
    refine rng_open ?_
    walk_at "go"
    refine w_ixE (ht.at_.same e1) (ref_at (i := 0) ha0) ?_
    walk_at "go"
    refine ⟨a0, _, rfl, (hx0.same e1).either, ?_⟩
    rw [List.length_map, ln]
    refine ⟨_, rfl, by omega, by omega, ?_⟩
    rw [Int.toNat_natCast]
    have hl1 : vs.length ≤ 10000 := by
      rw [hp1.length, cells_len]
      exact Nat.le_trans (Nat.mul_le_mul (Nat.le_trans (Nat.le_of_lt hi) m2) n2) (by decide)
    refine in1_it walk_range (fun (j : Nat) H' => ∃ ws : List V, Same H H' ∧ H' D = some (.lst ws) ∧ Paired (CellAt H') ws (cellsOf i n ++ rowCells j i)) ⟨vs, e1, hD1, by show Paired (CellAt _) vs (cellsOf i n ++ []); rw [List.append_nil]; exact hp1⟩ (fun _ _ _ _ => trivial) ?_ ?_
    · rintro j x H3 H4 hj ⟨ws, e3, hD3, hp3⟩ ⟨rfl, rfl⟩
      show gName 2 (V.int ((0 : Int) + (j : Int))) _ _ _
      rw [show (0 : Int) + (j : Int) = (j : Int) by omega]
      walk_at "go"
      refine ⟨rfl, ?_⟩
      walk_at "go"
      refine ⟨(by show 2 ≤ sizeLine; decide), fun p3 hp4 => ?_⟩
      have e4 := Same.new hp4 (.tup [.int (i : Int), .int (j : Int)])
      have hD4 := e4 _ _ hD3
      have lw : ws.length ≤ 20000 := by
        rw [hp3.length, List.length_append, cells_len]
        unfold rowCells
        rw [List.length_map, List.length_range]
        have := Nat.mul_le_mul (Nat.le_trans (Nat.le_of_lt hi) m2) n2
        omega
      have up : ∀ v x, CellAt (upd H4 p3 (.tup [.int (i : Int), .int (j : Int)])) v x → CellAt (upd (upd H4 p3 (.tup [.int (i : Int), .int (j : Int)])) D (.lst (ws ++ [.ref p3]))) v x := fun v x ⟨a, h1, h2⟩ => ⟨a, h1, by rw [upd_ne (fun z => by rw [z, hD4] at h2; cases h2)]; exact h2⟩
      refine ⟨ws, hD4, Nat.lt_of_le_of_lt lw (by decide), ws ++ [.ref p3], (e3.trans e4).mut hD, upd_same, ?_⟩
      unfold rowCells at hp3 ⊢
      rw [List.range_succ, List.map_append, ← List.append_assoc]
      exact K3.Paired.app (L2.Paired.mapP hp3 fun _ _ z => up _ _ (z.same e4)) (.cons (up _ _ ⟨p3, rfl, upd_same⟩) .nil)
    · rintro H3 ⟨ws, e3, hD3, hp3⟩
      refine ⟨ws, e3, hD3, ?_⟩
      unfold cellsOf at hp3 ⊢
      rw [List.range_succ, List.flatMap_append, List.flatMap_cons, List.flatMap_nil, List.append_nil]
      exact hp3
  · rintro H1 ⟨vs, e1, hD1, hp1⟩
    exact q D H1 vs e1 hD hD1 hp1
theorem sc_last_cell : FnScope ["grid"] ["grid"] (defScope s_last_cell) := ⟨rfl, rfl, rfl, by decide +kernel, rfl, by decide +kernel, by decide +kernel⟩
theorem ok_last_cell (T : Tx K mg) : Ok P w K mg base 1 (He.ga K "last_cell") ["grid"] (spLast K) := by
  obtain ⟨fd, F⟩ := T.f_last_cell
  refine ⟨fd, F.ok (k := 0) sc_last_cell (fun vs H Q E h => ?_) (fun cdv A outer s' H vs Q E hr h => ?_), F.bindsN fun _ _ _ _ _ _ us hl => match us, hl with | [_], _ => rfl, F.kp⟩
  · obtain ⟨g, rs, t, m, n, rfl, _⟩ := h
    rfl
  obtain ⟨g, rs, t, m, n, rfl, ht, ⟨tm, tn⟩, m1, n1, q⟩ := h
  refine ⟨_, pss_one (ps_ret (pe_tup (pa_cons (pe_op op_sub (pe_callB call_len_seq (by rfl) T.z_len PySem.boot_len (pa_cons (pv 0) pa_nil)) pe_int) (pa_cons (pe_op op_sub (pe_callB call_len_seq (by rfl) T.z_len PySem.boot_len (pa_cons (pe_ix ix_e (pv 0) pe_int (fun _ _ => rfl)) pa_nil)) pe_int) pa_nil)))), ?_⟩
  have lr := ht.rows.length
  obtain ⟨a0, r0, ha0, hr0, hx0⟩ := row_ofG ht (i := 0) (by omega)
  have ln : r0.length = n := tn _ (List.mem_of_getElem? hr0)
  walk_at "go"
  refine ⟨g, _, rfl, ht.at_.either, ?_⟩
  rw [List.length_map, lr, tm]
  walk_at "go"
  refine w_ixE ht.at_ (ref_at (i := 0) ha0) ?_
  walk_at "go"
  refine ⟨a0, _, rfl, hx0.either, ?_⟩
  rw [List.length_map, ln]
  walk_at "go"
  refine ⟨(by show 2 ≤ sizeLine; decide), fun a ha => q a _ (Same.new ha _) ⟨a, rfl, ?_⟩⟩
  rw [upd_same, show ((m : Int) - 1) = ((m - 1 : Nat) : Int) by omega, show ((n : Int) - 1) = ((n - 1 : Nat) : Int) by omega]
theorem sc_number_at : FnScope ["grid", "cell", "row", "column"] ["grid", "cell"] (defScope s_number_at) := ⟨rfl, rfl, rfl, by decide +kernel, rfl, by decide +kernel, by decide +kernel⟩
theorem ok_number_at (T : Tx K mg) : Ok P w K mg base 1 (He.ga K "number_at") ["grid", "cell"] (spNum K) := by
  obtain ⟨fd, F⟩ := T.f_number_at
  refine ⟨fd, F.ok (k := 0) sc_number_at (fun vs H Q E h => ?_) (fun cdv A outer s' H vs Q E hr h => ?_), F.bindsN fun _ _ _ _ _ _ us hl => match us, hl with | [_, _], _ => rfl, F.kp⟩
  · obtain ⟨g, v, rs, t, m, n, i, j, rfl, _⟩ := h
    rfl
  obtain ⟨g, v, rs, t, m, n, i, j, rfl, ht, ⟨tm, tn⟩, ⟨c, rfl, hc⟩, hi, hj, q⟩ := h
  refine ⟨_, pss_cons (ps_asg (pv 1) (pg_tup rfl (pgs_cons (pg_name (i := 2) sc_number_at.nd rfl (Or.inl rfl)) (pgs_cons (pg_name (i := 3) sc_number_at.nd rfl (Or.inl rfl)) pgs_nil))))
      (pss_one (ps_ret (pe_ix ix_e (pe_ix ix_e (pv 0) (pv 2) (fun _ _ => rfl)) (pv 3) (fun _ _ => rfl)))), ?_⟩
  obtain ⟨a0, r0, ha0, hr0, hx0⟩ := row_ofG ht (i := i) (by omega)
  have ln : r0.length = n := tn _ (List.mem_of_getElem? hr0)
  walk_at "go"
  refine ⟨c, _, rfl, SqT.of hc, rfl, _, _, rfl, _, _, rfl, rfl, ?_⟩
  walk_at "go"
  refine w_ixE ht.at_ (ref_at ha0) ?_
  walk_at "go"
  refine w_ixE hx0 (at_getD (c := j) (by omega)) ?_
  rw [← at2_of hr0]
  exact q
theorem sc_refuse_no_cell : FnScope ["grid", "cell", "row", "column"] ["grid", "cell"] (defScope s_refuse_no_cell) := ⟨rfl, rfl, rfl, by decide +kernel, rfl, by decide +kernel, by decide +kernel⟩
theorem ok_refuse_no_cell (T : Tx K mg) : Ok P w K mg base 1 (He.ga K "refuse_no_cell") ["grid", "cell"] (spRefuse K) := by
  obtain ⟨fd, F⟩ := T.f_refuse_no_cell
  refine ⟨fd, F.ok (k := 0) sc_refuse_no_cell (fun vs H Q E h => ?_) (fun cdv A outer s' H vs Q E hr h => ?_), F.bindsN fun _ _ _ _ _ _ us hl => match us, hl with | [_, _], _ => rfl, F.kp⟩
  · obtain ⟨g, v, rs, t, m, n, i, j, rfl, _⟩ := h
    rfl
  obtain ⟨g, v, rs, t, m, n, i, j, rfl, ht, ⟨tm, tn⟩, ⟨c, rfl, hc⟩, hi, hj, q⟩ := h
  refine ⟨_, pss_cons (ps_asg (pv 1) (pg_tup rfl (pgs_cons (pg_name (i := 2) sc_refuse_no_cell.nd rfl (Or.inl rfl)) (pgs_cons (pg_name (i := 3) sc_refuse_no_cell.nd rfl (Or.inl rfl)) pgs_nil))))
      (pss_one (ps_if (pt_not (pw_and (pt_chain op_le op_lt pe_int (pv 2) (pe_callB call_len_seq (by rfl) T.z_len PySem.boot_len (pa_cons (pv 0) pa_nil))) (pw_and1 (pt_chain op_le op_lt pe_int (pv 3) (pe_callB call_len_seq (by rfl) T.z_len PySem.boot_len (pa_cons (pe_ix ix_e (pv 0) pe_int (fun _ _ => rfl)) pa_nil))))).pt) (pss_one ps_dead) pss_nil)), ?_⟩
  have lr := ht.rows.length
  obtain ⟨a0, r0, ha0, hr0, hx0⟩ := row_ofG ht (i := 0) (by omega)
  have ln : r0.length = n := tn _ (List.mem_of_getElem? hr0)
  have d1 : decide ((0 : Int) ≤ (i : Int)) = true := decide_eq_true (by omega)
  have d2 : decide ((i : Int) < (m : Int)) = true := decide_eq_true (by omega)
  have d3 : decide ((0 : Int) ≤ (j : Int)) = true := decide_eq_true (by omega)
  have d4 : decide ((j : Int) < (n : Int)) = true := decide_eq_true (by omega)
  walk_at "go"
  refine ⟨c, _, rfl, SqT.of hc, rfl, _, _, rfl, _, _, rfl, rfl, ?_⟩
  walk_at "go"
  rw [d1]
  walk_at "go"
  refine ⟨g, _, rfl, ht.at_.either, ?_⟩
  rw [List.length_map, lr, tm]
  walk_at "go"
  rw [d2]
  walk_at "go"
  rw [d3]
  walk_at "go"
  refine w_ixE ht.at_ (ref_at (i := 0) ha0) ?_
  walk_at "go"
  refine ⟨a0, _, rfl, hx0.either, ?_⟩
  rw [List.length_map, ln]
  walk_at "go"
  rw [d4]
  walk_at "go"
  exact q
end
end K3
end C2_part
section C3_part
set_option Elab.async false
set_option linter.all false
set_option maxRecDepth 100000
set_option maxHeartbeats 1000000
set_option pp.deepTerms.threshold 5
open PySem PySem.Spec PyProof.Rows L2
/-- go on as far as nothing is open -/
local macro_rules | `(tactic| walk_at "go") => `(tactic| repeat (first
  | with_reducible refine w_seq ?_ | with_reducible refine w_next ?_ | with_reducible refine w_set ?_ | with_reducible refine w_drop ?_ | with_reducible refine w_ret ?_ | with_reducible refine w_retN ?_
  | with_reducible refine w_if ?_ | ((with_reducible refine' w_var ?hv ?_); (case hv => exact rfl)) | with_reducible refine w_c ?_ | with_reducible refine w_nil ?_ | with_reducible refine w_cons ?_ | with_reducible refine w_op ?_ | with_reducible refine w_un ?_
  | with_reducible refine w_test ?_ | with_reducible refine w_tB ?_ | with_reducible refine w_not ?_ | with_reducible refine w_and ?_ | with_reducible refine w_or ?_ | with_reducible refine w_bl ?_
  | with_reducible refine w_andV ?_ | with_reducible refine w_orV ?_ | with_reducible refine w_notV ?_ | with_reducible refine w_ifE ?_ | with_reducible refine w_chain ?_ | with_reducible refine w_i0 ?_
  | with_reducible refine w_call ?_ | with_reducible refine w_callS ?_ | with_reducible refine w_cB ?_ | with_reducible refine w_tup ?_ | with_reducible refine w_lst ?_ | with_reducible refine w_fldV ?_
  | with_reducible refine w_neF ?_ | with_reducible refine w_neT ?_ | with_reducible refine w_notN ?_ | with_reducible refine w_isN ?_ | with_reducible refine w_gname ?_ | with_reducible refine w_gsub ?_ | with_reducible refine w_asg ?_ | with_reducible refine w_sl ?_ | with_reducible refine w_noP ?_ | with_reducible refine w_int1 ?_ | with_reducible refine w_part ?_ | with_reducible refine w_yes ?_ | with_reducible refine w_nT ?_ | with_reducible refine w_nF ?_ | with_reducible refine w_iteT ?_ | with_reducible refine w_iteF ?_))
namespace L2
open PySem PySem.Spec PyProof.Rows
/-- an empty set as it is made -/
abbrev bare0 (w : World) : Obj := { cls := .type "set", dict := none, data := .set #[] 0 (.fresh 0 0 (!w.params.followText "set-order")) }
section
variable {P : Program} {w : World} {A : Around} {E : Value → Shared → Prop} {s : Shared}
theorem no_obj {h : Heap} {b : Addr} (q : h.objs.size ≤ b) : h.get? b = none := by
  cases e : h.get? b with
  | none => rfl
  | some _ =>
    exact absurd (Nat.lt_of_lt_of_le (Heap.lt_size e) q) (Nat.lt_irrefl _)
set_option maxRecDepth 100000 in
set_option maxHeartbeats 3200000 in
/-- the filling of a new set from a tuple of tuples -/
theorem fill_tups {l : Addr} {items : Array Value} (ks : List (Addr × List Int)) (A0 : A.handled = none)
    (T : s.heap.IsTuple l items) (ei : items.toList = ks.map (fun p => Value.ref p.1))
    (ik : ∀ p, p ∈ ks → IsT P w s.heap p.2 p.1) (few : ks.length < 64) (room : A.units + 1 < cLine)
    {R : Result → Shared → Prop}
    (h : ∀ (h' : Heap) (tk : Nat) (L : List (Addr × List Int)) es ep t, SetTR P w h' s.heap.objs.size L es ep t → Got ks ks.length L →
      (∀ b o, s.heap.get? b = some o → h'.get? b = some o) → R (.ok (.ret Value.none)) { s with heap := h', toks := tk }) :
    codeAny (model P w) A (.builtin "set.update.loop" ⟨[.ref s.heap.objs.size, .ref (s.heap.objs.size + 1)], []⟩) R
      { s with heap := (s.heap.push (bare0 w)).push { cls := .type "tuple_iterator", data := .fields #[.ref l, .int 0 0] } } := by
  have n : items.size = ks.length := by rw [← Array.length_toList, ei, List.length_map]
  obtain ⟨ol, hol, _⟩ := id T
  have ls : l < s.heap.objs.size := Heap.lt_size hol
  have z1 : (s.heap.push (bare0 w)).objs.size = s.heap.objs.size + 1 := Heap.size_push ..
  have at0 : (s.heap.push (bare0 w)).get? s.heap.objs.size = some (bare0 w) := Heap.get?_push_size _ rfl
  have it0 : ((s.heap.push (bare0 w)).push { cls := .type "tuple_iterator", data := .fields #[.ref l, .int 0 0] }).get? (s.heap.objs.size + 1) = some { cls := .type "tuple_iterator", data := .fields #[.ref l, .int 0 0] } := by
    rw [← z1]
    exact Heap.get?_push_size _ rfl
  have hv : ∀ (i : Nat) (v : Value), items[i]? = some v → ∃ p, ks[i]? = some p ∧ v = Value.ref p.1 := by
    intro i v e
    rw [← Array.getElem?_toList, ei, List.getElem?_map] at e
    cases c : ks[i]? with
    | none => rw [c] at e; cases e
    | some p => rw [c] at e; exact ⟨p, rfl, (Option.some.inj e).symm⟩
  have out : s.heap.objs.size ∉ [s.heap.objs.size + 1, l] := by
    intro z
    rcases List.mem_cons.mp z with z | z
    · exact Nat.ne_of_lt (Nat.lt_succ_self _) z
    · exact Nat.ne_of_gt ls (List.mem_singleton.mp z)
  have W := (Walks.tuple (prog := P) (w := w) (A := A.in1) (by simpa using A0) (s.heap.objs.size + 1) l (Nat.ne_of_lt (Nat.lt_succ_of_lt ls)) items).toS
  refine set_update_tups W s.heap.objs.size out ks n few hv s.heap ik (no_obj (Nat.le_refl _)) ?_ (by simpa using room) items.size 0 _ (Nat.sub_zero _) (Nat.zero_le _) ?_ ?_ ?_ ?_
  · intro b hb
    rw [List.mem_singleton.mp hb]
    exact no_obj (Nat.le_succ _)
  · exact ⟨⟨_, it0, rfl, rfl⟩, (T.push _).push _⟩
  · exact fun b o e => Heap.get?_push_of_some _ (Heap.get?_push_of_some _ e)
  · exact ⟨[], #[], 0, _, setTR_fresh (Heap.get?_push_of_some _ at0), Got.zero ks⟩
  · intro s' L es ep t mv S1 g k
    have e : s' = { s with heap := s'.heap, toks := s'.toks } := by
      have a1 := mv.gens
      have a2 := mv.drawn
      have a3 := mv.os
      cases s'
      cases a1
      cases a2
      cases a3
      rfl
    rw [e]
    rw [n] at g
    exact h s'.heap s'.toks L es ep t S1 g k
set_option maxRecDepth 100000 in
set_option maxHeartbeats 3200000 in
/-- set(t), t a tuple of tuples of ints -/
theorem set_of_tuple {l : Addr} {items : Array Value} (ks : List (Addr × List Int)) {Q : Value → Shared → Prop} (A0 : A.handled = none)
    (T : s.heap.IsTuple l items) (ei : items.toList = ks.map (fun p => Value.ref p.1))
    (ik : ∀ p, p ∈ ks → IsT P w s.heap p.2 p.1) (few : ks.length < 64) (room : A.units + 4 < cLine)
    (h : ∀ (h' : Heap) (tk : Nat) (L : List (Addr × List Int)) es ep t, SetTR P w h' s.heap.objs.size L es ep t → Got ks ks.length L →
      (∀ b o, s.heap.get? b = some o → h'.get? b = some o) → Q (.ref s.heap.objs.size) { s with heap := h', toks := tk }) :
    wpAny (model P w) A (call (.type "set") [.ref l]) Q E s := by
  obtain ⟨mroC, mroT, mroE⟩ := F.called_set.mro
  have f1 := F.called_set.made
  have f2 := F.called_set.sub
  have f3 := F.called_set.notType
  have f4 := F.called_set.canCreate
  have f5 := F.typeCall_set_1 (.ref l)
  refine wpAny_call (codeAny_of_tree (wpAny_pure ⟨Code.quiet_builtin _ (by decide +kernel), codeAny_builtin F.entry_type_call ?_⟩))
  rw [Around.under_plain (weight_type_call_type "set" [.ref l] []) rfl]
  repeat (any_goals (first | assumption | wp_step))
  refine codeAny_mono (code_set_led1 (.ref l) (E := E) (Q₁ := fun v s1 => v = .ref s.heap.objs.size ∧ s1 = { s with heap := s.heap.push (bare0 w) }) ⟨rfl, rfl⟩) ?_
  intro r s1 hr
  match r, hr with
  | .error e, hr => exact hr
  | .ok (.ret v), hr =>
    obtain ⟨e1, e2⟩ := hr
    subst e1
    subst e2
    have g1 := F.called_set.init.lookup
    have g2 := F.called_set.init.bind (.ref s.heap.objs.size)
    have ty : Shared.TypeIs { s with heap := s.heap.push (bare0 w) } (.ref s.heap.objs.size) "set" := ⟨_, Heap.get?_push_size _ rfl, rfl⟩
    repeat (any_goals (first | assumption | wp_step))
    refine codeAny_mono (codeAny_call_builtin (R := wants (fun v s2 => v = .none ∧ ∃ h' tk, s2 = { s with heap := h', toks := tk } ∧ Q (.ref s.heap.objs.size) s2) E) F.called_set.init.plain F.entry_set_init (check_set_init_1 ty ?_)) ?_
    · obtain ⟨⟨oc, od, odt, osl⟩, o1, o2, on, o3⟩ := id T
      simp only at o2 o3
      subst o2
      subst o3
      have o4 : (s.heap.push (bare0 w)).get? l = some ⟨.type "tuple", od, .seq items on, osl⟩ := Heap.get?_push_of_some _ o1
      have k1 := F.sub_tuple_set
      have k2 := F.sub_tuple_frozenset
      have k3 : (Value.type "tuple" == Value.type "dict") = false := by decide
      unfold Builtin.«set.__init__» noKeywords Builtin.Frozenset.updateFrom
      generalize hI : pyIter = IT
      wp_walk
      subst hI
      refine wpAny_pyIter_tuple (T.push _) (wpAny_bind (wpAny_runValue ?_))
      have z1 : (s.heap.push (bare0 w)).objs.size = s.heap.objs.size + 1 := Heap.size_push ..
      rw [z1]
      refine fill_tups (s := s) ks (by simp [A0]) T ei ik few (by simp; omega) ?_
      intro h' tk L es ep t S1 g k
      refine wpAny_pure (wpAny_pure ⟨rfl, h', tk, rfl, h h' tk L es ep t S1 g k⟩)
    · intro r2 s2 hr2
      match r2, hr2 with
      | .error e, hr2 => exact hr2
      | .ok (.ret v), hr2 =>
        obtain ⟨e1, h', tk, e2, q⟩ := hr2
        subst e1
        subst e2
        repeat (any_goals (first | assumption | wp_step))
end
end L2
end C3_part
section C4_part
set_option Elab.async false
set_option linter.all false
set_option maxRecDepth 100000
set_option maxHeartbeats 1000000
set_option pp.deepTerms.threshold 5
open PySem PySem.Spec PyProof.Rows L2
/-- go on as far as nothing is open -/
local macro_rules | `(tactic| walk_at "go") => `(tactic| repeat (first
  | with_reducible refine w_seq ?_ | with_reducible refine w_next ?_ | with_reducible refine w_set ?_ | with_reducible refine w_drop ?_ | with_reducible refine w_ret ?_ | with_reducible refine w_retN ?_
  | with_reducible refine w_if ?_ | ((with_reducible refine' w_var ?hv ?_); (case hv => exact rfl)) | with_reducible refine w_c ?_ | with_reducible refine w_nil ?_ | with_reducible refine w_cons ?_ | with_reducible refine w_op ?_ | with_reducible refine w_un ?_
  | with_reducible refine w_test ?_ | with_reducible refine w_tB ?_ | with_reducible refine w_not ?_ | with_reducible refine w_and ?_ | with_reducible refine w_or ?_ | with_reducible refine w_bl ?_
  | with_reducible refine w_andV ?_ | with_reducible refine w_orV ?_ | with_reducible refine w_notV ?_ | with_reducible refine w_ifE ?_ | with_reducible refine w_chain ?_ | with_reducible refine w_i0 ?_
  | with_reducible refine w_call ?_ | with_reducible refine w_callS ?_ | with_reducible refine w_cB ?_ | with_reducible refine w_tup ?_ | with_reducible refine w_lst ?_ | with_reducible refine w_fldV ?_
  | with_reducible refine w_neF ?_ | with_reducible refine w_neT ?_ | with_reducible refine w_notN ?_ | with_reducible refine w_isN ?_ | with_reducible refine w_gname ?_ | with_reducible refine w_gsub ?_ | with_reducible refine w_asg ?_ | with_reducible refine w_sl ?_ | with_reducible refine w_noP ?_ | with_reducible refine w_int1 ?_ | with_reducible refine w_part ?_ | with_reducible refine w_yes ?_ | with_reducible refine w_nT ?_ | with_reducible refine w_nF ?_ | with_reducible refine w_iteT ?_ | with_reducible refine w_iteF ?_))
namespace L2
open PySem PySem.Spec PyProof.Rows
section
variable {X : Cx}
def rSetTT (K : PySem.W.Frag) (P : Program) (w : World) : List V → Hp → VK → Prop := fun xs H Q => ∃ (l : Addr) (ks : List (Addr × List Int)), xs = [V.ref l] ∧ SqT K H l (ks.map (fun p => V.ref p.1)) ∧ (∀ p, p ∈ ks → SqT K H p.1 (p.2.map V.int)) ∧ ks.length < 64 ∧
  ∀ a L, H a = none → (∀ p, p ∈ L → p ∈ ks) → (∀ p, p ∈ ks → p.2 ∈ L.map (·.2)) → Q (.ref a) (upd H a (SetTO P w a L))
theorem cr_setTT (hc : X.calm = true) (room : X.A.units + 64 < cLine) : CallR X (.type "set") (rSetTT X.K X.prog X.w) := by
  intro pins s σ H xs us Q I r ⟨l, ks, e, hl, hk, few, q⟩
  subst e
  rw [Vals.ref1 r]
  obtain ⟨its, rv, pl, _⟩ := I.tuple hl
  refine set_of_tuple ks (I.ok.hd hc) pl (by simpa using refs_of_vals rv) (fun p hp => I.isT (hk p hp)) few (by omega) ?_
  intro h' tk L es ep t S1 g k
  refine ⟨.ref s.heap.objs.size, _, I.laid (t' := tk) k (Nat.le_refl _) (setTO_new S1.t0), rfl, q _ L (I.hok.fresh (Nat.le_refl _)) ?_ ?_⟩
  · exact fun p hp => List.mem_of_mem_take (g.sub p hp)
  · intro p hp
    refine g.all p ?_
    rw [List.take_length]
    exact hp
end
end L2
namespace K3
/-! ### hidden cells -/
theorem cells_last (m n : Nat) : (cellsOf (m + 1) (n + 1)).dropLast = cellsOf m (n + 1) ++ rowCells n m := by
  unfold cellsOf
  rw [List.range_succ, List.flatMap_append, List.flatMap_cons, List.flatMap_nil, List.append_nil]
  unfold rowCells
  rw [List.range_succ, List.map_append, ← List.append_assoc]
  exact List.dropLast_concat
theorem cells_mem {m n : Nat} {c : Nat × Nat} : c ∈ cellsOf m n ↔ c.1 < m ∧ c.2 < n := by
  unfold cellsOf rowCells
  simp only [List.mem_flatMap, List.mem_range, List.mem_map]
  constructor
  · rintro ⟨a, ha, b, hb, rfl⟩
    exact ⟨ha, hb⟩
  · rintro ⟨h1, h2⟩
    exact ⟨c.1, h1, c.2, h2, rfl⟩
theorem drop_mem {m n : Nat} (m1 : 1 ≤ m) (n1 : 1 ≤ n) {c : Nat × Nat} (h : c ∈ (cellsOf m n).dropLast) : c.1 < m ∧ c.2 < n ∧ c ≠ (m - 1, n - 1) := by
  obtain ⟨m, rfl⟩ : ∃ k, m = k + 1 := ⟨m - 1, by omega⟩
  obtain ⟨n, rfl⟩ : ∃ k, n = k + 1 := ⟨n - 1, by omega⟩
  rw [cells_last] at h
  rcases List.mem_append.mp h with h | h
  · obtain ⟨h1, h2⟩ := cells_mem.mp h
    refine ⟨by omega, h2, fun z => ?_⟩
    rw [z] at h1
    simp at h1
  · unfold rowCells at h
    simp only [List.mem_map, List.mem_range] at h
    obtain ⟨b, hb, rfl⟩ := h
    refine ⟨by simp, by simp; omega, fun z => ?_⟩
    injection z with z1 z2
    simp at z2
    omega
/-- hidden cells, a list or a tuple of them -/
def HidIn (K : PySem.W.Frag) (H : Hp) (v : V) (hs : List (Nat × Nat)) (m n : Nat) : Prop :=
  ∃ p ws, v = .ref p ∧ (SqL K H p ws ∨ SqT K H p ws) ∧ Paired (CellAt H) ws hs ∧ (∀ h ∈ hs, h ∈ (cellsOf m n).dropLast) ∧ hs.length ≤ 60
def Srt (hs : List (Nat × Nat)) : Prop := hs.Pairwise fun a b => a.1 * 64 + a.2 < b.1 * 64 + b.2
theorem srt_of {m n : Nat} (hm : m ≤ 60) (hn : n ≤ 60) {hs : List (Nat × Nat)} (hb : ∀ c ∈ hs, c.1 < m ∧ c.2 < n) (nd : (hs.map fun c => [(c.1 : Int), (c.2 : Int)]).Nodup) (pw : (hs.map fun c => [(c.1 : Int), (c.2 : Int)]).Pairwise fun a b => TS.code 64 a ≤ TS.code 64 b) : Srt hs := by
  have h1 := List.pairwise_map.mp nd
  have h2 := List.pairwise_map.mp pw
  refine List.Pairwise.imp_of_mem ?_ (h1.and h2)
  intro a b ha hb' ⟨k1, k2⟩
  rw [code_pair, code_pair] at k2
  obtain ⟨x1, x2⟩ := hb a ha
  obtain ⟨y1, y2⟩ := hb b hb'
  by_cases z : a.1 = b.1 ∧ a.2 = b.2
  · exact absurd (by rw [z.1, z.2]) k1
  · omega
def spReadH (K : PySem.W.Frag) : Sp := fun vs H Q _ => ∃ (g : Addr) (v : V) (rs : List Addr) (t : List (List Int)) (m n : Nat) (hs : List (Nat × Nat)), vs = [.ref g, v] ∧ GT K H g rs t ∧ Rect t m n ∧ 1 ≤ m ∧ 1 ≤ n ∧ m ≤ 60 ∧ n ≤ 60 ∧ HidIn K H v hs m n ∧
  ∀ p' H' ws' hs', Same H H' → H' p' = some (.lst ws') → Paired (CellAt H') ws' hs' → (∀ c, c ∈ hs' ↔ c ∈ hs) → hs'.length ≤ 100 → Srt hs' → Q (.ref p') H'
theorem hid_keys {H : Hp} : ∀ {ws : List V} {hs : List (Nat × Nat)}, Paired (CellAt H) ws hs → ∃ ks : List (Addr × List Int), ws = ks.map (fun p => V.ref p.1) ∧ (∀ p ∈ ks, ∃ c ∈ hs, p.2 = [(c.1 : Int), (c.2 : Int)] ∧ H p.1 = some (.tup (p.2.map V.int))) ∧ (∀ c ∈ hs, ∃ p ∈ ks, p.2 = [(c.1 : Int), (c.2 : Int)]) ∧ ks.length = hs.length
  | _, _, .nil => ⟨[], rfl, fun p hp => (by cases hp), fun p hp => (by cases hp), rfl⟩
  | _, _, .cons (b := c) h t => by
    obtain ⟨ks, h1, h2, h3, h4⟩ := hid_keys t
    obtain ⟨a, rfl, ha⟩ := h
    refine ⟨(a, [(c.1 : Int), (c.2 : Int)]) :: ks, by rw [h1]; rfl, fun p hp => ?_, fun d hd => ?_, by simp [h4]⟩
    · rcases List.mem_cons.mp hp with rfl | hp
      · exact ⟨c, List.mem_cons_self .., rfl, ha⟩
      · obtain ⟨d, hd, k⟩ := h2 p hp
        exact ⟨d, List.mem_cons_of_mem _ hd, k⟩
    · rcases List.mem_cons.mp hd with rfl | hd
      · exact ⟨_, List.mem_cons_self .., rfl⟩
      · obtain ⟨p, hp, k⟩ := h3 d hd
        exact ⟨p, List.mem_cons_of_mem _ hp, k⟩
theorem keys_hid {H : Hp} {hs : List (Nat × Nat)} : ∀ {L : List (Addr × List Int)}, (∀ p ∈ L, ∃ c ∈ hs, p.2 = [(c.1 : Int), (c.2 : Int)] ∧ H p.1 = some (.tup (p.2.map V.int))) → ∃ hs', Paired (CellAt H) (L.map fun q => V.ref q.1) hs' ∧ (∀ c, c ∈ hs' ↔ c ∈ hs ∧ [(c.1 : Int), (c.2 : Int)] ∈ L.map (·.2)) ∧ hs'.length = L.length ∧ hs'.map (fun c => [(c.1 : Int), (c.2 : Int)]) = L.map (·.2)
  | [], _ => ⟨[], .nil, fun c => by simp, rfl, rfl⟩
  | p :: L, h => by
    obtain ⟨hs', h1, h2, h3, h4⟩ := keys_hid (L := L) fun q hq => h q (List.mem_cons_of_mem _ hq)
    obtain ⟨c, hc, e, ha⟩ := h p (List.mem_cons_self ..)
    rw [e] at ha
    refine ⟨c :: hs', .cons ⟨_, rfl, ha⟩ h1, fun d => ?_, by simp [h3], by rw [List.map_cons, List.map_cons, h4, e]⟩
    rw [List.mem_cons, h2, List.map_cons, List.mem_cons, e]
    constructor
    · rintro (rfl | ⟨a, b⟩)
      · exact ⟨hc, .inl rfl⟩
      · exact ⟨a, .inr b⟩
    · rintro ⟨a, b | b⟩
      · refine .inl ?_
        obtain ⟨d1, d2⟩ := d
        obtain ⟨c1, c2⟩ := c
        simp at b
        obtain ⟨b1, b2⟩ := b
        obtain rfl : d1 = c1 := by omega
        obtain rfl : d2 = c2 := by omega
        rfl
      · exact .inr ⟨a, b⟩
theorem cell_eqv (a b : Nat × Nat) : PyData.eqv (cellD a) (cellD b) = decide (a = b) := by
  unfold cellD
  obtain ⟨a1, a2⟩ := a
  obtain ⟨b1, b2⟩ := b
  rw [Bool.eq_iff_iff]
  simp [PyData.eqv, PyData.eqvAll]
  omega
theorem cell_shaped (c : Nat × Nat) : SeqAt.shaped (cellD c) = true := by
  unfold SeqAt.shaped cellD
  simp [PyData.canLay0, PyData.canLayAll0, PyData.depth, PyData.depthAll]
def tbRead (K : PySem.W.Frag) : TS := tSeq (tDrop (tCall (spRefuse K) [] E0 (tCons (tVar 0) (tCons (tVar 2) tNil)))) (tIfS (tTest (tOp (rEqD K) (tVar 2) (tCall (spLast K) [] E0 (tCons (tVar 0) tNil)))) (fun _ _ _ => False) tNext)
section
variable {P : Program} {w : World} {K : PySem.W.Frag} {mg : Str → Option Value} {base : Heap}
theorem sc_read_hidden : FnScope ["grid", "hidden", "cell"] ["grid", "hidden"] (defScope s_read_hidden) := ⟨rfl, rfl, rfl, by decide +kernel, rfl, by decide +kernel, by decide +kernel⟩
theorem ok_read_hidden (T : Tx K mg) : Ok P w K mg base 2 (He.ga K "read_hidden") ["grid", "hidden"] (spReadH K) := by
  obtain ⟨fd, F⟩ := T.f_read_hidden
  have Orefuse_no_cell := ok_refuse_no_cell (P := P) (w := w) (base := base) T
  have Olast_cell := ok_last_cell (P := P) (w := w) (base := base) T
  refine ⟨fd, F.ok (k := 1) sc_read_hidden (fun vs H Q E h => ?_) (fun cdv A outer s' H vs Q E hr h => ?_), F.bindsN fun _ _ _ _ _ _ us hl => match us, hl with | [_, _], _ => rfl, F.kp⟩
  · obtain ⟨g, v, rs, t, m, n, hs, rfl, _⟩ := h
    rfl
  obtain ⟨g, v, rs, t, m, n, hs, rfl, ht, hR, m1, n1, m2, n2, ⟨p, ws, rfl, hp, hw, hmem, hlen⟩, q⟩ := h
  have rrefuse_no_cell : Room 1 _ := hr
  have rlast_cell : Room 1 _ := hr
  have hu65 := K3.Room.units65 hr
  have hu64 := Nat.lt_of_succ_lt hu65
  refine ⟨_, pss_cons (ps_for (passes_of rfl) rfl (pi_or (pi_list (pv 1)) (pi_tup (pv 1))) (pg_name (i := 2) sc_read_hidden.nd rfl (Or.inl rfl)) (pss_cons (ps_expr (pe_f Orefuse_no_cell rrefuse_no_cell T.g_refuse_no_cell (pa_cons (pv 0) (pa_cons (pv 2) pa_nil))))
      (pss_one (ps_if (pt_cmpR (op_eqD hu64) (pv 2) (pe_f Olast_cell rlast_cell T.g_last_cell (pa_cons (pv 0) pa_nil)) (nomark _)) (pss_one ps_dead) pss_nil))))
      (pss_one (ps_ret (pe_callB (cr_sortedT (by rfl)) (by rfl) T.z_sorted (by decide +kernel) (pa_cons (pe_callTy (cr_or (cr_setOfT (by rfl) hu64) (cr_setTT (by rfl) hu64)) (by rfl) T.z_set (by decide +kernel) (pa_cons (pv 1) pa_nil)) pa_nil)))), ?_⟩
  walk_at "go"
  have hstep : ∀ (D : L2.Ends) (i : Nat) (x : V) (σ : L2.St) (H1 H2 : Hp), i < ws.length → (∃ o2 : Option V, σ = [some (.ref g), some (.ref p), o2] ∧ Same H H1) → YAt ws i H1 x H2 → gName 2 x σ H2 fun σ2 H3 => tbRead K { D with nx := fun σ H1 => ∃ o2 : Option V, σ = [some (.ref g), some (.ref p), o2] ∧ Same H H1, ct := fun σ H1 => ∃ o2 : Option V, σ = [some (.ref g), some (.ref p), o2] ∧ Same H H1, bk := D.nx } σ2 H3 := by
    rintro D i x σ H1 H2 hi ⟨o2, rfl, e1⟩ ⟨rfl, hx⟩
    obtain ⟨c, hc, hxc⟩ := K3.Paired.get hw hx
    obtain ⟨c1, c2, c3⟩ := drop_mem m1 n1 (hmem c (List.mem_of_getElem? hc))
    walk_at "go"
    unfold tbRead
    walk_at "go"
    refine ⟨g, x, rs, t, m, n, c.1, c.2, rfl, ht.same e1, hR, hxc.same e1, c1, c2, ?_⟩
    walk_at "go"
    refine ⟨g, rs, t, m, n, rfl, ht.same e1, hR, m1, n1, fun a H3 e3 ha => ?_⟩
    refine ⟨cellD c, cellD (m - 1, n - 1), cell_dp ((hxc.same e1).same e3), cell_dp ha, cell_shaped _, cell_shaped _, ?_⟩
    rw [cell_eqv, decide_eq_false c3]
    walk_at "go"
    exact ⟨_, rfl, e1.trans e3⟩
  have fin : ∀ (o2 : Option V) (H1 : Hp) (D : L2.Ends), D.rt = Q → Same H H1 → tRet (tCB (rSortedT K P w) (tCons (tCB (fun xs H Q => rSetOfT K P w xs H Q ∨ rSetTT K P w xs H Q) (tCons (tVar 1) tNil)) tNil)) D [some (.ref g), some (.ref p), o2] H1 := by
    intro o2 H1 D eD e1
    have hw1 := L2.Paired.mapP hw fun _ _ z => z.same e1
    obtain ⟨ks, k1, k2, k3, k4⟩ := hid_keys hw1
    have hk : ∀ p ∈ ks, SqT K H1 p.1 (p.2.map V.int) := fun p hp => by
      obtain ⟨c, _, _, ha⟩ := k2 p hp
      exact SqT.of ha
    have rest : ∀ a L, H1 a = none → (∀ p ∈ L, p ∈ ks) → (∀ p ∈ ks, p.2 ∈ L.map (·.2)) → rSortedT K P w [.ref a] (upd H1 a (SetTO P w a L)) D.rt := by
      intro a L ha hs1 hs2
      have e2 := Same.new ha (SetTO P w a L)
      have kb : ∀ p ∈ L, ∃ c ∈ hs, p.2 = [(c.1 : Int), (c.2 : Int)] ∧ H1 p.1 = some (.tup (p.2.map V.int)) := fun p hp => k2 p (hs1 p hp)
      refine ⟨a, L, 2, 64, rfl, upd_same, fun p hp => e2.sqt (hk p (hs1 p hp)), by decide, fun p hp => ?_, fun L' p' pm nd few pw hp' => ?_⟩
      · obtain ⟨c, hc, e, _⟩ := kb p hp
        obtain ⟨c1, c2, _⟩ := drop_mem m1 n1 (hmem c hc)
        rw [e]
        refine ⟨rfl, fun z hz => ?_⟩
        simp only [List.mem_cons, List.not_mem_nil, or_false] at hz
        rcases hz with rfl | rfl <;> omega
      · have e3 := Same.new hp' (.lst (L'.map fun q => V.ref q.1))
        have e23 := e2.trans e3
        obtain ⟨hs', h1, h2, h3, h4⟩ := keys_hid (H := upd (upd H1 a (SetTO P w a L)) p' (.lst (L'.map fun q => V.ref q.1))) (hs := hs) (L := L') fun q hq => by
          obtain ⟨c, hc, e, hx⟩ := kb q (pm.mem_iff.mp hq)
          exact ⟨c, hc, e, e23 _ _ hx⟩
        rw [eD]
        refine q p' _ _ hs' (e1.trans e23) upd_same h1 (fun c => ?_) (by omega) (srt_of m2 n2 (fun c hc => ⟨(drop_mem m1 n1 (hmem c ((h2 c).mp hc).1)).1, (drop_mem m1 n1 (hmem c ((h2 c).mp hc).1)).2.1⟩) (by rw [h4]; exact nd) (by rw [h4]; exact List.pairwise_map.mpr pw))
        rw [h2]
        refine ⟨fun z => z.1, fun z => ⟨z, ?_⟩⟩
        obtain ⟨x, hx, e⟩ := k3 c z
        rw [← e, (pm.map (·.2)).mem_iff]
        exact hs2 x hx
    walk_at "go"
    rcases hp with hp | hp
    · refine .inl ⟨_, ks, rfl, by rw [← k1]; exact e1.seq hp, hk, by omega, fun a L ha h1 h2 => ?_⟩
      walk_at "go"
      exact rest a L ha h1 h2
    · refine .inr ⟨_, ks, rfl, by rw [← k1]; exact e1.sqt hp, hk, by omega, fun a L ha h1 h2 => ?_⟩
      walk_at "go"
      exact rest a L ha h1 h2
  rcases hp with hp' | hp'
  · refine Or.inl ⟨_, rfl, p, rfl, ⟨ws, hp'⟩, ?_⟩
    refine for_it walk_list (fun _ σ H1 => ∃ o2 : Option V, σ = [some (.ref g), some (.ref p), o2] ∧ Same H H1) ⟨none, rfl, Same.refl _⟩ (fun i σ H1 _ ⟨_, _, e⟩ => e.seq hp') (hstep _) ?_
    rintro σ H1 ⟨o2, rfl, e1⟩
    exact fin o2 H1 _ rfl e1
  · refine Or.inr ⟨_, rfl, p, rfl, ⟨ws, hp'⟩, ?_⟩
    refine for_it walk_tup (fun _ σ H1 => ∃ o2 : Option V, σ = [some (.ref g), some (.ref p), o2] ∧ Same H H1) ⟨none, rfl, Same.refl _⟩ (fun i σ H1 _ ⟨_, _, e⟩ => e.sqt hp') (hstep _) ?_
    rintro σ H1 ⟨o2, rfl, e1⟩
    exact fin o2 H1 _ rfl e1
end
end K3
end C4_part
section C5_part
set_option Elab.async false
set_option linter.all false
set_option maxRecDepth 100000
set_option maxHeartbeats 1000000
set_option pp.deepTerms.threshold 5
open PySem PySem.Spec PyProof.Rows L2
/-- go on as far as nothing is open -/
local macro_rules | `(tactic| walk_at "go") => `(tactic| repeat (first
  | with_reducible refine w_seq ?_ | with_reducible refine w_next ?_ | with_reducible refine w_set ?_ | with_reducible refine w_drop ?_ | with_reducible refine w_ret ?_ | with_reducible refine w_retN ?_
  | with_reducible refine w_if ?_ | ((with_reducible refine' w_var ?hv ?_); (case hv => exact rfl)) | with_reducible refine w_c ?_ | with_reducible refine w_nil ?_ | with_reducible refine w_cons ?_ | with_reducible refine w_op ?_ | with_reducible refine w_un ?_
  | with_reducible refine w_test ?_ | with_reducible refine w_tB ?_ | with_reducible refine w_not ?_ | with_reducible refine w_and ?_ | with_reducible refine w_or ?_ | with_reducible refine w_bl ?_
  | with_reducible refine w_andV ?_ | with_reducible refine w_orV ?_ | with_reducible refine w_notV ?_ | with_reducible refine w_ifE ?_ | with_reducible refine w_chain ?_ | with_reducible refine w_i0 ?_
  | with_reducible refine w_call ?_ | with_reducible refine w_callS ?_ | with_reducible refine w_cB ?_ | with_reducible refine w_tup ?_ | with_reducible refine w_lst ?_ | with_reducible refine w_fldV ?_
  | with_reducible refine w_neF ?_ | with_reducible refine w_neT ?_ | with_reducible refine w_notN ?_ | with_reducible refine w_isN ?_ | with_reducible refine w_gname ?_ | with_reducible refine w_gsub ?_ | with_reducible refine w_asg ?_ | with_reducible refine w_sl ?_ | with_reducible refine w_noP ?_ | with_reducible refine w_int1 ?_ | with_reducible refine w_part ?_ | with_reducible refine w_yes ?_ | with_reducible refine w_nT ?_ | with_reducible refine w_nF ?_ | with_reducible refine w_iteT ?_ | with_reducible refine w_iteF ?_))
namespace L2
open PySem PySem.Spec PyProof.Rows
def LcAt (J : It) (D : Addr) (g : TG) (tt : TT) (te : TE) (vs : List Nat) (σ : L2.St) (H1 : Hp) (Qd : Hp → Prop) : Prop :=
  ∃ W : Nat → Nat → Hp → Prop, (∃ m, W 0 m (upd H1 D (.lst []))) ∧ ∀ i m H, W i m H →
    (J.stop i H ∧ Qd H) ∨ (J.go i H ∧ ∃ Nx : Hp → Prop, (∀ H', Nx H' → ∃ m', m' < m ∧ W (i + 1) m' H') ∧ ∀ x H', J.yld i H x H' → g x (wipe σ vs) H' fun σ2 H2 =>
      wipe σ2 vs = wipe σ vs ∧ tt σ2 H2 fun b H3 => if b = true then te σ2 H3 fun y H4 => ∃ acc, H4 D = some (.lst acc) ∧ acc.length < sizeLine ∧ Nx (upd H4 D (.lst (acc ++ [y]))) else Nx H3)
/-- a comprehension over items of which something is known: each gives a value of its own -/
theorem items_at {K : PySem.W.Frag} {α : Type} {F : Hp → V → α → Prop} (mono : ∀ {H H' : Hp} {v : V} {y : α}, Same H H' → F H v y → F H' v y) {a D : Addr} {xs : List V} {ys : List α} {te : TE} {vs : List Nat} {σ : L2.St} {j : Nat} {H1 : Hp} {Qd : Hp → Prop} (f : α → V)
    (hs : SqL K H1 a xs) (hp : Paired (F H1) xs ys) (hD : H1 D = none) (hlen : xs.length ≤ 10000) (hw : ∀ x, wipe ((wipe σ vs).set j (some x)) vs = wipe σ vs)
    (he : ∀ (v : V) (y : α) (H' : Hp), Same H1 H' → y ∈ ys → F H' v y → ∀ Q : VK, (∀ H'', Same H' H'' → Q (f y) H'') → te ((wipe σ vs).set j (some v)) H' Q)
    (hd : ∀ H', Same H1 H' → H' D = some (.lst (ys.map f)) → Qd H') : LcAt (Itl K a) D (gName j) tYes te vs σ H1 Qd := by
  refine lc_list (xs := xs) (fun i H' => Same H1 H' ∧ H' D = some (.lst ((ys.take i).map f))) ⟨Same.new hD _, upd_same⟩ (fun i H' _ z => z.1.seq hs) ?_ ?_
  · rintro i x H2 hx ⟨e2, hD2⟩
    obtain ⟨y, hy, hF⟩ := K3.Paired.get hp hx
    refine ⟨hw x, ?_⟩
    refine w_yes ?_
    refine iteT ?_
    refine he x y H2 e2 (List.mem_of_getElem? hy) (mono e2 hF) _ fun H3 e3 => ?_
    refine ⟨_, e3 _ _ hD2, ?_, (e2.trans e3).mut hD, ?_⟩
    · refine Nat.lt_of_le_of_lt (show _ ≤ 10000 from ?_) (by decide)
      rw [List.length_map, List.length_take, ← hp.length]
      omega
    · rw [upd_same, List.take_add_one, hy, List.map_append]
      rfl
  · rintro H2 ⟨e2, hD2⟩
    refine hd H2 e2 ?_
    rw [hD2, hp.length, List.take_length]
/-- .. those that pass a test are kept -/
theorem items_keep {K : PySem.W.Frag} {α : Type} {F : Hp → V → α → Prop} (mono : ∀ {H H' : Hp} {v : V} {y : α}, Same H H' → F H v y → F H' v y) {a D : Addr} {xs : List V} {ys : List α} {tt : TT} {te : TE} {vs : List Nat} {σ : L2.St} {j : Nat} {H1 : Hp} {Qd : Hp → Prop} (b : α → Bool)
    (hs : SqL K H1 a xs) (hp : Paired (F H1) xs ys) (hD : H1 D = none) (hlen : xs.length ≤ 10000) (hw : ∀ x, wipe ((wipe σ vs).set j (some x)) vs = wipe σ vs)
    (ht : ∀ (v : V) (y : α) (H' : Hp), Same H1 H' → y ∈ ys → F H' v y → ∀ Q : Bool → Hp → Prop, (∀ H'', Same H' H'' → Q (b y) H'') → tt ((wipe σ vs).set j (some v)) H' Q)
    (he : ∀ (v : V) (H' : Hp) (Q : VK), Q v H' → te ((wipe σ vs).set j (some v)) H' Q)
    (hd : ∀ H' zs, Same H1 H' → H' D = some (.lst zs) → Paired (F H') zs (ys.filter b) → Qd H') : LcAt (Itl K a) D (gName j) tt te vs σ H1 Qd := by
  refine lc_list (xs := xs) (fun i H' => Same H1 H' ∧ ∃ zs, H' D = some (.lst zs) ∧ Paired (F H1) zs ((ys.take i).filter b)) ⟨Same.new hD _, [], upd_same, .nil⟩ (fun i H' _ z => z.1.seq hs) ?_ ?_
  · rintro i x H2 hx ⟨e2, zs, hD2, hp2⟩
    obtain ⟨y, hy, hF⟩ := K3.Paired.get hp hx
    refine ⟨hw x, ?_⟩
    refine ht x y H2 e2 (List.mem_of_getElem? hy) (mono e2 hF) _ fun H3 e3 => ?_
    have hD3 := e3 _ _ hD2
    have hl : (ys.take (i + 1)).filter b = (ys.take i).filter b ++ (if b y = true then [y] else []) := by
      rw [List.take_add_one, hy, List.filter_append]
      congr 1
      cases hb : b y <;> simp [hb]
    cases hb : b y with
    | true =>
      rw [hb] at hl
      refine iteT ?_
      refine he x H3 _ ?_
      refine ⟨zs, hD3, ?_, (e2.trans e3).mut hD, zs ++ [x], upd_same, ?_⟩
      · refine Nat.lt_of_le_of_lt (show _ ≤ 10000 from ?_) (by decide)
        rw [hp2.length]
        refine Nat.le_trans (List.length_filter_le _ _) ?_
        rw [List.length_take, ← hp.length]
        omega
      · rw [hl, if_pos rfl]
        exact K3.Paired.app hp2 (.cons hF .nil)
    | false =>
      rw [hb] at hl
      refine iteF ?_
      refine ⟨e2.trans e3, zs, hD3, ?_⟩
      rw [hl, if_neg (by decide), List.append_nil]
      exact hp2
  · rintro H2 ⟨e2, zs, hD2, hp2⟩
    rw [hp.length, List.take_length] at hp2
    exact hd H2 zs e2 hD2 (L2.Paired.mapP hp2 fun _ _ z => mono e2 z)
theorem lcAt_open {wi : TI} {g : TG} {tt : TT} {te : TE} {vs : List Nat} {σ : L2.St} {H : Hp} {Q : VK} (h : wi σ H fun J H1 => ∀ D, H1 D = none → LcAt J D g tt te vs σ H1 (Q (.ref D))) : tLc wi g tt te vs σ H Q := h
end L2
namespace K3
def RowV (H : Hp) (v : V) (r : List Int) : Prop := ∃ a, v = .ref a ∧ H a = some (.lst (r.map V.int))
theorem RowV.same {H H' : Hp} (e : Same H H') {v : V} {r : List Int} (h : RowV H v r) : RowV H' v r := let ⟨a, h1, h2⟩ := h; ⟨a, h1, e _ _ h2⟩
theorem rowV_of {H : Hp} : ∀ {rs : List Addr} {t : List (List Int)}, Paired (RowAt H) rs t → Paired (RowV H) (rs.map V.ref) t
  | _, _, .nil => .nil
  | _, _, .cons h t => .cons ⟨_, rfl, h⟩ (rowV_of t)
theorem CellAt.muts {H : Hp} {v : V} {c : Nat × Nat} {p : Addr} {zs ws : List V} (hp : H p = some (.lst zs)) (h : CellAt H v c) : CellAt (upd H p (.lst ws)) v c := by
  obtain ⟨a, h1, h2⟩ := h
  exact ⟨a, h1, by rw [upd_ne (fun z => by rw [z, hp] at h2; cases h2)]; exact h2⟩
theorem rows_at {K : PySem.W.Frag} {a D : Addr} {rs : List Addr} {t : List (List Int)} {te : TE} {vs : List Nat} {σ : L2.St} {j : Nat} {H1 : Hp} {Qd : Hp → Prop} (f : List Int → V) (ht : Tab H1 a rs t) (hlen : t.length ≤ 10000) (hD : H1 D = none) (hw : ∀ x, wipe ((wipe σ vs).set j (some x)) vs = wipe σ vs)
    (he : ∀ (b : Addr) (r : List Int) (H' : Hp), Same H1 H' → r ∈ t → RowAt H' b r → ∀ Q : VK, (∀ H'', Same H' H'' → Q (f r) H'') → te ((wipe σ vs).set j (some (.ref b))) H' Q)
    (hd : ∀ H', Same H1 H' → H' D = some (.lst (t.map f)) → Qd H') : LcAt (Itl K a) D (gName j) tYes te vs σ H1 Qd := by
  refine items_at (F := RowV) (fun e h => RowV.same e h) f (SqL.of ht.at_) (rowV_of ht.rows) hD (by rw [List.length_map, ht.rows.length]; exact hlen) hw ?_ hd
  rintro v r H' e1 hr ⟨b, rfl, hb⟩ Q q
  exact he b r H' e1 hr hb Q q
theorem rows_keep {K : PySem.W.Frag} {a D : Addr} {rs : List Addr} {t : List (List Int)} {tt : TT} {te : TE} {vs : List Nat} {σ : L2.St} {j : Nat} {H1 : Hp} {Qd : Hp → Prop} (b : List Int → Bool) (ht : Tab H1 a rs t) (hlen : t.length ≤ 10000) (hD : H1 D = none) (hw : ∀ x, wipe ((wipe σ vs).set j (some x)) vs = wipe σ vs)
    (htt : ∀ (c : Addr) (r : List Int) (H' : Hp), Same H1 H' → r ∈ t → RowAt H' c r → ∀ Q : Bool → Hp → Prop, (∀ H'', Same H' H'' → Q (b r) H'') → tt ((wipe σ vs).set j (some (.ref c))) H' Q)
    (he : ∀ (v : V) (H' : Hp) (Q : VK), Q v H' → te ((wipe σ vs).set j (some v)) H' Q)
    (hd : ∀ H' zs, Same H1 H' → H' D = some (.lst zs) → Paired (RowV H') zs (t.filter b) → Qd H') : LcAt (Itl K a) D (gName j) tt te vs σ H1 Qd := by
  refine items_keep (F := RowV) (fun e h => RowV.same e h) b (SqL.of ht.at_) (rowV_of ht.rows) hD (by rw [List.length_map, ht.rows.length]; exact hlen) hw ?_ he hd
  rintro v r H' e1 hr ⟨c, rfl, hc⟩ Q q
  exact htt c r H' e1 hr hc Q q
theorem ints_dp {K : PySem.W.Frag} {H : Hp} : ∀ {xs : List Int}, DpAll K H (xs.map V.int) (xs.map PyData.int)
  | [] => .nil
  | x :: xs => .cons (.int x) ints_dp
theorem lst_dp {K : PySem.W.Frag} {H : Hp} {p : Addr} {xs : List Int} (h : H p = some (.lst (xs.map V.int))) : Dp K H (.ref p) (.list (xs.map PyData.int)) := .lst (SqL.of h) ints_dp
theorem eqvAll_ints : ∀ (a b : List Int), PyData.eqvAll (a.map PyData.int) (b.map PyData.int) = decide (a = b)
  | [], [] => rfl
  | [], b :: bs => rfl
  | a :: as, [] => rfl
  | a :: as, b :: bs => by
    simp only [List.map_cons, PyData.eqvAll, PyData.eqv, eqvAll_ints as bs]
    rw [Bool.eq_iff_iff]
    simp
theorem lay_ints : ∀ xs : List Int, PyData.canLayAll0 (xs.map PyData.int) = true ∧ PyData.depthAll (xs.map PyData.int) ≤ 1
  | [] => by simp [PyData.canLayAll0, PyData.depthAll]
  | x :: xs => by
    obtain ⟨a, b⟩ := lay_ints xs
    simp only [List.map_cons, PyData.canLayAll0, PyData.depthAll, PyData.canLay0, PyData.depth]
    exact ⟨by rw [a]; rfl, by omega⟩
theorem shaped_ints (xs : List Int) : SeqAt.shaped (.list (xs.map PyData.int)) = true := by
  obtain ⟨a, b⟩ := lay_ints xs
  have d : (PyData.list (xs.map PyData.int)).depth ≤ 64 := by
    simp only [PyData.depth]
    omega
  unfold SeqAt.shaped
  rw [decide_eq_true d]
  simp only [PyData.canLay0, a, Bool.true_and]
def spWide (K : PySem.W.Frag) : Sp := fun vs H Q _ => ∃ (g p : Addr) (rs rs' : List Addr) (t u : List (List Int)), vs = [.ref g, .ref p] ∧ GT K H g rs t ∧ GT K H p rs' u ∧ t.length ≤ 100 ∧ u.length ≤ 100 ∧ ∀ H', Same H H' → Q (.bl (decide (u.map List.length = t.map List.length))) H'
theorem lens_inj {a b : List (List Int)} : ((a.map fun r => (r.length : Int)) = b.map fun r => (r.length : Int)) ↔ a.map List.length = b.map List.length := by
  induction a generalizing b with
  | nil => cases b <;> simp
  | cons x a ih =>
    cases b with
    | nil => simp
    | cons y b =>
      simp only [List.map_cons, List.cons.injEq]
      rw [ih]
      constructor
      · rintro ⟨h1, h2⟩; exact ⟨by omega, h2⟩
      · rintro ⟨h1, h2⟩; exact ⟨by omega, h2⟩
def RightCol (u : List (List Int)) (c : Nat) : Prop := (colOf u c).getLastD 0 = (colOf u c).dropLast.sum
def Right (u : List (List Int)) (n : Nat) : Prop := (∀ r ∈ u, r.getLastD 0 = r.dropLast.sum) ∧ ∀ c < n, RightCol u c
def spRight (K : PySem.W.Frag) : Sp := fun vs H Q _ => ∃ (p : Addr) (rs : List Addr) (u : List (List Int)) (m n : Nat), vs = [.ref p] ∧ GT K H p rs u ∧ Rect u m n ∧ 1 ≤ m ∧ 1 ≤ n ∧ m ≤ 100 ∧ n ≤ 100 ∧ ∀ b H', Same H H' → (b = true ↔ Right u n) → Q (.bl b) H'
def rSlE (K : PySem.W.Frag) : V → Option Int → Option Int → Hp → VK → Prop := fun x lo hi H Q => rSlL K x lo hi H Q ∨ rSlT K x lo hi H Q
theorem sl_e {X : Cx} : SlR X (rSlE X.K) := SlR.or sl_list sl_tup
theorem w_slLast {K : PySem.W.Frag} {H : Hp} {a : Addr} {xs : List V} {Q : VK} (h : SqE K H a xs) (ne : xs ≠ []) (q : ∀ p H', H p = none → Same H H' → SqE K H' p xs.dropLast → Q (.ref p) H') : rSlE K (.ref a) none (some (-1)) H Q := by
  rcases h.either with h | h
  · refine .inl ⟨a, xs, rfl, h, fun p hp => q p _ hp (Same.new hp _) ?_⟩
    rw [cut_last]
    exact .lst upd_same
  · refine .inr ⟨a, xs, rfl, h, fun z => ?_, fun p hp => q p _ hp (Same.new hp _) ?_⟩
    · have l : 0 < xs.length := List.length_pos_iff.mpr ne
      have z := z.2
      unfold HT.sIx at z
      simp at z
      omega
    · rw [cut_last]
      exact .tup upd_same
theorem at_last {r : List Int} (h : r ≠ []) : atI (r.map V.int) (-1) = some (.int (r.getLastD 0)) := by
  obtain ⟨xs, x, rfl⟩ : ∃ xs x, r = xs ++ [x] := ⟨r.dropLast, r.getLast h, (List.dropLast_concat_getLast h).symm⟩
  rw [List.map_append, List.getLastD_concat]
  exact atI_last _ _
section
variable {P : Program} {w : World} {K : PySem.W.Frag} {mg : Str → Option Value} {base : Heap}
theorem sc_is_as_wide : FnScope ["grid", "table", "row"] ["grid", "table"] (defScope s_is_as_wide) := ⟨rfl, rfl, rfl, by decide +kernel, rfl, by decide +kernel, by decide +kernel⟩
theorem ok_is_as_wide (T : Tx K mg) : Ok P w K mg base 1 (He.ga K "is_as_wide") ["grid", "table"] (spWide K) := by
  obtain ⟨fd, F⟩ := T.f_is_as_wide
  refine ⟨fd, F.ok (k := 0) sc_is_as_wide (fun vs H Q E h => ?_) (fun cdv A outer s_ H vs Q E hr h => ?_), F.bindsN fun _ _ _ _ _ _ us hl => match us, hl with | [_, _], _ => rfl, F.kp⟩
  · obtain ⟨g, p, rs, rs', t, u, rfl, ht, hu, ht1, hu1, q⟩ := h
    rfl
  obtain ⟨g, p, rs, rs', t, u, rfl, ht, hu, ht1, hu1, q⟩ := h
  have hu65 := K3.Room.units65 hr
  have hu64 := Nat.lt_of_succ_lt hu65
  have hu0 := Nat.lt_of_le_of_lt (Nat.le_add_right _ 65) hu65
  refine ⟨_, pss_one (ps_ret (pe_cmpR (op_eqD hu64) (by exact pe_lc (own := [("row", 2)]) (g := gName 2) (tt := tYes) (te := (tCB (fun xs H Q => ∃ p ys, xs = [V.ref p] ∧ (SqL K H p ys ∨ SqT K H p ys) ∧ Q (.int ys.length) H) (tCons (tVar 2) tNil))) (by rfl) sc_is_as_wide.nd (pi_seq (pv 1)) (blkOk_by (own := [("row", 2)]) (N := ["grid", "table", "row"]) (sc := defScope s_is_as_wide) (by decide +kernel)) (fun _ _ _ _ _ => (pg_name (i := 2) sc_is_as_wide.nd rfl (Or.inl rfl))) (fun _ _ _ _ _ => pts_nil) (fun _ _ _ _ _ => (pe_callB call_len_seq (by rfl) T.z_len PySem.boot_len (pa_cons (pv 2) pa_nil)))) (by exact pe_lc (own := [("row", 2)]) (g := gName 2) (tt := tYes) (te := (tCB (fun xs H Q => ∃ p ys, xs = [V.ref p] ∧ (SqL K H p ys ∨ SqT K H p ys) ∧ Q (.int ys.length) H) (tCons (tVar 2) tNil))) (by rfl) sc_is_as_wide.nd (pi_seq (pv 0)) (blkOk_by (own := [("row", 2)]) (N := ["grid", "table", "row"]) (sc := defScope s_is_as_wide) (by decide +kernel)) (fun _ _ _ _ _ => (pg_name (i := 2) sc_is_as_wide.nd rfl (Or.inl rfl))) (fun _ _ _ _ _ => pts_nil) (fun _ _ _ _ _ => (pe_callB call_len_seq (by rfl) T.z_len PySem.boot_len (pa_cons (pv 2) pa_nil)))) rfl)), ?_⟩
  have lt := ht.rows.length
  have lu := hu.rows.length
  walk_at "go"
  refine lcAt_open ?_
  refine seqI_open ?_
  walk_at "go"
  obtain ⟨bu, hub⟩ := hu.at_
  obtain ⟨bt, htb⟩ := ht.at_
  refine ⟨p, bu, rfl, ⟨_, hub⟩, fun D hD => ?_⟩
  refine items_atE (F := RowE K) (fun e h => RowE.same e h) (fun r => .int r.length) hub (rowE_of hu.rows) hD (by rw [List.length_map]; omega) (fun x => rfl) ?_ ?_
  · rintro v r H1 e1 hr ⟨a, rfl, ha⟩ Q q
    walk_at "go"
    refine ⟨a, _, rfl, ha.either, ?_⟩
    rw [List.length_map]
    exact q H1 (Same.refl _)
  · intro H1 e1 hD1
    walk_at "go"
    refine lcAt_open ?_
    refine seqI_open ?_
    walk_at "go"
    refine ⟨g, bt, rfl, ⟨_, htb.same e1⟩, fun D2 hD2 => ?_⟩
    refine items_atE (F := RowE K) (fun e h => RowE.same e h) (fun r => .int r.length) (htb.same e1) (rowE_of (ht.same e1).rows) hD2 (by rw [List.length_map]; omega) (fun x => rfl) ?_ ?_
    · rintro v r H2 e2 hr ⟨a, rfl, ha⟩ Q q
      walk_at "go"
      refine ⟨a, _, rfl, ha.either, ?_⟩
      rw [List.length_map]
      exact q H2 (Same.refl _)
    · intro H2 e2 hD22
      have k1 : H2 D = some (.lst ((u.map fun r => (r.length : Int)).map V.int)) := by rw [e2 _ _ hD1, List.map_map]; rfl
      have k2 : H2 D2 = some (.lst ((t.map fun r => (r.length : Int)).map V.int)) := by rw [hD22, List.map_map]; rfl
      refine ⟨_, _, lst_dp k1, lst_dp k2, shaped_ints _, shaped_ints _, ?_⟩
      rw [show PyData.eqv (.list _) (.list _) = PyData.eqvAll _ _ from rfl, eqvAll_ints]
      rw [decide_eq_decide.mpr lens_inj]
      exact q H2 (e1.trans e2)
theorem sc_has_right_sums : FnScope ["table", "columns", "at", "row", "line"] ["table"] (defScope s_has_right_sums) := ⟨rfl, rfl, rfl, by decide +kernel, rfl, by decide +kernel, by decide +kernel⟩
theorem ok_has_right_sums (T : Tx K mg) : Ok P w K mg base 1 (He.ga K "has_right_sums") ["table"] (spRight K) := by
  obtain ⟨fd, F⟩ := T.f_has_right_sums
  refine ⟨fd, F.ok (k := 0) sc_has_right_sums (fun vs H Q E h => ?_) (fun cdv A outer s_ H vs Q E hr h => ?_), F.bindsN fun _ _ _ _ _ _ us hl => match us, hl with | [_], _ => rfl, F.kp⟩
  · obtain ⟨p, rs, u, m, n, rfl, hu, ⟨um, un⟩, m1, n1, m2, n2, q⟩ := h
    rfl
  obtain ⟨p, rs, u, m, n, rfl, hu, ⟨um, un⟩, m1, n1, m2, n2, q⟩ := h
  have hu65 := K3.Room.units65 hr
  have hu64 := Nat.lt_of_succ_lt hu65
  have hu0 := Nat.lt_of_le_of_lt (Nat.le_add_right _ 65) hu65
  refine ⟨_, pss_cons (by exact ps_setLc (i := 1) (own := [("at", 2)]) (g := gName 2) (tt := tYes) (te := (tLc (iSeq K (tVar 0)) (gName 3) tYes (tOp (rIxE K) (tVar 3) (tVar 2)) [3])) (by rfl) sc_has_right_sums.nd rfl rfl (by rfl) (pi_range1 rfl T.z_range (pa_cons (pe_callB call_len_seq (by rfl) T.z_len PySem.boot_len (pa_cons (pe_ix ix_e (pv 0) pe_int (fun _ _ => rfl)) pa_nil)) pa_nil)) (blkOk_by (own := [("at", 2)]) (N := ["table", "columns", "at", "row", "line"]) (sc := defScope s_has_right_sums) (by decide +kernel)) (fun _ _ _ _ _ => (pg_name (i := 2) sc_has_right_sums.nd rfl (Or.inr rfl))) (fun _ _ _ _ _ => pts_nil) (fun _ _ _ _ _ => (by exact pe_lc (own := [("row", 3)]) (g := gName 3) (tt := tYes) (te := (tOp (rIxE K) (tVar 3) (tVar 2))) (by rfl) sc_has_right_sums.nd (pi_seq (pv 0)) (blkOk_by (own := [("row", 3)]) (N := ["table", "columns", "at", "row", "line"]) (sc := { kind := .function, names := [(".0", .local), ("at", .cell), ("table", .cell)], isGenerator := false, isCoroutine := false }) (by decide +kernel)) (fun _ _ _ _ _ => (pg_name (i := 3) sc_has_right_sums.nd rfl (Or.inl rfl))) (fun _ _ _ _ _ => pts_nil) (fun _ _ _ _ _ => (pe_ix ix_e (pv 3) (pv 2) (fun _ _ => rfl))))))
      (pss_one (ps_ret (pe_callB (cr_all (by rfl)) (by rfl) T.z_all (by decide +kernel) (pa_cons (by exact pe_lc (own := [("line", 4)]) (g := gName 4) (tt := tYes) (te := (tOp rEq (tOp (rIxE K) (tVar 4) (tUn (rU fun i => .int (-i)) (tC (.int 1)))) (tCB (rSumE K) (tCons (tSl (rSlE K) (tVar 4) tNoPart (tPart (tUn (rU fun i => .int (-i)) (tC (.int 1))))) tNil)))) (by rfl) sc_has_right_sums.nd (pi_list (pe_op op_cat (pe_callTy call_list_of (by rfl) T.z_list (by decide +kernel) (pa_cons (pv 0) pa_nil)) (pv 1))) (blkOk_by (own := [("line", 4)]) (N := ["table", "columns", "at", "row", "line"]) (sc := defScope s_has_right_sums) (by decide +kernel)) (fun _ _ _ _ _ => (pg_name (i := 4) sc_has_right_sums.nd rfl (Or.inl rfl))) (fun _ _ _ _ _ => pts_nil) (fun _ _ _ _ _ => (pe_cmpR op_eq (pe_ix ix_e (pv 4) (pe_un un_neg pe_int) (fun _ _ => rfl)) (pe_callB (cr_sumE (by rfl)) (by rfl) T.z_sum (by decide +kernel) (pa_cons (pe_slice sl_e (pv 4) po_none (po_some (pe_un un_neg pe_int))) pa_nil)) rfl))) pa_nil)))), ?_⟩
  have lu := hu.rows.length
  obtain ⟨a0, r0, ha0, hr0, hx0⟩ := row_ofG hu (i := 0) (by omega)
  have ln : r0.length = n := un _ (List.mem_of_getElem? hr0)
  walk_at "go"
  refine lc_open ?_
  refine rng_open ?_
  walk_at "go"
  refine w_ixE hu.at_ (ref_at (i := 0) ha0) ?_
  walk_at "go"
  refine ⟨a0, _, rfl, hx0.either, ?_⟩
  rw [List.length_map, ln]
  refine ⟨_, rfl, by omega, by omega, fun D hD => ?_⟩
  rw [Int.toNat_natCast]
  refine lc_range (lo := 0) (n := n) (fun (i : Nat) H' => ∃ cs : List Addr, Same H H' ∧ H' D = some (.lst (cs.map V.ref)) ∧ Paired (RowAt H') cs ((List.range i).map (colOf u)) ∧ ∀ a ∈ cs, a ≠ D) ⟨[], Same.new hD _, upd_same, .nil, fun a ha => (by cases ha)⟩ ?_ ?_
  · rintro c H1 hc ⟨cs, e1, hD1, hp1, nd⟩
    rw [show (0 : Int) + (c : Int) = (c : Int) by omega]
    walk_at "go"
    refine ⟨rfl, ?_⟩
    walk_at "go"
    refine lcAt_open ?_
    refine seqI_open ?_
    walk_at "go"
    obtain ⟨bu, hub⟩ := hu.at_
    refine ⟨p, bu, rfl, ⟨_, hub.same e1⟩, fun D2 hD2 => ?_⟩
    refine items_atE (F := RowE K) (fun e h => RowE.same e h) (fun r => .int (r.getD c 0)) (hub.same e1) (rowE_of (hu.same e1).rows) hD2 (by rw [List.length_map]; omega) (fun x => rfl) ?_ ?_
    · rintro v r H2 e2 hr ⟨a, rfl, ha⟩ Q q
      walk_at "go"
      refine w_ixE ha (at_getD (by rw [un r hr]; exact hc)) ?_
      exact q H2 (Same.refl _)
    · intro H2 e2 hD22
      have lcs : cs.length ≤ 100 := by rw [hp1.length, List.length_map, List.length_range]; omega
      refine ⟨_, e2 _ _ hD1, Nat.lt_of_le_of_lt (show (cs.map V.ref).length ≤ 100 by rw [List.length_map]; exact lcs) (by decide), cs ++ [D2], (e1.trans e2).mut hD, by rw [upd_same, List.map_append]; rfl, ?_⟩
      have up : ∀ (a : Addr) (r : List Int), RowAt H1 a r → a ≠ D → RowAt (upd H2 D (.lst (cs.map V.ref ++ [.ref D2]))) a r := fun a r h ne => by
        show upd H2 D _ a = _
        rw [upd_ne ne]
        exact e2 _ _ h
      have D2D : D2 ≠ D := fun z => by rw [z, hD1] at hD2; cases hD2
      rw [List.range_succ, List.map_append]
      refine ⟨K3.Paired.app (paired_up hp1 fun a r ha h => up a r h (nd a ha)) (.cons ?_ .nil), fun a ha => ?_⟩
      · show upd H2 D _ D2 = _
        rw [upd_ne D2D, hD22]
        unfold colOf
        rw [List.map_map]
        rfl
      · rcases List.mem_append.mp ha with ha | ha
        · exact nd a ha
        · rw [List.mem_singleton.mp ha]; exact D2D
  · rintro H1 ⟨cs, e1, hD1, hp1, nd⟩
    have lcs : cs.length = n := by rw [hp1.length, List.length_map, List.length_range]
    walk_at "go"
    refine lcAt_open ?_
    refine list_open ?_
    walk_at "go"
    refine ⟨p, _, rfl, (hu.at_.same e1).either, fun l hl => ?_⟩
    have e2 := Same.new hl (.lst (rs.map V.ref))
    walk_at "go"
    refine ⟨l, D, rs.map V.ref, cs.map V.ref, rfl, rfl, upd_same, e2 _ _ hD1, Nat.le_trans (show _ ≤ 200 by rw [List.length_map, List.length_map]; omega) (by decide), fun l2 hl2 => ?_⟩
    have e3 := Same.new hl2 (.lst (rs.map V.ref ++ cs.map V.ref))
    have e13 := e1.trans (e2.trans e3)
    have ht4 : GT K (upd (upd H1 l (.lst (rs.map V.ref))) l2 (.lst (rs.map V.ref ++ cs.map V.ref))) l2 (rs ++ cs) (u ++ (List.range n).map (colOf u)) := ⟨.lst (by rw [upd_same, List.map_append]), K3.Paired.app (hu.same e13).rows (L2.Paired.mapP hp1 fun _ _ z => .lst ((e2.trans e3) _ _ z))⟩
    have h42 : SqL K (upd (upd H1 l (.lst (rs.map V.ref))) l2 (.lst (rs.map V.ref ++ cs.map V.ref))) l2 ((rs ++ cs).map V.ref) := SqL.of (by rw [upd_same, List.map_append])
    refine ⟨l2, rfl, ⟨_, h42⟩, fun D2 hD2 => ?_⟩
    refine items_at (F := RowE K) (fun e h => RowE.same e h) (fun r => .bl (decide (r.getLastD 0 = r.dropLast.sum))) h42 (rowE_of ht4.rows) hD2 (by rw [List.length_map, List.length_append]; omega) (fun x => rfl) ?_ ?_
    · rintro v r H2 e4 hr ⟨a, rfl, ha⟩ Q q
      have rne : r ≠ [] := by
        intro z
        rw [z] at hr
        rcases List.mem_append.mp hr with hr | hr
        · have := un _ hr
          simp at this
          omega
        · obtain ⟨c, _, hc⟩ := List.mem_map.mp hr
          unfold colOf at hc
          have := List.map_eq_nil_iff.mp hc
          rw [this] at um
          simp at um
          omega
      walk_at "go"
      refine ⟨1, rfl, ?_⟩
      refine w_ixE ha (at_last rne) ?_
      walk_at "go"
      refine ⟨1, rfl, ?_⟩
      walk_at "go"
      refine w_slLast ha (by simpa using rne) fun l3 H5 hl3 e5 h5 => ?_
      refine ⟨l3, r.dropLast, rfl, by rw [List.map_dropLast]; exact h5, ?_⟩
      refine w_eqI ?_
      rw [decV]
      exact q _ e5
    · intro H2 e4 hD3
      refine ⟨D2, (u ++ (List.range n).map (colOf u)).map fun r => decide (r.getLastD 0 = r.dropLast.sum), rfl, SqL.of (by rw [hD3, List.map_map]; rfl), ?_⟩
      refine q _ H2 (e13.trans (( Same.refl _).trans e4)) ?_
      rw [List.all_eq_true]
      unfold Right RightCol
      constructor
      · intro h
        have h' : ∀ r ∈ u ++ (List.range n).map (colOf u), r.getLastD 0 = r.dropLast.sum := fun r hr => of_decide_eq_true (h _ (List.mem_map.mpr ⟨r, hr, rfl⟩))
        exact ⟨fun r hr => h' r (List.mem_append_left _ hr), fun c hc => h' _ (List.mem_append_right _ (List.mem_map.mpr ⟨c, List.mem_range.mpr hc, rfl⟩))⟩
      · rintro ⟨h1, h2⟩ b hb
        obtain ⟨r, hr, rfl⟩ := List.mem_map.mp hb
        refine decide_eq_true ?_
        rcases List.mem_append.mp hr with hr | hr
        · exact h1 r hr
        · obtain ⟨c, hc, rfl⟩ := List.mem_map.mp hr
          exact h2 c (List.mem_range.mp hc)
end
end K3
end C5_part
section C6_part
set_option Elab.async false
set_option linter.all false
set_option maxRecDepth 100000
set_option maxHeartbeats 1000000
set_option pp.deepTerms.threshold 5
open PySem PySem.Spec PyProof.Rows L2
/-- go on as far as nothing is open -/
local macro_rules | `(tactic| walk_at "go") => `(tactic| repeat (first
  | with_reducible refine w_seq ?_ | with_reducible refine w_next ?_ | with_reducible refine w_set ?_ | with_reducible refine w_drop ?_ | with_reducible refine w_ret ?_ | with_reducible refine w_retN ?_
  | with_reducible refine w_if ?_ | ((with_reducible refine' w_var ?hv ?_); (case hv => exact rfl)) | with_reducible refine w_c ?_ | with_reducible refine w_nil ?_ | with_reducible refine w_cons ?_ | with_reducible refine w_op ?_ | with_reducible refine w_un ?_
  | with_reducible refine w_test ?_ | with_reducible refine w_tB ?_ | with_reducible refine w_not ?_ | with_reducible refine w_and ?_ | with_reducible refine w_or ?_ | with_reducible refine w_bl ?_
  | with_reducible refine w_andV ?_ | with_reducible refine w_orV ?_ | with_reducible refine w_notV ?_ | with_reducible refine w_ifE ?_ | with_reducible refine w_chain ?_ | with_reducible refine w_i0 ?_
  | with_reducible refine w_call ?_ | with_reducible refine w_callS ?_ | with_reducible refine w_cB ?_ | with_reducible refine w_tup ?_ | with_reducible refine w_lst ?_ | with_reducible refine w_fldV ?_
  | with_reducible refine w_neF ?_ | with_reducible refine w_neT ?_ | with_reducible refine w_notN ?_ | with_reducible refine w_isN ?_ | with_reducible refine w_gname ?_ | with_reducible refine w_gsub ?_ | with_reducible refine w_asg ?_ | with_reducible refine w_sl ?_ | with_reducible refine w_noP ?_ | with_reducible refine w_int1 ?_ | with_reducible refine w_part ?_ | with_reducible refine w_yes ?_ | with_reducible refine w_nT ?_ | with_reducible refine w_nF ?_ | with_reducible refine w_iteT ?_ | with_reducible refine w_iteF ?_))
namespace K3
/-- the table u fits the grid t, whose hidden cells are hs -/
def Fit (t : List (List Int)) (hs : List (Nat × Nat)) (u : List (List Int)) (m n : Nat) : Prop :=
  Rect u m n ∧ (∀ r ∈ u, ∀ x ∈ r, 0 ≤ x) ∧ Right u n ∧ ∀ i < m, ∀ j < n, (i, j) ∉ hs → at2 u i j = at2 t i j
def spFits (K : PySem.W.Frag) : Sp := fun vs H Q _ => ∃ (g p : Addr) (v : V) (rs rs' : List Addr) (t u : List (List Int)) (m n m' n' : Nat) (hs : List (Nat × Nat)), vs = [.ref g, v, .ref p] ∧ GT K H g rs t ∧ Rect t m n ∧ 1 ≤ m ∧ 1 ≤ n ∧ m ≤ 60 ∧ n ≤ 60 ∧ HidIn K H v hs m n ∧ GT K H p rs' u ∧ Rect u m' n' ∧ 1 ≤ m' ∧ 1 ≤ n' ∧ m' ≤ 60 ∧ n' ≤ 60 ∧
  ∀ b H', Same H H' → (b = true ↔ Fit t hs u m n) → Q (.bl b) H'
theorem wide_iff {t u : List (List Int)} {m n m' n' : Nat} (ht : Rect t m n) (hu : Rect u m' n') (m1 : 1 ≤ m') : u.map List.length = t.map List.length ↔ Rect u m n := by
  have e1 : ∀ {t : List (List Int)} {m n : Nat}, Rect t m n → t.map List.length = List.replicate m n := by
    intro t m n h
    rw [← h.1]
    exact List.eq_replicate_iff.mpr ⟨by rw [List.length_map], fun b hb => by
      obtain ⟨r, hr, rfl⟩ := List.mem_map.mp hb
      exact h.2 r hr⟩
  constructor
  · intro h
    have l : u.length = t.length := by simpa using congrArg List.length h
    refine ⟨by rw [l, ht.1], fun r hr => ?_⟩
    have : r.length ∈ t.map List.length := by rw [← h]; exact List.mem_map.mpr ⟨r, hr, rfl⟩
    rw [e1 ht] at this
    exact (List.mem_replicate.mp this).2
  · intro h
    rw [e1 h, e1 ht]
theorem flat_len {α : Type} {f : Int → α} {k : Nat} : ∀ {u : List (List Int)}, (∀ r ∈ u, r.length ≤ k) → (u.flatMap fun r => r.map f).length ≤ u.length * k
  | [], _ => Nat.zero_le _
  | r :: u, h => by
    have i := flat_len (f := f) (u := u) fun r hr => h r (List.mem_cons_of_mem _ hr)
    have j := h r (List.mem_cons_self ..)
    simp only [List.flatMap_cons, List.length_append, List.length_map, List.length_cons, Nat.succ_mul]
    omega
theorem cellV_at {K : PySem.W.Frag} {D a : Addr} {ws : List V} {cs : List (Nat × Nat)} {te : TE} {vs : List Nat} {σ : L2.St} {j : Nat} {H1 : Hp} {Qd : Hp → Prop} (f : Nat × Nat → V) (ha : H1 a = some (.lst ws)) (hp : Paired (CellAt H1) ws cs) (hlen : ws.length ≤ 10000) (hD : H1 D = none) (hw : ∀ x, wipe ((wipe σ vs).set j (some x)) vs = wipe σ vs)
    (he : ∀ (v : V) (c : Nat × Nat) (H' : Hp), Same H1 H' → c ∈ cs → CellAt H' v c → ∀ Q : VK, (∀ H'', Same H' H'' → Q (f c) H'') → te ((wipe σ vs).set j (some v)) H' Q)
    (hd : ∀ H', Same H1 H' → H' D = some (.lst (cs.map f)) → Qd H') : LcAt (Itl K a) D (gName j) tYes te vs σ H1 Qd :=
  items_at (F := CellAt) (fun e h => CellAt.same e h) f (SqL.of ha) hp hD hlen hw he hd
theorem cells_keep {K : PySem.W.Frag} {D a : Addr} {ws : List V} {cs : List (Nat × Nat)} {tt : TT} {te : TE} {vs : List Nat} {σ : L2.St} {j : Nat} {H1 : Hp} {Qd : Hp → Prop} (b : Nat × Nat → Bool) (ha : H1 a = some (.lst ws)) (hp : Paired (CellAt H1) ws cs) (hlen : ws.length ≤ 10000) (hD : H1 D = none) (hw : ∀ x, wipe ((wipe σ vs).set j (some x)) vs = wipe σ vs)
    (ht : ∀ (v : V) (c : Nat × Nat) (H' : Hp), Same H1 H' → c ∈ cs → CellAt H' v c → ∀ Q : Bool → Hp → Prop, (∀ H'', Same H' H'' → Q (b c) H'') → tt ((wipe σ vs).set j (some v)) H' Q)
    (he : ∀ (v : V) (H' : Hp) (Q : VK), Q v H' → te ((wipe σ vs).set j (some v)) H' Q)
    (hd : ∀ H' zs, Same H1 H' → H' D = some (.lst zs) → Paired (CellAt H') zs (cs.filter b) → Qd H') : LcAt (Itl K a) D (gName j) tt te vs σ H1 Qd :=
  items_keep (F := CellAt) (fun e h => CellAt.same e h) b (SqL.of ha) hp hD hlen hw ht he hd
theorem CellAt.list {H : Hp} {p : Addr} {ws : List V} {hs : List (Nat × Nat)} (h : Paired (CellAt H) ws hs) : ∀ {i : Nat} {v : V}, ws[i]? = some v → ∃ c, hs[i]? = some c ∧ CellAt H v c := fun e => K3.Paired.get h e
section
variable {P : Program} {w : World} {K : PySem.W.Frag} {mg : Str → Option Value} {base : Heap}
theorem sc_fits : FnScope ["grid", "hidden", "table", "cells", "shown", "cell", "row", "number"] ["grid", "hidden", "table"] (defScope s_fits) := ⟨rfl, rfl, rfl, by decide +kernel, rfl, by decide +kernel, by decide +kernel⟩
theorem ok_fits (T : Tx K mg) : Ok P w K mg base 3 (He.ga K "fits") ["grid", "hidden", "table"] (spFits K) := by
  obtain ⟨fd, F⟩ := T.f_fits
  have Onumber_at := ok_number_at (P := P) (w := w) (base := base) T
  have Ocells_of := ok_cells_of (P := P) (w := w) (base := base) T
  have Ohas_right_sums := ok_has_right_sums (P := P) (w := w) (base := base) T
  have Ois_as_wide := ok_is_as_wide (P := P) (w := w) (base := base) T
  have Oread_hidden := ok_read_hidden (P := P) (w := w) (base := base) T
  refine ⟨fd, F.ok (k := 2) sc_fits (fun vs H Q E h => ?_) (fun cdv A outer s_ H vs Q E hr h => ?_), F.bindsN fun _ _ _ _ _ _ us hl => match us, hl with | [_, _, _], _ => rfl, F.kp⟩
  · obtain ⟨g, p, v, rs, rs', t, u, m, n, m', n', hs, rfl, ht, hR, m1, n1, m2, n2, hh, hu, hU, m1', n1', m2', n2', q⟩ := h
    rfl
  obtain ⟨g, p, v, rs, rs', t, u, m, n, m', n', hs, rfl, ht, hR, m1, n1, m2, n2, hh, hu, hU, m1', n1', m2', n2', q⟩ := h
  have hu65 := K3.Room.units65 hr
  have hu64 := Nat.lt_of_succ_lt hu65
  have hu0 := Nat.lt_of_le_of_lt (Nat.le_add_right _ 65) hu65
  have rnumber_at : Room 1 _ := hr.mono (by decide)
  have rcells_of : Room 1 _ := hr.mono (by decide)
  have rhas_right_sums : Room 1 _ := hr.mono (by decide)
  have ris_as_wide : Room 1 _ := hr.mono (by decide)
  have rread_hidden : Room 2 _ := hr.mono (by decide)
  refine ⟨_, pss_cons (ps_set (i := 3) sc_fits.nd rfl (Or.inr rfl) (pe_f Oread_hidden rread_hidden T.g_read_hidden (pa_cons (pv 0) (pa_cons (pv 1) pa_nil))))
      (pss_cons (ps_if (pt_not (pt_val (pe_f Ois_as_wide ris_as_wide T.g_is_as_wide (pa_cons (pv 0) (pa_cons (pv 2) pa_nil))))) (pss_one (ps_ret pe_bl)) pss_nil)
      (pss_cons (ps_if (pw_or (pt_val (pe_callB (cr_any (by rfl)) (by rfl) T.z_any (by decide +kernel) (pa_cons (by exact pe_lc2 (own := [("row", 6), ("number", 7)]) (vs1 := [7]) (g := gName 6) (tt := tYes) (wi1 := (iSeq K (tVar 6))) (g1 := gName 7) (tt1 := tYes) (te := (tOp (rI0 fun i j => .bl (decide (i < j))) (tVar 7) (tC (.int 0)))) (by rfl) sc_fits.nd (pi_seq (pv 2)) (blkOk_by (own := [("row", 6), ("number", 7)]) (N := ["grid", "hidden", "table", "cells", "shown", "cell", "row", "number"]) (sc := defScope s_fits) (by decide +kernel)) (by decide) (fun _ _ _ _ _ => (pg_name (i := 6) sc_fits.nd rfl (Or.inl rfl))) (fun _ _ _ _ _ => pts_nil) (fun _ _ _ _ _ => (pi_seq (pv 6))) (fun _ _ _ _ _ => (pg_name (i := 7) sc_fits.nd rfl (Or.inl rfl))) (fun _ _ _ _ _ => pts_nil) (fun _ _ _ _ _ => (pe_cmpR op_lt (pv 7) pe_int rfl))) pa_nil))) (pw_or1 (pt_not (pt_val (pe_f Ohas_right_sums rhas_right_sums T.g_has_right_sums (pa_cons (pv 2) pa_nil)))))).pt (pss_one (ps_ret pe_bl)) pss_nil)
      (pss_cons (by exact ps_setLc (i := 4) (own := [("cell", 5)]) (g := gName 5) (tt := (tTest (tOp (rNotInC K) (tVar 5) (tVar 3)))) (te := (tVar 5)) (by rfl) sc_fits.nd rfl rfl (by rfl) (pi_list (pe_f Ocells_of rcells_of T.g_cells_of (pa_cons (pv 0) pa_nil))) (blkOk_by (own := [("cell", 5)]) (N := ["grid", "hidden", "table", "cells", "shown", "cell", "row", "number"]) (sc := defScope s_fits) (by decide +kernel)) (fun _ _ _ _ _ => (pg_name (i := 5) sc_fits.nd rfl (Or.inl rfl))) (fun _ _ _ _ _ => (pts_one (pt_cmpR (op_notInC hu65) (pv 5) (pv 3) (by rfl)))) (fun _ _ _ _ _ => (pv 5)))
      (pss_one (ps_ret (pe_callB (cr_all (by rfl)) (by rfl) T.z_all (by decide +kernel) (pa_cons (by exact pe_lc (own := [("cell", 5)]) (g := gName 5) (tt := tYes) (te := (tOp rEq (tCall (spNum K) [] E0 (tCons (tVar 2) (tCons (tVar 5) tNil))) (tCall (spNum K) [] E0 (tCons (tVar 0) (tCons (tVar 5) tNil))))) (by rfl) sc_fits.nd (pi_list (pv 4)) (blkOk_by (own := [("cell", 5)]) (N := ["grid", "hidden", "table", "cells", "shown", "cell", "row", "number"]) (sc := defScope s_fits) (by decide +kernel)) (fun _ _ _ _ _ => (pg_name (i := 5) sc_fits.nd rfl (Or.inl rfl))) (fun _ _ _ _ _ => pts_nil) (fun _ _ _ _ _ => (pe_cmpR op_eq (pe_f Onumber_at rnumber_at T.g_number_at (pa_cons (pv 2) (pa_cons (pv 5) pa_nil))) (pe_f Onumber_at rnumber_at T.g_number_at (pa_cons (pv 0) (pa_cons (pv 5) pa_nil))) rfl))) pa_nil))))))), ?_⟩
  walk_at "go"
  refine ⟨g, v, rs, t, m, n, hs, rfl, ht, hR, m1, n1, m2, n2, hh, fun p1 H1 ws1 hs1 e1 h1 hw1 hs1m hl1 _ => ?_⟩
  walk_at "go"
  have lt : t.length = m := hR.1
  have lu : u.length = m' := hU.1
  refine ⟨g, p, rs, rs', t, u, rfl, ht.same e1, hu.same e1, by omega, by omega, fun H2 e2 => ?_⟩
  walk_at "go"
  have e02 := e1.trans e2
  by_cases c0 : u.map List.length = t.map List.length
  · have hRu : Rect u m n := (wide_iff hR hU m1').mp c0
    rw [decide_eq_true c0]
    walk_at "go"
    refine lc2_open ?_
    refine seqI_open ?_
    walk_at "go"
    have hu2 := hu.same e02
    have lru := hu2.rows.length
    obtain ⟨bu, hub⟩ := hu2.at_
    refine ⟨p, bu, rfl, ⟨_, hub⟩, fun D hD => ?_⟩
    refine lc2_it (n := (rs'.map V.ref).length) (walk_B (b := bu)) (fun (i : Nat) H' => Same H2 H' ∧ H' D = some (.lst (((u.take i).flatMap fun r => r.map fun x => decide (x < 0)).map V.bl))) ⟨Same.new hD _, upd_same⟩ (fun i H' _ z => hub.same z.1) ?_ ?_
    · rintro i x H3 H4 hi ⟨e3, hD3⟩ ⟨rfl, hx⟩
      obtain ⟨a, ha, rfl⟩ := map_ref hx
      obtain ⟨r, hr, hra⟩ := K3.Paired.get hu2.rows ha
      obtain ⟨br, hrb0⟩ := hra
      have hrb := hrb0.same e3
      have lr : r.length = n := hRu.2 r (List.mem_of_getElem? hr)
      walk_at "go"
      refine ⟨rfl, ?_⟩
      walk_at "go"
      refine seqI_open ?_
      walk_at "go"
      refine ⟨a, br, rfl, ⟨_, hrb⟩, ?_⟩
      refine in1_it (n := (r.map V.int).length) (walk_B (b := br)) (fun (j : Nat) H' => Same H2 H' ∧ H' D = some (.lst ((((u.take i).flatMap fun r => r.map fun x => decide (x < 0)) ++ (r.take j).map fun x => decide (x < 0)).map V.bl))) ⟨e3, by rw [hD3, List.take_zero]; simp⟩ (fun j H' _ z => hrb0.same z.1) ?_ ?_
      · rintro j x H5 H6 hj ⟨e5, hD5⟩ ⟨rfl, hx5⟩
        rw [List.getElem?_map] at hx5
        cases hy : r[j]? with
        | none => rw [hy] at hx5; cases hx5
        | some y =>
          rw [hy] at hx5
          obtain rfl := (Option.some.inj hx5).symm
          walk_at "go"
          refine ⟨rfl, ?_⟩
          walk_at "go"
          refine ⟨_, hD5, Nat.lt_of_le_of_lt (show _ ≤ 100000 from ?_) (by decide), e5.mut hD, ?_⟩
          · have f1 := flat_len (f := fun x => decide (x < 0)) (k := n) (u := u.take i) fun r hr => Nat.le_of_eq (hRu.2 r (List.mem_of_mem_take hr))
            have f2 : (u.take i).length * n ≤ 60 * 60 := Nat.mul_le_mul (by rw [List.length_take]; omega) n2
            rw [List.length_map, List.length_append, List.length_map, List.length_take]
            omega
          · rw [upd_same, List.take_add_one, hy]
            simp
      · rintro H5 ⟨e5, hD5⟩
        refine ⟨e5, ?_⟩
        rw [hD5, List.length_map, List.take_length, List.take_add_one, hr]
        simp
    · rintro H3 ⟨e3, hD3⟩
      rw [List.length_map, lru, List.take_length] at hD3
      walk_at "go"
      refine ⟨D, _, rfl, SqL.of hD3, ?_⟩
      have e03 := e02.trans e3
      have any_iff : ((u.flatMap fun r => r.map fun x => decide (x < 0)).any id = true) ↔ ∃ r ∈ u, ∃ x ∈ r, x < 0 := by
        rw [List.any_eq_true]
        simp only [List.mem_flatMap, List.mem_map, id]
        constructor
        · rintro ⟨b, ⟨r, hr, x, hx, rfl⟩, hb⟩
          exact ⟨r, hr, x, hx, of_decide_eq_true hb⟩
        · rintro ⟨r, hr, x, hx, hb⟩
          exact ⟨_, ⟨r, hr, x, hx, rfl⟩, decide_eq_true hb⟩
      walk_at "go"
      by_cases c1 : ∃ r ∈ u, ∃ x ∈ r, x < 0
      · rw [any_iff.mpr c1]
        walk_at "go"
        refine q false H3 e03 ⟨fun h => (by cases h), fun h => ?_⟩
        obtain ⟨r, hr, x, hx, hb⟩ := c1
        have := h.2.1 r hr x hx
        omega
      · rw [Bool.eq_false_iff.mpr (fun z => c1 (any_iff.mp z))]
        have nonneg : ∀ r ∈ u, ∀ x ∈ r, 0 ≤ x := fun r hr x hx => by
          by_cases c : 0 ≤ x
          · exact c
          · exact absurd ⟨r, hr, x, hx, by omega⟩ c1
        walk_at "go"
        refine ⟨p, rs', u, m, n, rfl, hu.same e03, hRu, m1, n1, by omega, by omega, fun b H4 e4 hb => ?_⟩
        have e04 := e03.trans e4
        walk_at "go"
        cases b with
        | false =>
          walk_at "go"
          refine q false H4 e04 ⟨fun h => (by cases h), fun h => hb.mpr h.2.2.1⟩
        | true =>
          have right := hb.mp rfl
          walk_at "go"
          refine lcAt_open ?_
          refine list_open ?_
          walk_at "go"
          refine ⟨g, rs, t, m, n, rfl, ht.same e04, hR, m1, by omega, by omega, fun p5 H5 ws5 e5 hp5 h5 hw5 => ?_⟩
          refine ⟨p5, rfl, ⟨_, SqL.of h5⟩, fun D6 hD6 => ?_⟩
          have l5 : ws5.length ≤ 3600 := by
            rw [hw5.length, cells_len]
            exact Nat.mul_le_mul m2 n2
          have e15 := e2.trans (e3.trans (e4.trans e5))
          have lim : ∀ c ∈ hs1, c.1 < 1000 ∧ c.2 < 1000 := fun c hc => by
            obtain ⟨pp, wss, _, _, _, hmem, _⟩ := hh
            have := drop_mem m1 n1 (hmem c ((hs1m c).mp hc))
            omega
          refine cells_keep (fun c => !decide (c ∈ hs1)) h5 hw5 (by omega) hD6 (fun x => rfl) ?_ ?_ ?_
          · intro v c H6 e6 hc hv Q q
            have hcb := cells_mem.mp hc
            walk_at "go"
            have e16 := e15.trans e6
            refine ⟨p1, ws1, hs1, c, hv, rfl, .inl (SqL.of (e16 _ _ h1)), L2.Paired.mapP hw1 fun _ _ z => z.same e16, by omega, lim, ⟨by omega, by omega⟩, ?_⟩
            exact ⟨_, rfl, q H6 (Same.refl _)⟩
          · intro v H6 Q q
            walk_at "go"
            exact q
          · intro H6 zs e6 hD66 hz
            walk_at "go"
            refine lcAt_open ?_
            refine list_open ?_
            walk_at "go"
            refine ⟨D6, rfl, ⟨_, SqL.of hD66⟩, fun D7 hD7 => ?_⟩
            have e06 := e04.trans (e5.trans e6)
            refine cellV_at (fun c => .bl (decide (at2 u c.1 c.2 = at2 t c.1 c.2))) hD66 hz ?_ hD7 (fun x => rfl) ?_ ?_
            · rw [hz.length]
              refine Nat.le_trans (List.length_filter_le _ _) ?_
              rw [← hw5.length]
              omega
            · intro v c H7 e7 hc hv Q q
              have hcb := cells_mem.mp (List.mem_filter.mp hc).1
              have e07 := e06.trans e7
              walk_at "go"
              refine ⟨p, v, rs', u, m, n, c.1, c.2, rfl, hu.same e07, hRu, hv, hcb.1, hcb.2, ?_⟩
              walk_at "go"
              refine ⟨g, v, rs, t, m, n, c.1, c.2, rfl, ht.same e07, hR, hv, hcb.1, hcb.2, ?_⟩
              refine w_eqI ?_
              rw [decV]
              exact q H7 (Same.refl _)
            · intro H7 e7 hD77
              refine ⟨D7, ((cellsOf m n).filter fun c => !decide (c ∈ hs1)).map fun c => decide (at2 u c.1 c.2 = at2 t c.1 c.2), rfl, SqL.of (by rw [hD77, List.map_map]; rfl), ?_⟩
              refine q _ H7 (e06.trans e7) ?_
              rw [List.all_eq_true]
              constructor
              · intro h
                refine ⟨hRu, nonneg, right, fun i hi j hj hn => ?_⟩
                exact of_decide_eq_true (h _ (List.mem_map.mpr ⟨(i, j), List.mem_filter.mpr ⟨cells_mem.mpr ⟨hi, hj⟩, by simpa using fun z => hn ((hs1m _).mp z)⟩, rfl⟩))
              · rintro ⟨_, _, _, h⟩ b hb
                obtain ⟨c, hc, rfl⟩ := List.mem_map.mp hb
                obtain ⟨c1, c2⟩ := List.mem_filter.mp hc
                obtain ⟨c3, c4⟩ := cells_mem.mp c1
                refine decide_eq_true (h c.1 c3 c.2 c4 fun z => ?_)
                have : c ∈ hs1 := (hs1m _).mpr z
                simp [this] at c2
  · rw [decide_eq_false c0]
    walk_at "go"
    refine q false H2 e02 ?_
    constructor
    · intro h; cases h
    · intro h
      exact absurd ((wide_iff hR hU m1').mpr h.1) c0
end
end K3
end C6_part
section C7_part
set_option Elab.async false
set_option linter.all false
set_option maxRecDepth 100000
set_option maxHeartbeats 1000000
set_option pp.deepTerms.threshold 5
open PySem PySem.Spec PyProof.Rows L2
/-- go on as far as nothing is open -/
local macro_rules | `(tactic| walk_at "go") => `(tactic| repeat (first
  | with_reducible refine w_seq ?_ | with_reducible refine w_next ?_ | with_reducible refine w_set ?_ | with_reducible refine w_drop ?_ | with_reducible refine w_ret ?_ | with_reducible refine w_retN ?_
  | with_reducible refine w_if ?_ | ((with_reducible refine' w_var ?hv ?_); (case hv => exact rfl)) | with_reducible refine w_c ?_ | with_reducible refine w_nil ?_ | with_reducible refine w_cons ?_ | with_reducible refine w_op ?_ | with_reducible refine w_un ?_
  | with_reducible refine w_test ?_ | with_reducible refine w_tB ?_ | with_reducible refine w_not ?_ | with_reducible refine w_and ?_ | with_reducible refine w_or ?_ | with_reducible refine w_bl ?_
  | with_reducible refine w_andV ?_ | with_reducible refine w_orV ?_ | with_reducible refine w_notV ?_ | with_reducible refine w_ifE ?_ | with_reducible refine w_chain ?_ | with_reducible refine w_i0 ?_
  | with_reducible refine w_call ?_ | with_reducible refine w_callS ?_ | with_reducible refine w_cB ?_ | with_reducible refine w_tup ?_ | with_reducible refine w_lst ?_ | with_reducible refine w_fldV ?_
  | with_reducible refine w_neF ?_ | with_reducible refine w_neT ?_ | with_reducible refine w_notN ?_ | with_reducible refine w_isN ?_ | with_reducible refine w_gname ?_ | with_reducible refine w_gsub ?_ | with_reducible refine w_asg ?_ | with_reducible refine w_sl ?_ | with_reducible refine w_noP ?_ | with_reducible refine w_int1 ?_ | with_reducible refine w_part ?_ | with_reducible refine w_yes ?_ | with_reducible refine w_nT ?_ | with_reducible refine w_nF ?_ | with_reducible refine w_iteT ?_ | with_reducible refine w_iteF ?_))
namespace K3
theorem w_neI {i j : Int} {H : Hp} {Q : VK} (h : Q (.bl (!decide (i = j))) H) : rNe (.int i) (.int j) H Q := ⟨rfl, by rw [decV]; exact h⟩
theorem cells_split {m n : Nat} (m1 : 1 ≤ m) (n1 : 1 ≤ n) : cellsOf m n = (cellsOf m n).dropLast ++ [(m - 1, n - 1)] := by
  obtain ⟨m, rfl⟩ : ∃ k, m = k + 1 := ⟨m - 1, by omega⟩
  obtain ⟨n, rfl⟩ : ∃ k, n = k + 1 := ⟨n - 1, by omega⟩
  rw [cells_last, Nat.add_sub_cancel, Nat.add_sub_cancel]
  unfold cellsOf rowCells
  rw [List.range_succ (n := m), List.flatMap_append, List.flatMap_cons, List.flatMap_nil, List.append_nil, List.append_assoc]
  congr 1
  rw [List.range_succ (n := n), List.map_append]
  rfl
theorem Tab.take {H : Hp} {p : Addr} {rs : List Addr} {t : List (List Int)} (h : Paired (RowAt H) rs t) : Paired (RowAt H) rs.dropLast t.dropLast := paired_drop h
theorem last_row {H : Hp} {rs : List Addr} {t : List (List Int)} (h : Paired (RowAt H) rs t) (ne : t ≠ []) : ∃ a r, rs[rs.length - 1]? = some a ∧ t = t.dropLast ++ [r] ∧ RowAt H a r ∧ atI (rs.map V.ref) (-1) = some (.ref a) := by
  have l := h.length
  have l0 : t.length ≠ 0 := fun z => ne (List.length_eq_zero_iff.mp z)
  have rne : rs ≠ [] := fun z => by rw [z] at l; exact l0 l.symm
  obtain ⟨as, a, rfl⟩ : ∃ as a, rs = as ++ [a] := ⟨rs.dropLast, rs.getLast rne, (List.dropLast_concat_getLast rne).symm⟩
  obtain ⟨ts, r, rfl⟩ : ∃ ts r, t = ts ++ [r] := ⟨t.dropLast, t.getLast ne, (List.dropLast_concat_getLast ne).symm⟩
  have hl : as.length = ts.length := by simpa using l
  obtain ⟨y, hy, hr⟩ := K3.Paired.get h (i := as.length) (x := a) (by simp)
  rw [hl] at hy
  simp at hy
  subst hy
  exact ⟨a, r, by simp, by rw [List.dropLast_concat], hr, by rw [List.map_append]; exact atI_last _ _⟩
theorem col_drop (u : List (List Int)) (c : Nat) : colOf u.dropLast c = (colOf u c).dropLast := by unfold colOf; rw [List.map_dropLast]
theorem col_last {u : List (List Int)} {r : List Int} (h : u = u.dropLast ++ [r]) (c : Nat) : (colOf u c).getLastD 0 = r.getD c 0 := by
  rw [h]
  unfold colOf
  rw [List.map_append]
  exact List.getLastD_concat ..
def rowOk (r : List Int) : Prop := (∀ x ∈ r, 0 ≤ x) ∧ r.getLastD 0 = r.dropLast.sum
end K3

namespace K3
/-! ### tables that are the def's own -/
structure Mine (s : Addr) (H0 H : Hp) (p : Addr) (rs : List Addr) (t : List (List Int)) (m n : Nat) : Prop where
  tab : Tab H p rs t
  rect : Rect t m n
  nd : rs.Nodup
  ne : p ∉ rs
  fr : ∀ r ∈ rs, H0 r = none
  p0 : H0 p = none
  bm : BM [s] H0 H
  src : Src H s
  s0 : Src H0 s
theorem Mine.notS {s : Addr} {H0 H : Hp} {p : Addr} {rs : List Addr} {t : List (List Int)} {m n : Nat} (h : Mine s H0 H p rs t m n) : p ≠ s ∧ ∀ r ∈ rs, r ≠ s := ⟨src_ne h.s0 h.p0, fun r hr => src_ne h.s0 (h.fr r hr)⟩
theorem Tab.bm {s : Addr} {H H1 : Hp} {p : Addr} {rs : List Addr} {t : List (List Int)} (h : Tab H p rs t) (e : BM [s] H H1) (hp : p ≠ s) (hr : ∀ r ∈ rs, r ≠ s) : Tab H1 p rs t :=
  ⟨e.at h.at_ (by simpa using hp), paired_up h.rows fun r row hm z => e.at z (by simpa using hr r hm)⟩
theorem Mine.draw {s : Addr} {H0 H H1 : Hp} {p : Addr} {rs : List Addr} {t : List (List Int)} {m n : Nat} (h : Mine s H0 H p rs t m n) (e : BM [s] H H1) (q : Src H1 s) : Mine s H0 H1 p rs t m n :=
  ⟨h.tab.bm e h.notS.1 h.notS.2, h.rect, h.nd, h.ne, h.fr, h.p0, h.bm.trans e, q, h.s0⟩
theorem Mine.same {s : Addr} {H0 H H1 : Hp} {p : Addr} {rs : List Addr} {t : List (List Int)} {m n : Nat} (h : Mine s H0 H p rs t m n) (e : Same H H1) : Mine s H0 H1 p rs t m n := h.draw (BM.of e) (h.src.same e)
/-- one number of it set anew -/
theorem paired_set {α β : Type} {F G : α → β → Prop} : ∀ {xs : List α} {ys : List β}, Paired F xs ys → ∀ {i : Nat} {a : α} {b : β}, xs[i]? = some a → G a b → (∀ j x y, j ≠ i → xs[j]? = some x → F x y → G x y) → Paired G xs (ys.set i b)
  | _, _, .nil, i, a, b, h, _, _ => by simp at h
  | _, _, .cons (a := x) (b := y) h t, 0, a, b, e, hb, k => by
    have : x = a := by simpa using e
    subst this
    refine .cons hb ?_
    exact go t fun j x y hx z => k (j + 1) x y (by omega) (by simpa using hx) z
  | _, _, .cons (a := x) (b := y) h t, i + 1, a, b, e, hb, k => by
    refine .cons (k 0 x y (by omega) rfl h) ?_
    exact paired_set t (by simpa using e) hb fun j x y ne hx z => k (j + 1) x y (by omega) (by simpa using hx) z
where go {α β : Type} {F G : α → β → Prop} : ∀ {xs : List α} {ys : List β}, Paired F xs ys → (∀ (j : Nat) (x : α) (y : β), xs[j]? = some x → F x y → G x y) → Paired G xs ys
  | _, _, .nil, _ => .nil
  | _, _, .cons h t, k => .cons (k 0 _ _ rfl h) (go t fun j x y hx z => k (j + 1) x y (by simpa using hx) z)
theorem nodup_at {α : Type} : ∀ {l : List α}, l.Nodup → ∀ {i j : Nat} {a : α}, l[i]? = some a → l[j]? = some a → i = j
  | [], _, i, j, a, h, _ => by simp at h
  | x :: l, nd, 0, 0, a, _, _ => rfl
  | x :: l, nd, 0, j + 1, a, h, k => by
    have e : x = a := by simpa using h
    have m : a ∈ l := List.mem_of_getElem? (by simpa using k)
    rw [← e] at m
    exact absurd m (List.nodup_cons.mp nd).1
  | x :: l, nd, i + 1, 0, a, h, k => by
    have e : x = a := by simpa using k
    have m : a ∈ l := List.mem_of_getElem? (by simpa using h)
    rw [← e] at m
    exact absurd m (List.nodup_cons.mp nd).1
  | x :: l, nd, i + 1, j + 1, a, h, k => congrArg (· + 1) (nodup_at (List.nodup_cons.mp nd).2 (by simpa using h) (by simpa using k))
theorem Mine.put {s : Addr} {H0 H : Hp} {p : Addr} {rs : List Addr} {t : List (List Int)} {m n : Nat} (h : Mine s H0 H p rs t m n) {i j : Nat} {a : Addr} {r : List Int} (ha : rs[i]? = some a) (hr : t[i]? = some r) (x : Int) :
    Mine s H0 (upd H a (.lst ((r.set j x).map V.int))) p rs (t.set i (r.set j x)) m n := by
  have am : a ∈ rs := List.mem_of_getElem? ha
  have ap : a ≠ p := fun z => h.ne (by rw [← z]; exact am)
  refine ⟨⟨by rw [upd_ne ap.symm]; exact h.tab.at_, ?_⟩, ⟨by rw [List.length_set]; exact h.rect.1, ?_⟩, h.nd, h.ne, h.fr, h.p0, h.bm.mut (h.fr a am), h.src.upd (h.notS.2 a am) _, h.s0⟩
  · refine paired_set h.tab.rows ha upd_same fun k b row ne hb z => ?_
    show upd H a _ b = _
    rw [upd_ne (fun e => ne (nodup_at h.nd (by rw [e] at hb; exact hb) ha))]
    exact z
  · intro row hrow
    rcases List.mem_or_eq_of_mem_set hrow with z | z
    · exact h.rect.2 row z
    · rw [z, List.length_set]
      exact h.rect.2 r (List.mem_of_getElem? hr)
/-- a comprehension whose elements are new rows -/
theorem rows_new {K : PySem.W.Frag} {a D : Addr} {rs : List Addr} {t : List (List Int)} {te : TE} {vs : List Nat} {σ : L2.St} {j : Nat} {H1 : Hp} {Qd : Hp → Prop} (f : List Int → List Int) (ht : Tab H1 a rs t) (hlen : t.length ≤ 10000) (hD : H1 D = none) (hw : ∀ x, wipe ((wipe σ vs).set j (some x)) vs = wipe σ vs)
    (he : ∀ (b : Addr) (r : List Int) (H' : Hp), Same H1 H' → r ∈ t → RowAt H' b r → ∀ Q : VK, (∀ c H'', H' c = none → Same H' H'' → RowAt H'' c (f r) → Q (.ref c) H'') → te ((wipe σ vs).set j (some (.ref b))) H' Q)
    (hd : ∀ H' cs, Same H1 H' → Tab H' D cs (t.map f) → cs.Nodup → (∀ c ∈ cs, H1 c = none ∧ c ≠ D) → Qd H') : LcAt (Itl K a) D (gName j) tYes te vs σ H1 Qd := by
  have lr := ht.rows.length
  refine lc_list (xs := rs.map V.ref) (fun i H' => Same H1 H' ∧ ∃ cs : List Addr, H' D = some (.lst (cs.map V.ref)) ∧ Paired (RowAt H') cs ((t.take i).map f) ∧ cs.Nodup ∧ ∀ c ∈ cs, H1 c = none ∧ c ≠ D)
    ⟨Same.new hD _, [], upd_same, .nil, List.nodup_nil, fun c hc => (by cases hc)⟩ (fun i H' _ z => SqL.of (z.1 _ _ ht.at_)) ?_ ?_
  · rintro i x H2 hx ⟨e2, cs, hD2, hp2, nd, fr⟩
    obtain ⟨b, hb, rfl⟩ := map_ref hx
    obtain ⟨r, hr, hrb⟩ := K3.Paired.get ht.rows hb
    refine ⟨hw _, ?_⟩
    refine w_yes ?_
    refine iteT ?_
    refine he b r H2 e2 (List.mem_of_getElem? hr) (e2 _ _ hrb) _ fun c H3 hc e3 hcr => ?_
    have hD3 := e3 _ _ hD2
    have cD : c ≠ D := fun z => by rw [z, hD2] at hc; cases hc
    have lcs : cs.length ≤ 10000 := by rw [hp2.length, List.length_map, List.length_take]; omega
    refine ⟨_, hD3, Nat.lt_of_le_of_lt (show _ ≤ 10000 by rw [List.length_map]; exact lcs) (by decide), (e2.trans e3).mut hD, cs ++ [c], by rw [upd_same, List.map_append]; rfl, ?_, ?_, ?_⟩
    · rw [List.take_add_one, hr, List.map_append]
      refine K3.Paired.app (paired_up hp2 fun d row hd z => ?_) (.cons ?_ .nil)
      · show upd H3 D _ d = _
        rw [upd_ne (fr d hd).2]
        exact e3 _ _ z
      · show upd H3 D _ c = _
        rw [upd_ne cD]
        exact hcr
    · refine nodup_snoc nd fun z => ?_
      obtain ⟨row, hrow⟩ := paired_has hp2 z
      have hrow : H2 c = some _ := hrow
      rw [hc] at hrow
      cases hrow
    · intro d hd
      rcases List.mem_append.mp hd with hd | hd
      · exact fr d hd
      · rw [List.mem_singleton.mp hd]
        exact ⟨e2.free hc, cD⟩
  · rintro H2 ⟨e2, cs, hD2, hp2, nd, fr⟩
    rw [List.length_map, lr, List.take_length] at hp2
    exact hd H2 cs e2 ⟨hD2, hp2⟩ nd fr
theorem Mine.of {s : Addr} {H0 H1 H2 : Hp} {p : Addr} {cs : List Addr} {t : List (List Int)} {m n : Nat} (b : BM [s] H0 H1) (q0 : Src H0 s) (q : Src H1 s) (e : Same H1 H2) (hp : H1 p = none) (ht : Tab H2 p cs t) (hR : Rect t m n) (nd : cs.Nodup) (fr : ∀ c ∈ cs, H1 c = none ∧ c ≠ p) : Mine s H0 H2 p cs t m n :=
  ⟨ht, hR, nd, fun z => (fr p z).2 rfl, fun r hr => b.free (fr r hr).1, b.free hp, b.same e, q.same e, q0⟩
theorem rect_sums {t : List (List Int)} {m k : Nat} (h : Rect t m k) : Rect (withSums k t) (m + 1) (k + 1) := by
  unfold withSums
  refine ⟨by rw [List.length_append, List.length_map, h.1]; rfl, fun r hr => ?_⟩
  rcases List.mem_append.mp hr with hr | hr
  · obtain ⟨r', hr', rfl⟩ := List.mem_map.mp hr
    unfold addSum
    rw [List.length_append, h.2 r' hr']
    rfl
  · rw [List.mem_singleton.mp hr, List.length_map, List.length_range]
theorem w_par {ta : TA} {i j : Nat} {D : L2.Ends} {σ : L2.St} {H : Hp} (h : ta σ H fun vs H1 => ∃ v w, vs = [v, w] ∧ D.nx ((σ.set i (some v)).set j (some w)) H1) : tPar i j ta D σ H := h
theorem inc_go {K : PySem.W.Frag} {f : Int → Int → Int} {R I J U : Nat} {s : Addr} {H0 H : Hp} {p : Addr} {rs : List Addr} {t : List (List Int)} {m n i j : Nat} {x : Int} {σ : L2.St} {D : L2.Ends} (σR : σ[R]? = some (some (.ref p))) (σI : σ[I]? = some (some (.int (i : Int)))) (σJ : σ[J]? = some (some (.int (j : Int)))) (σU : σ[U]? = some (some (.int x)))
    (h : Mine s H0 H p rs t m n) (hi : i < m) (hj : j < n) (k : ∀ H' t', Mine s H0 H' p rs t' m n → D.nx σ H') :
    tAsg (tOp (rI0 fun i j => .int (f i j)) (tOp (rIxL K) (tOp (rIxL K) (tVar R) (tVar I)) (tVar J)) (tVar U)) (gSub (tOp (rIxL K) (tVar R) (tVar I)) (tVar J) rSetL) D σ H := by
  obtain ⟨a, r, ha, hr, hx⟩ := row_of h.tab (i := i) (by rw [h.rect.1]; exact hi)
  have lr : r.length = n := h.rect.2 r (List.mem_of_getElem? hr)
  refine w_asg (w_op (w_op (w_op (w_var σR (w_var σI (w_ixL h.tab.at_ (ref_at ha) ?_))))))
  refine w_var σJ (w_ixL hx (at_getD (by omega)) (w_var σU (w_i0 ?_)))
  refine w_gsub (w_op (w_var σR (w_var σI (w_ixL h.tab.at_ (ref_at ha) ?_))))
  refine w_var σJ (w_setL hx (j := j) ?_ ?_)
  · unfold ixN
    rw [if_pos (by omega), if_pos (by rw [List.length_map]; omega)]
    simp
  · rw [← List.map_set]
    exact k _ _ (h.put ha hr _)
def spSquare (K : PySem.W.Frag) : Sp := fun vs H Q _ => ∃ (s p : Addr) (rs : List Addr) (t : List (List Int)) (m n : Nat) (x : Int), vs = [.ref s, .ref p, .int x] ∧ Src H s ∧ Tab H p rs t ∧ (p ≠ s ∧ ∀ r ∈ rs, r ≠ s) ∧ Rect t m n ∧ 2 ≤ m ∧ 2 ≤ n ∧ m ≤ 50 ∧ n ≤ 50 ∧ ∀ p' H' rs' t', Mine s H H' p' rs' t' m n → Q (.ref p') H'
end K3

namespace K3
theorem inc2 {K : PySem.W.Frag} {f : Int → Int → Int} {R : Nat} {ei ej eu : TE} {s : Addr} {H0 H : Hp} {p : Addr} {rs : List Addr} {t : List (List Int)} {m n i j : Nat} {σ : L2.St} {D : L2.Ends} (σR : σ[R]? = some (some (.ref p)))
    (hei : ∀ H' t' (Q : VK), Mine s H0 H' p rs t' m n → Q (.int (i : Int)) H' → ei σ H' Q) (hej : ∀ H' t' (Q : VK), Mine s H0 H' p rs t' m n → Q (.int (j : Int)) H' → ej σ H' Q)
    (heu : ∀ H' t' (Q : VK), Mine s H0 H' p rs t' m n → (∀ x H'', Mine s H0 H'' p rs t' m n → Q (.int x) H'') → eu σ H' Q)
    (h : Mine s H0 H p rs t m n) (hi : i < m) (hj : j < n) (k : ∀ H' t', Mine s H0 H' p rs t' m n → D.nx σ H') :
    tAsg (tOp (rI0 fun i j => .int (f i j)) (tOp (rIxL K) (tOp (rIxL K) (tVar R) ei) ej) eu) (gSub (tOp (rIxL K) (tVar R) ei) ej rSetL) D σ H := by
  obtain ⟨a, r, ha, hr, hx⟩ := row_of h.tab (i := i) (by rw [h.rect.1]; exact hi)
  have lr : r.length = n := h.rect.2 r (List.mem_of_getElem? hr)
  refine w_asg (w_op (w_op (w_op (w_var σR (hei H t _ h (w_ixL h.tab.at_ (ref_at ha) ?_))))))
  refine hej H t _ h (w_ixL hx (at_getD (by omega)) (heu H t _ h fun x H2 h2 => w_i0 ?_))
  obtain ⟨a', r', ha', hr', hx2⟩ := row_of h2.tab (i := i) (by rw [h2.rect.1]; exact hi)
  obtain rfl : a = a' := Option.some.inj (ha.symm.trans ha')
  obtain rfl : r = r' := Option.some.inj (hr.symm.trans hr')
  refine w_gsub (w_op (w_var σR (hei H2 t _ h2 (w_ixL h2.tab.at_ (ref_at ha) ?_))))
  refine hej H2 t _ h2 (w_setL hx2 (j := j) ?_ ?_)
  · unfold ixN
    rw [if_pos (by omega), if_pos (by rw [List.length_map]; omega)]
    simp
  · rw [← List.map_set]
    exact k _ _ (h2.put ha hr _)
theorem paired_from {α β : Type} {F : α → β → Prop} : ∀ {xs : List α} {ys : List β}, Paired F xs ys → ∀ k, Paired F (xs.drop k) (ys.drop k)
  | _, _, .nil, k => by rw [List.drop_nil, List.drop_nil]; exact .nil
  | _, _, .cons h t, 0 => .cons h t
  | _, _, .cons h t, k + 1 => paired_from t k
theorem min_at {i j : Int} {H : Hp} : ∀ {Q : VK}, Q (.int (if j < i then j else i)) H → Q (.int (if j < i then j else i)) H := fun h => h
def spBroken (K : PySem.W.Frag) : Sp := fun vs H Q _ => ∃ (s g p : Addr) (rs rs' : List Addr) (t u : List (List Int)) (m n : Nat), vs = [.ref s, .ref g, .ref p] ∧ Src H s ∧ Tab H g rs t ∧ (g ≠ s ∧ ∀ r ∈ rs, r ≠ s) ∧ Rect t m n ∧ Tab H p rs' u ∧ (p ≠ s ∧ ∀ r ∈ rs', r ≠ s) ∧ Rect u m n ∧ 2 ≤ m ∧ 2 ≤ n ∧ m ≤ 50 ∧ n ≤ 50 ∧
  ∀ p' H' rs' t' m' n', BM [s] H H' → Src H' s → Tab H' p' rs' t' → Rect t' m' n' → 1 ≤ m' → 1 ≤ n' → m' ≤ 60 → n' ≤ 60 → Q (.ref p') H'
end K3

namespace K3
theorem Mine.trans {s : Addr} {H0 H1 H2 : Hp} {p : Addr} {rs : List Addr} {t : List (List Int)} {m n : Nat} (b : BM [s] H0 H1) (q0 : Src H0 s) (h : Mine s H1 H2 p rs t m n) : Mine s H0 H2 p rs t m n :=
  ⟨h.tab, h.rect, h.nd, h.ne, fun r hr => b.free (h.fr r hr), b.free h.p0, b.trans h.bm, h.src, q0⟩
/-- a list of hidden cells that is not the source -/
structure HidL (s : Addr) (H : Hp) (p : Addr) (ws : List V) (hs : List (Nat × Nat)) (m n : Nat) : Prop where
  at_ : H p = some (.lst ws)
  ne : p ≠ s
  src : Src H s
  cells : Paired (CellAt H) ws hs
  mem : ∀ h ∈ hs, h ∈ (cellsOf m n).dropLast
  len : hs.length ≤ 60
theorem HidL.draw {s : Addr} {H H1 : Hp} {p : Addr} {ws : List V} {hs : List (Nat × Nat)} {m n : Nat} (h : HidL s H p ws hs m n) (e : BM [s] H H1) (q : Src H1 s) : HidL s H1 p ws hs m n :=
  ⟨e.at h.at_ (by simpa using h.ne), h.ne, q, L2.Paired.mapP h.cells fun _ _ z => z.bm h.src e, h.mem, h.len⟩
theorem HidL.same {s : Addr} {H H1 : Hp} {p : Addr} {ws : List V} {hs : List (Nat × Nat)} {m n : Nat} (h : HidL s H p ws hs m n) (e : Same H H1) : HidL s H1 p ws hs m n := h.draw (BM.of e) (h.src.same e)
theorem HidL.inn {K : PySem.W.Frag} {s : Addr} {H : Hp} {p : Addr} {ws : List V} {hs : List (Nat × Nat)} {m n : Nat} (h : HidL s H p ws hs m n) : HidIn K H (.ref p) hs m n := ⟨p, ws, rfl, .inl (SqL.of h.at_), h.cells, h.mem, h.len⟩
def spShifted (K : PySem.W.Frag) : Sp := fun vs H Q _ => ∃ (s g h : Addr) (rs : List Addr) (t : List (List Int)) (ws : List V) (hs : List (Nat × Nat)) (m n : Nat), vs = [.ref s, .ref g, .ref h] ∧ Src H s ∧ Tab H g rs t ∧ (g ≠ s ∧ ∀ r ∈ rs, r ≠ s) ∧ Rect t m n ∧ HidL s H h ws hs m n ∧ Fit t hs t m n ∧ 2 ≤ m ∧ 2 ≤ n ∧ m ≤ 50 ∧ n ≤ 50 ∧
  ∀ p' H' rs' t', Mine s H H' p' rs' t' m n → Fit t hs t' m n → Q (.ref p') H'
/-! ### a grid with its sums fits itself -/
theorem sum_add (f g : Nat → Int) : ∀ l : List Nat, (l.map fun c => f c + g c).sum = (l.map f).sum + (l.map g).sum
  | [] => rfl
  | x :: l => by simp only [List.map_cons, List.sum_cons, sum_add f g l]; omega
theorem sum_zero : ∀ l : List Nat, (l.map fun _ => (0 : Int)).sum = 0
  | [] => rfl
  | _ :: l => by simp only [List.map_cons, List.sum_cons, sum_zero l]; rfl
theorem sum_getD (r : List Int) : ((List.range r.length).map fun c => r.getD c 0).sum = r.sum := by
  induction r with
  | nil => rfl
  | cons x r ih =>
    rw [List.length_cons, List.range_succ_eq_map, List.map_cons, List.map_map, List.sum_cons, List.sum_cons, ← ih]
    rfl
theorem fubini (k : Nat) : ∀ t : List (List Int), (∀ r ∈ t, r.length = k) → ((List.range k).map fun c => (colOf t c).sum).sum = (t.map List.sum).sum
  | [], _ => by
    show ((List.range k).map fun _ => (0 : Int)).sum = 0
    exact sum_zero _
  | r :: t, h => by
    have ih := fubini k t fun r hr => h r (List.mem_cons_of_mem _ hr)
    have e : ((List.range k).map fun c => (colOf (r :: t) c).sum) = (List.range k).map fun c => r.getD c 0 + (colOf t c).sum := rfl
    rw [e, sum_add, ih, List.map_cons, List.sum_cons, ← h r (List.mem_cons_self ..), sum_getD]
theorem fit_self {t : List (List Int)} {k m : Nat} (hk : ∀ r ∈ t, r.length = k ∧ ∀ x ∈ r, 0 ≤ x) (hm : t.length = m) (hs : List (Nat × Nat)) : Fit (withSums k t) hs (withSums k t) (m + 1) (k + 1) := by
  have sum_nn : ∀ l : List Int, (∀ x ∈ l, 0 ≤ x) → 0 ≤ l.sum := by
    intro l
    induction l with
    | nil => intro _; exact Int.le_refl 0
    | cons x l ih =>
      intro h
      have h1 := h x (List.mem_cons_self ..)
      have h2 := ih fun y hy => h y (List.mem_cons_of_mem _ hy)
      rw [List.sum_cons]
      omega
  have nnA : ∀ r ∈ t.map addSum, ∀ x ∈ r, 0 ≤ x := by
    intro r hr x hx
    obtain ⟨r', hr', rfl⟩ := List.mem_map.mp hr
    unfold addSum at hx
    rcases List.mem_append.mp hx with hx | hx
    · exact (hk r' hr').2 x hx
    · rw [List.mem_singleton.mp hx]
      exact sum_nn _ (hk r' hr').2
  have getD_nn : ∀ (r : List Int) (c : Nat), (∀ x ∈ r, 0 ≤ x) → 0 ≤ r.getD c 0 := by
    intro r c h
    rw [List.getD_eq_getElem?_getD]
    cases e : r[c]? with
    | none => exact Int.le_refl 0
    | some x => exact h x (List.mem_of_getElem? e)
  refine ⟨rect_sums ⟨hm, fun r hr => (hk r hr).1⟩, ?_, ⟨?_, ?_⟩, fun i _ j _ _ => rfl⟩
  · intro r hr x hx
    unfold withSums at hr
    rcases List.mem_append.mp hr with hr | hr
    · exact nnA r hr x hx
    · rw [List.mem_singleton.mp hr] at hx
      obtain ⟨c, _, rfl⟩ := List.mem_map.mp hx
      refine sum_nn _ fun y hy => ?_
      obtain ⟨r', hr', rfl⟩ := List.mem_map.mp hy
      exact getD_nn r' c (nnA r' hr')
  · intro r hr
    unfold withSums at hr
    rcases List.mem_append.mp hr with hr | hr
    · obtain ⟨r', hr', rfl⟩ := List.mem_map.mp hr
      unfold addSum
      rw [List.getLastD_concat, List.dropLast_concat]
    · rw [List.mem_singleton.mp hr, List.range_succ, List.map_append]
      rw [show ((List.range k).map (fun c => (colOf (t.map addSum) c).sum)) ++ [k].map (fun c => (colOf (t.map addSum) c).sum) = ((List.range k).map fun c => (colOf (t.map addSum) c).sum) ++ [(colOf (t.map addSum) k).sum] from rfl, List.getLastD_concat, List.dropLast_concat]
      have c1 : ∀ c ∈ List.range k, (colOf (t.map addSum) c).sum = (colOf t c).sum := by
        intro c hc
        congr 1
        unfold colOf
        rw [List.map_map]
        refine List.map_congr_left fun r hr => ?_
        have := (hk r hr).1
        have hc := List.mem_range.mp hc
        show (addSum r).getD c 0 = r.getD c 0
        unfold addSum
        rw [List.getD_eq_getElem?_getD, List.getD_eq_getElem?_getD, List.getElem?_append_left (by omega)]
      rw [List.map_congr_left c1, fubini k t fun r hr => (hk r hr).1]
      congr 1
      unfold colOf
      rw [List.map_map]
      refine List.map_congr_left fun r hr => ?_
      have := (hk r hr).1
      show (addSum r).getD k 0 = r.sum
      unfold addSum
      rw [List.getD_eq_getElem?_getD, List.getElem?_append_right (by omega), this]
      simp
  · intro c hc
    unfold RightCol
    have e : colOf (withSums k t) c = colOf (t.map addSum) c ++ [(colOf (t.map addSum) c).sum] := by
      unfold withSums
      show (t.map addSum ++ [_]).map _ = _
      rw [List.map_append]
      congr 1
      show [((List.range (k + 1)).map fun c => (colOf (t.map addSum) c).sum).getD c 0] = _
      rw [List.getD_eq_getElem?_getD, List.getElem?_map, List.getElem?_range hc]
      rfl
    rw [e, List.getLastD_concat, List.dropLast_concat]
end K3

namespace K3
def spLaw (K : PySem.W.Frag) : Sp := fun vs H Q _ => ∃ (a : Addr) (ns : List Int), vs = [.ref a] ∧ SqL K H a (ns.map V.int) ∧ ns.length ≤ 63 ∧ ∀ H', Q (.bl true) H'
theorem fit_same {t u : List (List Int)} {hs hs' : List (Nat × Nat)} {m n : Nat} (h : ∀ c, c ∈ hs ↔ c ∈ hs') : Fit t hs u m n ↔ Fit t hs' u m n := by
  unfold Fit
  simp only [h]
theorem paired_rev {α β : Type} {F : α → β → Prop} : ∀ {xs : List α} {ys : List β}, Paired F xs ys → Paired F xs.reverse ys.reverse
  | _, _, .nil => .nil
  | _, _, .cons h t => by
    rw [List.reverse_cons, List.reverse_cons]
    exact K3.Paired.app (paired_rev t) (.cons h .nil)
theorem same_new {s : Addr} {H H1 H2 : Hp} (h0 : H s = none) (e : Same H H1) (b : BM [s] H1 H2) : Same H H2 := fun c o h => b.at (e _ _ h) (by simpa using fun z => by rw [z, h0] at h; cases h)
/-! ### tables as data -/
def tabD (t : List (List Int)) : PyData := .list (t.map fun r => .list (r.map PyData.int))
theorem rows_dp {K : PySem.W.Frag} {H : Hp} : ∀ {rs : List Addr} {t : List (List Int)}, Paired (RowAt H) rs t → DpAll K H (rs.map V.ref) (t.map fun r => .list (r.map PyData.int))
  | _, _, .nil => .nil
  | _, _, .cons h t => .cons (lst_dp h) (rows_dp t)
theorem tab_dp {K : PySem.W.Frag} {H : Hp} {p : Addr} {rs : List Addr} {t : List (List Int)} (h : Tab H p rs t) : Dp K H (.ref p) (tabD t) := .lst (SqL.of h.at_) (rows_dp h.rows)
theorem lay_rows : ∀ t : List (List Int), PyData.canLayAll0 (t.map fun r => .list (r.map PyData.int)) = true ∧ PyData.depthAll (t.map fun r => .list (r.map PyData.int)) ≤ 2
  | [] => by simp [PyData.canLayAll0, PyData.depthAll]
  | r :: t => by
    obtain ⟨a, b⟩ := lay_rows t
    obtain ⟨c, d⟩ := lay_ints r
    simp only [List.map_cons, PyData.canLayAll0, PyData.depthAll, PyData.canLay0, PyData.depth]
    exact ⟨by rw [a, c]; rfl, by omega⟩
theorem lay_cells : ∀ hs : List (Nat × Nat), PyData.canLayAll0 (hs.map cellD) = true ∧ PyData.depthAll (hs.map cellD) ≤ 5
  | [] => by simp [PyData.canLayAll0, PyData.depthAll]
  | c :: hs => by
    obtain ⟨a, b⟩ := lay_cells hs
    have d : (cellD c).canLay0 = true ∧ (cellD c).depth ≤ 5 := by
      unfold cellD
      exact ⟨rfl, by simp [PyData.depth, PyData.depthAll]⟩
    simp only [List.map_cons, PyData.canLayAll0, PyData.depthAll]
    exact ⟨by rw [a, d.1]; rfl, by omega⟩
def allD (t : List (List Int)) (hs : List (Nat × Nat)) (u : List (List Int)) : PyData := .tuple [tabD t, .list (hs.map cellD), tabD u]
theorem all_lay (t : List (List Int)) (hs : List (Nat × Nat)) (u : List (List Int)) : SeqAt.shaped (allD t hs u) = true ∧ PyData.eqv (allD t hs u) (allD t hs u) = true := by
  obtain ⟨a1, a2⟩ := lay_rows t
  obtain ⟨b1, b2⟩ := lay_cells hs
  obtain ⟨c1, c2⟩ := lay_rows u
  have c : (allD t hs u).canLay0 = true := by
    unfold allD tabD
    simp only [PyData.canLay0, PyData.canLayAll0, a1, b1, c1]
    rfl
  have d : (allD t hs u).depth ≤ 64 := by
    unfold allD tabD
    simp only [PyData.depth, PyData.depthAll]
    omega
  refine ⟨?_, SeqAt.eqv_refl _ c⟩
  unfold SeqAt.shaped
  rw [c, decide_eq_true d]
  rfl
theorem w_rev {K : PySem.W.Frag} {te : TE} {σ : L2.St} {H : Hp} {Q : VK} (h : te σ H fun x H1 => ∃ a xs, x = .ref a ∧ SqL K H1 a xs ∧ ∀ p, H1 p = none → Q (.ref p) (upd H1 p (.lst xs.reverse))) : tRevL K te σ H Q := h
theorem cut_mem {xs : List V} {lo hi : Option Int} {x : V} (h : x ∈ cutV xs lo hi) : x ∈ xs := by
  unfold cutV at h
  exact List.mem_of_mem_drop (List.mem_of_mem_take h)
end K3
end C7_part
section E2_part
set_option Elab.async false
set_option linter.all false
set_option maxRecDepth 100000
set_option maxHeartbeats 1000000
set_option pp.deepTerms.threshold 5
open PySem PySem.Spec PyProof.Rows L2
/-- go on as far as nothing is open -/
local macro_rules | `(tactic| walk_at "go") => `(tactic| repeat (first
  | with_reducible refine w_seq ?_ | with_reducible refine w_next ?_ | with_reducible refine w_set ?_ | with_reducible refine w_drop ?_ | with_reducible refine w_ret ?_ | with_reducible refine w_retN ?_
  | with_reducible refine w_if ?_ | ((with_reducible refine' w_var ?hv ?_); (case hv => exact rfl)) | with_reducible refine w_c ?_ | with_reducible refine w_nil ?_ | with_reducible refine w_cons ?_ | with_reducible refine w_op ?_ | with_reducible refine w_un ?_
  | with_reducible refine w_test ?_ | with_reducible refine w_tB ?_ | with_reducible refine w_not ?_ | with_reducible refine w_and ?_ | with_reducible refine w_or ?_ | with_reducible refine w_bl ?_
  | with_reducible refine w_andV ?_ | with_reducible refine w_orV ?_ | with_reducible refine w_notV ?_ | with_reducible refine w_ifE ?_ | with_reducible refine w_chain ?_ | with_reducible refine w_i0 ?_
  | with_reducible refine w_call ?_ | with_reducible refine w_callS ?_ | with_reducible refine w_cB ?_ | with_reducible refine w_tup ?_ | with_reducible refine w_lst ?_ | with_reducible refine w_fldV ?_
  | with_reducible refine w_neF ?_ | with_reducible refine w_neT ?_ | with_reducible refine w_notN ?_ | with_reducible refine w_isN ?_ | with_reducible refine w_gname ?_ | with_reducible refine w_gsub ?_ | with_reducible refine w_asg ?_ | with_reducible refine w_sl ?_ | with_reducible refine w_noP ?_ | with_reducible refine w_int1 ?_ | with_reducible refine w_part ?_ | with_reducible refine w_yes ?_ | with_reducible refine w_nT ?_ | with_reducible refine w_nF ?_ | with_reducible refine w_iteT ?_ | with_reducible refine w_iteF ?_))
namespace K3
/-- a comprehension over a grid's rows whose elements are new rows -/
theorem rows_newE {K : PySem.W.Frag} {a D : Addr} {rs : List Addr} {t : List (List Int)} {te : TE} {vs : List Nat} {σ : L2.St} {j : Nat} {H1 : Hp} {b : Bool} {Qd : Hp → Prop} (f : List Int → List Int) (hs : SqB K H1 b a (rs.map V.ref)) (hr : Paired (fun r row => SqE K H1 r (row.map V.int)) rs t) (hlen : t.length ≤ 10000) (hD : H1 D = none) (hw : ∀ x, wipe ((wipe σ vs).set j (some x)) vs = wipe σ vs)
    (he : ∀ (c : Addr) (r : List Int) (H' : Hp), Same H1 H' → r ∈ t → SqE K H' c (r.map V.int) → ∀ Q : VK, (∀ d H'', H' d = none → Same H' H'' → RowAt H'' d (f r) → Q (.ref d) H'') → te ((wipe σ vs).set j (some (.ref c))) H' Q)
    (hd : ∀ H' cs, Same H1 H' → Tab H' D cs (t.map f) → cs.Nodup → (∀ c ∈ cs, H1 c = none ∧ c ≠ D) → Qd H') : LcAt (ItB K b a) D (gName j) tYes te vs σ H1 Qd := by
  have lr := hr.length
  refine lc_it (walk_B (K := K) (a := a) (xs := rs.map V.ref) (b := b)) (fun i H' => Same H1 H' ∧ ∃ cs : List Addr, H' D = some (.lst (cs.map V.ref)) ∧ Paired (RowAt H') cs ((t.take i).map f) ∧ cs.Nodup ∧ ∀ c ∈ cs, H1 c = none ∧ c ≠ D)
    ⟨Same.new hD _, [], upd_same, .nil, List.nodup_nil, fun c hc => (by cases hc)⟩ (fun i H' _ z => hs.same z.1) ?_ ?_
  · rintro i x H2 H2' _ ⟨e2, cs, hD2, hp2, nd, fr⟩ ⟨rfl, hx⟩
    obtain ⟨c0, hb, rfl⟩ := map_ref hx
    obtain ⟨r, hr', hrb⟩ := K3.Paired.get hr hb
    refine ⟨hw _, ?_⟩
    refine w_yes ?_
    refine iteT ?_
    refine he c0 r H2' e2 (List.mem_of_getElem? hr') (hrb.same e2) _ fun c H3 hc e3 hcr => ?_
    have hD3 := e3 _ _ hD2
    have cD : c ≠ D := fun z => by rw [z, hD2] at hc; cases hc
    have lcs : cs.length ≤ 10000 := by rw [hp2.length, List.length_map, List.length_take]; omega
    refine ⟨_, hD3, Nat.lt_of_le_of_lt (show _ ≤ 10000 by rw [List.length_map]; exact lcs) (by decide), (e2.trans e3).mut hD, cs ++ [c], by rw [upd_same, List.map_append]; rfl, ?_, ?_, ?_⟩
    · rw [List.take_add_one, hr', List.map_append]
      refine K3.Paired.app (paired_up hp2 fun d row hd z => ?_) (.cons ?_ .nil)
      · show upd H3 D _ d = _
        rw [upd_ne (fr d hd).2]
        exact e3 _ _ z
      · show upd H3 D _ c = _
        rw [upd_ne cD]
        exact hcr
    · refine nodup_snoc nd fun z => ?_
      obtain ⟨row, hrow⟩ := paired_has hp2 z
      have hrow : H2' c = some _ := hrow
      rw [hc] at hrow
      cases hrow
    · intro d hd
      rcases List.mem_append.mp hd with hd | hd
      · exact fr d hd
      · rw [List.mem_singleton.mp hd]
        exact ⟨e2.free hc, cD⟩
  · rintro H2 ⟨e2, cs, hD2, hp2, nd, fr⟩
    rw [List.length_map, lr, List.take_length] at hp2
    exact hd H2 cs e2 ⟨hD2, hp2⟩ nd fr
end K3
end E2_part
section F1_part
set_option Elab.async false
set_option linter.all false
set_option maxRecDepth 100000
set_option maxHeartbeats 1000000
set_option pp.deepTerms.threshold 5
open PySem PySem.Spec PyProof.Rows L2
/-- go on as far as nothing is open -/
local macro_rules | `(tactic| walk_at "go") => `(tactic| repeat (first
  | with_reducible refine w_seq ?_ | with_reducible refine w_next ?_ | with_reducible refine w_set ?_ | with_reducible refine w_drop ?_ | with_reducible refine w_ret ?_ | with_reducible refine w_retN ?_
  | with_reducible refine w_if ?_ | ((with_reducible refine' w_var ?hv ?_); (case hv => exact rfl)) | with_reducible refine w_c ?_ | with_reducible refine w_nil ?_ | with_reducible refine w_cons ?_ | with_reducible refine w_op ?_ | with_reducible refine w_un ?_
  | with_reducible refine w_test ?_ | with_reducible refine w_tB ?_ | with_reducible refine w_not ?_ | with_reducible refine w_and ?_ | with_reducible refine w_or ?_ | with_reducible refine w_bl ?_
  | with_reducible refine w_andV ?_ | with_reducible refine w_orV ?_ | with_reducible refine w_notV ?_ | with_reducible refine w_ifE ?_ | with_reducible refine w_chain ?_ | with_reducible refine w_i0 ?_
  | with_reducible refine w_call ?_ | with_reducible refine w_callS ?_ | with_reducible refine w_cB ?_ | with_reducible refine w_tup ?_ | with_reducible refine w_lst ?_ | with_reducible refine w_fldV ?_
  | with_reducible refine w_neF ?_ | with_reducible refine w_neT ?_ | with_reducible refine w_notN ?_ | with_reducible refine w_isN ?_ | with_reducible refine w_gname ?_ | with_reducible refine w_gsub ?_ | with_reducible refine w_asg ?_ | with_reducible refine w_sl ?_ | with_reducible refine w_noP ?_ | with_reducible refine w_int1 ?_ | with_reducible refine w_part ?_ | with_reducible refine w_yes ?_ | with_reducible refine w_nT ?_ | with_reducible refine w_nF ?_ | with_reducible refine w_iteT ?_ | with_reducible refine w_iteF ?_))
namespace L2
open PySem PySem.Spec PyProof.Rows
section
variable {X : Cx} {pins : List (Addr × Obj)} {σ : L2.St} {H : Hp} {s : Shared} {a b : Addr} {r : Value} {z : V} {ks : List L2.Key} {A : Around} {E : Value → Shared → Prop}
/-- d.setdefault(t, z), t a tuple of ints and texts -/
theorem d_setdT {kvs : List (List L2.Key × V)} {Q : Value → Shared → Prop} (hu : A.units + 1 < cLine) (I : Inv X pins σ H s) (e : H a = some (.dT kvs)) (eb : H b = some (.tup (ks.map kV))) (rd : RelV z r) (hl : kvs.length < sizeLine)
    (h1 : ∀ v, valV kvs ks = some v → ∀ w' s', Inv X pins σ H s' → RelV v w' → Q w' s') (h2 : valV kvs ks = none → ∀ w' s', Inv X pins σ (upd H a (.dT (putK kvs ks z))) s' → RelV z w' → Q w' s') :
    wpAny (model X.prog X.w) A (call (.builtin "dict.setdefault") [.ref a, .ref b, r]) Q E s := by
  obtain ⟨z1, z2, xs, rel, dd⟩ := dt_of I.hok e
  have lx : xs.length ≤ sizeLine := by
    have := Paired.length rel
    omega
  refine call_setdefault_heap (hsz := lx) (tupleKind_room_in1 hu) (key_of I.hok eb) z2 dd (fun p hp => ?_) fun hn h' dd' hs => ?_
  · have q := rel.val ks
    rw [hp] at q
    cases q0 : valV kvs ks with
    | none => rw [q0] at q; exact (show False from q).elim
    | some v => rw [q0] at q; exact h1 v q0 _ _ (I.tok _) q
  · have q := rel.val ks
    rw [hn] at q
    cases q0 : valV kvs ks with
    | some v => rw [q0] at q; exact (show False from q).elim
    | none =>
      have l2 : (putK kvs ks z).length ≤ sizeLine := by
        have := length_putK kvs ks z
        omega
      obtain ⟨o, es, ep, g1, g2, g3, g4, _, g5⟩ := dd'
      refine h2 q0 _ _ (d_write I (by rw [e]; exact True.intro) hs ⟨o, g1⟩ ⟨l2, z2, _, (rel.put ks eb rd).keeps fun c ys ec => ?_, o, es, ep, g1, g2, g3, g4, g5⟩) rd
      rw [upd_ne (ne_of ec e (fun z => nomatch z))]
      exact ec
end
def tSetdT (td ty tx : TE) : TE := fun σ H Q => td σ H fun x H1 => ∃ a, x = .ref a ∧ IsD H1 a ∧ ty σ H1 fun y H2 => tx σ H2 fun z H3 => ∃ (kvs : List (List L2.Key × V)) (ks : List L2.Key) (b : Addr), H3 a = some (.dT kvs) ∧ y = .ref b ∧ H3 b = some (.tup (ks.map kV)) ∧ kvs.length < sizeLine ∧
  (∀ v, valV kvs ks = some v → Q v H3) ∧ (valV kvs ks = none → Q z (upd H3 a (.dT (putK kvs ks z))))
section
variable {X : Cx} {o e f : Expr} {td ty tx : TE} {apos cpos : Pos}
theorem pe_setdT (hu : X.A.units + 1 < cLine) (ho : PE X o td) (he : PE X e ty) (hf : PE X f tx) (m : M2 X o "setdefault" apos e f cpos) : PE X (.Call (.Attribute o "setdefault" apos) [e, f] [] cpos) (tSetdT td ty tx) := by
  refine ⟨fun pins s σ H Q I h => ?_⟩
  refine wpAny_Call_method m.base m.few m.line PySem.F.plainAttrs_dict PySem.F.slot_dict_setdefault PySem.F.type_dict_setdefault ?_
  refine thn (ho.run pins s σ H _ I h) fun u s1 ⟨x, H1, I1, rx, a, ex, d, q1⟩ => ?_
  subst ex
  obtain rfl : u = Value.ref a := rx
  obtain ⟨t1, t2, _⟩ := isD_at I1 d
  refine ⟨t1, t2, ?_⟩
  rw [m.trees]
  refine Calls.callWith_builtin rfl (Calls.evalArgs_plain (Calls.spliced_cons ?_))
  refine thn (he.run pins s1 σ H1 _ I1 q1) fun iv s2 ⟨y, H2, I2, ry, q2⟩ => Calls.spliced_cons ?_
  refine thn (hf.run pins s2 σ H2 _ I2 q2) fun fv s3 ⟨z, H3, I3, rz, kvs, ks, b, ea, ey, eb, hl, q3, q4⟩ => Calls.spliced_nil ?_
  subst ey
  obtain rfl : iv = Value.ref b := ry
  exact d_setdT hu I3 ea eb rz hl (fun v hv w' s4 I4 rw' => ⟨v, _, I4, rw', q3 v hv⟩) fun hn w' s4 I4 rw' => ⟨z, _, I4, rw', q4 hn⟩
end
end L2
namespace K3
/-! ### places, steps, ways: the model -/
abbrev Pl := Bool × Nat
structure Stp where
  to : Pl
  c : Nat × Nat
  up : Bool
deriving DecidableEq
def plName (p : Pl) : Str := if p.1 then "row" else "column"
def plKey (p : Pl) : List L2.Key := [.inr (plName p), .inl (p.2 : Int)]
theorem plKey_inj {p q : Pl} (h : plKey p = plKey q) : p = q := by
  obtain ⟨a, i⟩ := p
  obtain ⟨b, j⟩ := q
  unfold plKey plName at h
  simp only [List.cons.injEq, Sum.inr.injEq, Sum.inl.injEq, and_true] at h
  obtain ⟨h1, h2⟩ := h
  have e : i = j := by omega
  subst e
  cases a with
  | true =>
    cases b with
    | true => rfl
    | false => exact absurd h1 (show ¬ (("row" : Str) = "column") by decide)
  | false =>
    cases b with
    | true => exact absurd h1 (show ¬ (("column" : Str) = "row") by decide)
    | false => rfl
def PlAt (H : Hp) (v : V) (p : Pl) : Prop := ∃ a, v = .ref a ∧ H a = some (.tup ((plKey p).map kV))
theorem PlAt.same {H H' : Hp} (e : Same H H') {v : V} {p : Pl} (h : PlAt H v p) : PlAt H' v p := let ⟨a, h1, h2⟩ := h; ⟨a, h1, e _ _ h2⟩
def sgn (b : Bool) : Int := if b then 1 else -1
def StAt (H : Hp) (v : V) (s : Stp) : Prop := ∃ a vg vc, v = .ref a ∧ H a = some (.tup [vg, vc, .int (sgn s.up)]) ∧ PlAt H vg s.to ∧ CellAt H vc s.c
theorem StAt.same {H H' : Hp} (e : Same H H') {v : V} {s : Stp} (h : StAt H v s) : StAt H' v s := let ⟨a, vg, vc, h1, h2, h3, h4⟩ := h; ⟨a, vg, vc, h1, e _ _ h2, h3.same e, h4.same e⟩
def arcF (m n : Nat) (c : Nat × Nat) : Pl × Pl := if decide (c.1 = m - 1) = decide (c.2 = n - 1) then ((true, c.1), (false, c.2)) else ((false, c.2), (true, c.1))
theorem arc_ne (m n : Nat) (c : Nat × Nat) : (arcF m n c).1 ≠ (arcF m n c).2 := by
  unfold arcF
  split <;> simp
def stepsF (m n : Nat) (cs : List (Nat × Nat)) (p : Pl) : List Stp := cs.filterMap fun c => if (arcF m n c).1 = p then some ⟨(arcF m n c).2, c, true⟩ else if (arcF m n c).2 = p then some ⟨(arcF m n c).1, c, false⟩ else none
theorem stepsF_snoc (m n : Nat) (cs : List (Nat × Nat)) (c : Nat × Nat) (p : Pl) : stepsF m n (cs ++ [c]) p = stepsF m n cs p ++ (if (arcF m n c).1 = p then [⟨(arcF m n c).2, c, true⟩] else if (arcF m n c).2 = p then [⟨(arcF m n c).1, c, false⟩] else []) := by
  unfold stepsF
  rw [List.filterMap_append]
  congr 1
  simp only [List.filterMap_cons, List.filterMap_nil]
  by_cases h1 : (arcF m n c).1 = p
  · rw [if_pos h1, if_pos h1]
  · rw [if_neg h1, if_neg h1]
    by_cases h2 : (arcF m n c).2 = p
    · rw [if_pos h2, if_pos h2]
    · rw [if_neg h2, if_neg h2]
def spArc (K : PySem.W.Frag) : Sp := fun vs H Q _ => ∃ (g : Addr) (v : V) (rs : List Addr) (t : List (List Int)) (m n : Nat) (c : Nat × Nat), vs = [.ref g, v] ∧ GT K H g rs t ∧ Rect t m n ∧ 1 ≤ m ∧ 1 ≤ n ∧ CellAt H v c ∧
  ∀ a H' v1 v2, Same H H' → H' a = some (.tup [v1, v2]) → PlAt H' v1 (arcF m n c).1 → PlAt H' v2 (arcF m n c).2 → Q (.ref a) H'
section
variable {P : Program} {w : World} {K : PySem.W.Frag} {mg : Str → Option Value} {base : Heap}
theorem sc_arc_of : FnScope ["grid", "cell", "row", "column", "last_row", "last_column"] ["grid", "cell"] (defScope s_arc_of) := ⟨rfl, rfl, rfl, by decide +kernel, rfl, by decide +kernel, by decide +kernel⟩
theorem ok_arc_of (T : Tx K mg) : Ok P w K mg base 2 (He.ga K "arc_of") ["grid", "cell"] (spArc K) := by
  obtain ⟨fd, F⟩ := T.f_arc_of
  have Olast_cell := ok_last_cell (P := P) (w := w) (base := base) T
  refine ⟨fd, F.ok (k := 1) sc_arc_of (fun vs H Q E h => ?_) (fun cdv A outer s_ H vs Q E hr h => ?_), F.bindsN fun _ _ _ _ _ _ us hl => match us, hl with | [_, _], _ => rfl, F.kp⟩
  · obtain ⟨g, v, rs, t, m, n, c, rfl, ht, hR, m1, n1, ⟨a, rfl, ha⟩, q⟩ := h
    rfl
  obtain ⟨g, v, rs, t, m, n, c, rfl, ht, hR, m1, n1, ⟨a, rfl, ha⟩, q⟩ := h
  have hu65 := K3.Room.units65 hr
  have hu64 := Nat.lt_of_succ_lt hu65
  have hu0 := Nat.lt_of_le_of_lt (Nat.le_add_right _ 65) hu65
  have hu1 := Nat.lt_of_le_of_lt (Nat.add_le_add_left (show 1 ≤ 65 by decide) _) hu65
  have rlast_cell : Room 1 _ := hr.mono (by decide)
  refine ⟨_, pss_cons (ps_asg (pv 1) (pg_tup (by rfl) (pgs_cons (pg_name (i := 2) sc_arc_of.nd rfl (Or.inl rfl)) (pgs_cons (pg_name (i := 3) sc_arc_of.nd rfl (Or.inl rfl)) pgs_nil))))
      (pss_cons (ps_asg (pe_f Olast_cell rlast_cell T.g_last_cell (pa_cons (pv 0) pa_nil)) (pg_tup (by rfl) (pgs_cons (pg_name (i := 4) sc_arc_of.nd rfl (Or.inl rfl)) (pgs_cons (pg_name (i := 5) sc_arc_of.nd rfl (Or.inl rfl)) pgs_nil))))
      (pss_cons (ps_if (pt_cmpR op_ne (pe_cmpR op_eq (pv 2) (pv 4) rfl) (pe_cmpR op_eq (pv 3) (pv 5) rfl) (nomark _)) (pss_one (ps_ret (pe_tup (pa_cons (pe_tup (pa_cons pe_str (pa_cons (pv 3) pa_nil))) (pa_cons (pe_tup (pa_cons pe_str (pa_cons (pv 2) pa_nil))) pa_nil))))) pss_nil)
      (pss_one (ps_ret (pe_tup (pa_cons (pe_tup (pa_cons pe_str (pa_cons (pv 2) pa_nil))) (pa_cons (pe_tup (pa_cons pe_str (pa_cons (pv 3) pa_nil))) pa_nil))))))), ?_⟩
  walk_at "go"
  refine ⟨a, _, rfl, SqT.of ha, rfl, _, _, rfl, _, _, rfl, rfl, ?_⟩
  walk_at "go"
  refine ⟨g, rs, t, m, n, rfl, ht, hR, m1, n1, fun b H1 e1 ⟨b', eb, hb⟩ => ?_⟩
  cases eb
  refine ⟨b, _, rfl, SqT.of hb, rfl, _, _, rfl, _, _, rfl, rfl, ?_⟩
  walk_at "go"
  refine w_eqI ?_
  rw [decV]
  walk_at "go"
  refine w_eqI ?_
  rw [decV]
  rw [show decide ((c.1 : Int) = (((m - 1, n - 1) : Nat × Nat).1 : Int)) = decide (c.1 = m - 1) from decide_eq_decide.mpr (by simp only; omega), show decide ((c.2 : Int) = (((m - 1, n - 1) : Nat × Nat).2 : Int)) = decide (c.2 = n - 1) from decide_eq_decide.mpr (by simp only; omega)]
  refine ⟨rfl, ?_⟩
  walk_at "go"
  have tup2 : ∀ (H2 : Hp) (b1 b2 : Bool) (i1 i2 : Nat), Same H H2 → arcF m n c = ((b1, i1), (b2, i2)) → ∀ t1, H2 t1 = none → ∀ t2, (upd H2 t1 (.tup [.str (plName (b1, i1)), .int (i1 : Int)])) t2 = none → ∀ t3, (upd (upd H2 t1 (.tup [.str (plName (b1, i1)), .int (i1 : Int)])) t2 (.tup [.str (plName (b2, i2)), .int (i2 : Int)])) t3 = none → Q (.ref t3) (upd (upd (upd H2 t1 (.tup [.str (plName (b1, i1)), .int (i1 : Int)])) t2 (.tup [.str (plName (b2, i2)), .int (i2 : Int)])) t3 (.tup [V.ref t1, .ref t2])) := by
    intro H2 b1 b2 i1 i2 e2 ea t1 ht1 t2 ht2 t3 ht3
    have f1 := Same.new ht1 (.tup [.str (plName (b1, i1)), .int (i1 : Int)])
    have f2 := Same.new ht2 (.tup [.str (plName (b2, i2)), .int (i2 : Int)])
    have f3 := Same.new ht3 (.tup [V.ref t1, .ref t2])
    refine q t3 _ (.ref t1) (.ref t2) (e2.trans (f1.trans (f2.trans f3))) upd_same ?_ ?_
    · rw [ea]
      exact ⟨t1, rfl, (f2.trans f3) _ _ upd_same⟩
    · rw [ea]
      exact ⟨t2, rfl, f3 _ _ upd_same⟩
  by_cases hc : decide (c.1 = m - 1) = decide (c.2 = n - 1)
  · have ea : arcF m n c = ((true, c.1), (false, c.2)) := by unfold arcF; rw [if_pos hc]
    rw [decide_eq_true (by rw [hc] : V.bl (decide (c.1 = m - 1)) = V.bl (decide (c.2 = n - 1)))]
    walk_at "go"
    refine ⟨(by show 2 ≤ sizeLine; decide), fun t1 ht1 => ?_⟩
    walk_at "go"
    refine ⟨(by show 2 ≤ sizeLine; decide), fun t2 ht2 => ?_⟩
    refine ⟨(by show 2 ≤ sizeLine; decide), fun t3 ht3 => ?_⟩
    exact tup2 H1 true false c.1 c.2 e1 ea t1 ht1 t2 ht2 t3 ht3
  · have ea : arcF m n c = ((false, c.2), (true, c.1)) := by unfold arcF; rw [if_neg hc]
    rw [decide_eq_false (fun z => hc (V.bl.inj z) : ¬ V.bl (decide (c.1 = m - 1)) = V.bl (decide (c.2 = n - 1)))]
    walk_at "go"
    refine ⟨(by show 2 ≤ sizeLine; decide), fun t1 ht1 => ?_⟩
    walk_at "go"
    refine ⟨(by show 2 ≤ sizeLine; decide), fun t2 ht2 => ?_⟩
    refine ⟨(by show 2 ≤ sizeLine; decide), fun t3 ht3 => ?_⟩
    exact tup2 H1 false true c.2 c.1 e1 ea t1 ht1 t2 ht2 t3 ht3
end
end K3
end F1_part
section F2_part
set_option Elab.async false
set_option linter.all false
set_option maxRecDepth 100000
set_option maxHeartbeats 1000000
set_option pp.deepTerms.threshold 5
open PySem PySem.Spec PyProof.Rows L2
/-- go on as far as nothing is open -/
local macro_rules | `(tactic| walk_at "go") => `(tactic| repeat (first
  | with_reducible refine w_seq ?_ | with_reducible refine w_next ?_ | with_reducible refine w_set ?_ | with_reducible refine w_drop ?_ | with_reducible refine w_ret ?_ | with_reducible refine w_retN ?_
  | with_reducible refine w_if ?_ | ((with_reducible refine' w_var ?hv ?_); (case hv => exact rfl)) | with_reducible refine w_c ?_ | with_reducible refine w_nil ?_ | with_reducible refine w_cons ?_ | with_reducible refine w_op ?_ | with_reducible refine w_un ?_
  | with_reducible refine w_test ?_ | with_reducible refine w_tB ?_ | with_reducible refine w_not ?_ | with_reducible refine w_and ?_ | with_reducible refine w_or ?_ | with_reducible refine w_bl ?_
  | with_reducible refine w_andV ?_ | with_reducible refine w_orV ?_ | with_reducible refine w_notV ?_ | with_reducible refine w_ifE ?_ | with_reducible refine w_chain ?_ | with_reducible refine w_i0 ?_
  | with_reducible refine w_call ?_ | with_reducible refine w_callS ?_ | with_reducible refine w_cB ?_ | with_reducible refine w_tup ?_ | with_reducible refine w_lst ?_ | with_reducible refine w_fldV ?_
  | with_reducible refine w_neF ?_ | with_reducible refine w_neT ?_ | with_reducible refine w_notN ?_ | with_reducible refine w_isN ?_ | with_reducible refine w_gname ?_ | with_reducible refine w_gsub ?_ | with_reducible refine w_asg ?_ | with_reducible refine w_sl ?_ | with_reducible refine w_noP ?_ | with_reducible refine w_int1 ?_ | with_reducible refine w_part ?_ | with_reducible refine w_yes ?_ | with_reducible refine w_nT ?_ | with_reducible refine w_nF ?_ | with_reducible refine w_iteT ?_ | with_reducible refine w_iteF ?_))
namespace K3
/-! ### the dict of steps -/
def Tk (H H' : Hp) : Prop := ∀ a xs, H a = some (.tup xs) → H' a = some (.tup xs)
theorem Tk.of {H H' : Hp} (e : Same H H') : Tk H H' := fun a xs h => e _ _ h
theorem Tk.refl (H : Hp) : Tk H H := fun _ _ h => h
theorem Tk.trans {H H1 H2 : Hp} (a : Tk H H1) (b : Tk H1 H2) : Tk H H2 := fun x xs h => b x xs (a x xs h)
theorem Tk.upd {H : Hp} {p : Addr} {o u : HO} (h : H p = some o) (n : ∀ xs, o ≠ .tup xs) : Tk H (L2.upd H p u) := fun a xs e => by
  rw [upd_ne (fun z => by rw [z, h] at e; exact n xs (Option.some.inj e))]
  exact e
theorem PlAt.tk {H H' : Hp} (e : Tk H H') {v : V} {p : Pl} (h : PlAt H v p) : PlAt H' v p := let ⟨a, h1, h2⟩ := h; ⟨a, h1, e _ _ h2⟩
theorem CellAt.tk {H H' : Hp} (e : Tk H H') {v : V} {c : Nat × Nat} (h : CellAt H v c) : CellAt H' v c := let ⟨a, h1, h2⟩ := h; ⟨a, h1, e _ _ h2⟩
theorem StAt.tk {H H' : Hp} (e : Tk H H') {v : V} {s : Stp} (h : StAt H v s) : StAt H' v s := let ⟨a, vg, vc, h1, h2, h3, h4⟩ := h; ⟨a, vg, vc, h1, e _ _ h2, h3.tk e, h4.tk e⟩
/-- d has at each place a list of its own of the steps that f tells -/
structure Sx (H0 H : Hp) (d : Addr) (kvs : List (List L2.Key × V)) (f : Pl → List Stp) : Prop where
  at_ : H d = some (.dT kvs)
  d0 : H0 d = none
  get : ∀ p, (valV kvs (plKey p) = none ∧ f p = []) ∨ ∃ l xs, valV kvs (plKey p) = some (.ref l) ∧ H l = some (.lst xs) ∧ H0 l = none ∧ Paired (StAt H) xs (f p)
  inj : ∀ p q l, valV kvs (plKey p) = some (.ref l) → valV kvs (plKey q) = some (.ref l) → p = q
  same : Same H0 H
theorem Sx.more {H0 H H1 : Hp} {d : Addr} {kvs : List (List L2.Key × V)} {f : Pl → List Stp} (S : Sx H0 H d kvs f) (e : Same H H1) : Sx H0 H1 d kvs f :=
  ⟨e _ _ S.at_, S.d0, fun p => (S.get p).imp id fun ⟨l, xs, h1, h2, h3, h4⟩ => ⟨l, xs, h1, e _ _ h2, h3, L2.Paired.mapP h4 fun _ _ z => z.same e⟩, S.inj, S.same.trans e⟩
/-- a new key with an empty list -/
theorem Sx.key {H0 H : Hp} {d z : Addr} {kvs : List (List L2.Key × V)} {f : Pl → List Stp} (S : Sx H0 H d kvs f) {p : Pl} (hn : valV kvs (plKey p) = none) (hz : H z = some (.lst [])) (z0 : H0 z = none) (zl : ∀ q l, valV kvs (plKey q) = some (.ref l) → l ≠ z) :
    Sx H0 (upd H d (.dT (putK kvs (plKey p) (.ref z)))) d (putK kvs (plKey p) (.ref z)) f := by
  have tk : Tk H (upd H d (.dT (putK kvs (plKey p) (.ref z)))) := Tk.upd S.at_ fun xs e => by cases e
  have zd : z ≠ d := fun e => by rw [e, S.at_] at hz; cases hz
  have keep : ∀ {l : Addr} {xs : List V}, H l = some (.lst xs) → (upd H d (.dT (putK kvs (plKey p) (.ref z)))) l = some (.lst xs) := fun h => by
    rw [upd_ne (fun e => by rw [e, S.at_] at h; cases h)]
    exact h
  refine ⟨upd_same, S.d0, fun q => ?_, fun q r l h1 h2 => ?_, S.same.mut S.d0⟩
  · by_cases c : q = p
    · subst c
      refine .inr ⟨z, [], ?_, keep hz, z0, ?_⟩
      · rw [valV_put, if_pos rfl]
      · rcases S.get q with ⟨_, h⟩ | ⟨l, xs, h, _⟩
        · rw [h]; exact .nil
        · rw [hn] at h; cases h
    · have ne : plKey q ≠ plKey p := fun e => c (plKey_inj e)
      rw [valV_put, if_neg ne]
      exact (S.get q).imp id fun ⟨l, xs, h1, h2, h3, h4⟩ => ⟨l, xs, h1, keep h2, h3, L2.Paired.mapP h4 fun _ _ y => y.tk tk⟩
  · rw [valV_put] at h1 h2
    by_cases c1 : plKey q = plKey p
    · by_cases c2 : plKey r = plKey p
      · exact plKey_inj (c1.trans c2.symm)
      · rw [if_pos c1] at h1
        rw [if_neg c2] at h2
        cases h1
        exact absurd rfl (zl r _ h2)
    · rw [if_neg c1] at h1
      by_cases c2 : plKey r = plKey p
      · rw [if_pos c2] at h2
        cases h2
        exact absurd rfl (zl q _ h1)
      · rw [if_neg c2] at h2
        exact S.inj q r l h1 h2
/-- a step more at a place -/
theorem Sx.app {H0 H : Hp} {d l : Addr} {kvs : List (List L2.Key × V)} {f : Pl → List Stp} {xs : List V} {v : V} {s : Stp} (S : Sx H0 H d kvs f) {p : Pl} (hv : valV kvs (plKey p) = some (.ref l)) (hl : H l = some (.lst xs)) (hs : StAt H v s) :
    Sx H0 (upd H l (.lst (xs ++ [v]))) d kvs (fun q => if q = p then f q ++ [s] else f q) := by
  have tk : Tk H (upd H l (.lst (xs ++ [v]))) := Tk.upd hl fun xs e => by cases e
  have dl : d ≠ l := fun e => by rw [← e, S.at_] at hl; cases hl
  have l0 : H0 l = none := by
    rcases S.get p with ⟨h, _⟩ | ⟨l', xs', h1, h2, h3, h4⟩
    · rw [hv] at h; cases h
    · rw [hv] at h1; cases h1; exact h3
  refine ⟨by rw [upd_ne dl]; exact S.at_, S.d0, fun q => ?_, S.inj, S.same.mut l0⟩
  by_cases c : q = p
  · subst c
    rw [if_pos rfl]
    rcases S.get q with ⟨h, _⟩ | ⟨l', xs', h1, h2, h3, h4⟩
    · rw [hv] at h; cases h
    · rw [hv] at h1
      cases h1
      rw [hl] at h2
      cases h2
      exact .inr ⟨l, _, hv, upd_same, l0, K3.Paired.app (L2.Paired.mapP h4 fun _ _ y => y.tk tk) (.cons (hs.tk tk) .nil)⟩
  · rw [if_neg c]
    refine (S.get q).imp id fun ⟨l', xs', h1, h2, h3, h4⟩ => ⟨l', xs', h1, ?_, h3, L2.Paired.mapP h4 fun _ _ y => y.tk tk⟩
    rw [upd_ne (fun e => c (S.inj q p l (by rw [← e]; exact h1) hv))]
    exact h2
theorem Sx.eq {H0 H : Hp} {d : Addr} {kvs : List (List L2.Key × V)} {f g : Pl → List Stp} (S : Sx H0 H d kvs f) (h : ∀ p, f p = g p) : Sx H0 H d kvs g := by
  have e : f = g := funext h
  rw [← e]
  exact S
theorem setd_go {K : PySem.W.Frag} {H0 H : Hp} {d : Addr} {kvs : List (List L2.Key × V)} {f : Pl → List Stp} (S : Sx H0 H d kvs f) {p : Pl} {v1 : V} (hp : PlAt H v1 p) {σ : L2.St} {J I : Nat} (σd : σ[J]? = some (some (.ref d))) (σp : σ[I]? = some (some v1)) (hk : kvs.length ≤ 1000) {ta : TA} {D : L2.Ends} (s : Stp)
    (hf : (f p).length ≤ 1000) (hta : ∀ H1 (Q : List V → Hp → Prop), Tk H H1 → (∀ v H2, Same H1 H2 → StAt H2 v s → Q [v] H2) → ta σ H1 Q)
    (k : ∀ H' kvs', Sx H0 H' d kvs' (fun q => if q = p then f q ++ [s] else f q) → kvs'.length ≤ kvs.length + 1 → Tk H H' → D.nx σ H') :
    tDrop (tBM K "list" rAppend (tSetdT (tVar J) (tVar I) (tLst tNil)) ta) D σ H := by
  obtain ⟨b, rfl, hb⟩ := hp
  have app : ∀ (H2 : Hp) (kvs2 : List (List L2.Key × V)) (l : Addr), Sx H0 H2 d kvs2 f → valV kvs2 (plKey p) = some (.ref l) → kvs2.length ≤ kvs.length + 1 → Tk H H2 → tyV K "list" (.ref l) H2 ∧ ta σ H2 fun xs H3 => rAppend (.ref l) xs H3 fun _ H4 => D.nx σ H4 := by
    intro H2 kvs2 l S2 hv hk2 tk2
    obtain ⟨xs, hl, hx⟩ : ∃ xs, H2 l = some (.lst xs) ∧ Paired (StAt H2) xs (f p) := by
      rcases S2.get p with ⟨h, _⟩ | ⟨l', xs, h1, h2, h3, h4⟩
      · rw [hv] at h; cases h
      · rw [hv] at h1; cases h1; exact ⟨xs, h2, h4⟩
    refine ⟨.inl ⟨rfl, _, SqL.of hl⟩, hta H2 _ tk2 fun v H3 e3 hs => ?_⟩
    have S3 := S2.more e3
    have hl3 := e3 _ _ hl
    refine ⟨l, xs, v, rfl, rfl, hl3, Nat.lt_of_le_of_lt (show xs.length ≤ 1000 by rw [hx.length]; exact hf) (by decide), ?_⟩
    exact k _ kvs2 (S3.app hv hl3 hs) hk2 (tk2.trans ((Tk.of e3).trans (Tk.upd hl3 fun xs e => by cases e)))
  refine w_drop ?_
  refine ⟨_, σd, d, rfl, .inr ⟨kvs, .inl S.at_⟩, b_var σp ?_⟩
  refine w_lst (w_nil ⟨Nat.zero_le _, fun z hz => ?_⟩)
  have e1 := Same.new hz (.lst [])
  have S1 := S.more e1
  refine ⟨kvs, plKey p, b, S1.at_, rfl, e1 _ _ hb, Nat.lt_of_le_of_lt hk (by decide), fun v hv => ?_, fun hn => ?_⟩
  · obtain ⟨l, rfl⟩ : ∃ l, v = .ref l := by
      rcases S1.get p with ⟨h, _⟩ | ⟨l', xs, h1, _⟩
      · rw [hv] at h; cases h
      · rw [hv] at h1; cases h1; exact ⟨_, rfl⟩
    exact app _ kvs l S1 hv (Nat.le_succ _) (Tk.of e1)
  · have zl : ∀ q l, valV kvs (plKey q) = some (.ref l) → l ≠ z := fun q l h e => by
      rcases S.get q with ⟨h0, _⟩ | ⟨l', xs, h1, h2, _⟩
      · rw [h] at h0; cases h0
      · rw [h] at h1; cases h1; rw [e, hz] at h2; cases h2
    have S2 := S1.key hn upd_same (S.same.free hz) zl
    have lk : (putK kvs (plKey p) (.ref z)).length ≤ kvs.length + 1 := by
      have := length_putK kvs (plKey p) (.ref z)
      omega
    exact app _ _ z S2 (by rw [valV_put, if_pos rfl]) lk ((Tk.of e1).trans (Tk.upd S1.at_ fun xs e => by cases e))
where b_var {σ : L2.St} {i : Nat} {v : V} {H : Hp} {Q : VK} (h : σ[i]? = some (some v)) (q : Q v H) : tVar i σ H Q := ⟨v, h, q⟩
def StepsAt (H : Hp) (d : Addr) (f : Pl → List Stp) : Prop := ∃ kvs, H d = some (.dT kvs) ∧ ∀ p, (valV kvs (plKey p) = none ∧ f p = []) ∨ ∃ l xs, valV kvs (plKey p) = some (.ref l) ∧ H l = some (.lst xs) ∧ Paired (StAt H) xs (f p)
def spSteps (K : PySem.W.Frag) : Sp := fun vs H Q _ => ∃ (g l : Addr) (rs : List Addr) (t : List (List Int)) (m n : Nat) (ws : List V) (cs : List (Nat × Nat)), vs = [.ref g, .ref l] ∧ GT K H g rs t ∧ Rect t m n ∧ 1 ≤ m ∧ 1 ≤ n ∧ H l = some (.lst ws) ∧ Paired (CellAt H) ws cs ∧ cs.length ≤ 100 ∧
  ∀ d H', Same H H' → H d = none → StepsAt H' d (stepsF m n cs) → (∀ kvs p l, H' d = some (.dT kvs) → valV kvs (plKey p) = some (.ref l) → H l = none) → Q (.ref d) H'
theorem steps_len (m n : Nat) (cs : List (Nat × Nat)) (p : Pl) : (stepsF m n cs p).length ≤ cs.length := List.length_filterMap_le _ _
section
variable {P : Program} {w : World} {K : PySem.W.Frag} {mg : Str → Option Value} {base : Heap}
theorem sc_steps_of : FnScope ["grid", "cells", "steps", "cell", "start", "goal"] ["grid", "cells"] (defScope s_steps_of) := ⟨rfl, rfl, rfl, by decide +kernel, rfl, by decide +kernel, by decide +kernel⟩
theorem ok_steps_of (T : Tx K mg) : Ok P w K mg base 3 (He.ga K "steps_of") ["grid", "cells"] (spSteps K) := by
  obtain ⟨fd, F⟩ := T.f_steps_of
  have Oarc_of := ok_arc_of (P := P) (w := w) (base := base) T
  refine ⟨fd, F.ok (k := 2) sc_steps_of (fun vs H Q E h => ?_) (fun cdv A outer s_ H vs Q E hr h => ?_), F.bindsN fun _ _ _ _ _ _ us hl => match us, hl with | [_, _], _ => rfl, F.kp⟩
  · obtain ⟨g, l, rs, t, m, n, ws, cs, rfl, ht, hR, m1, n1, hl, hw, hlen, q⟩ := h
    rfl
  obtain ⟨g, l, rs, t, m, n, ws, cs, rfl, ht, hR, m1, n1, hl, hw, hlen, q⟩ := h
  have hu65 := K3.Room.units65 hr
  have hu64 := Nat.lt_of_succ_lt hu65
  have hu0 := Nat.lt_of_le_of_lt (Nat.le_add_right _ 65) hu65
  have hu1 := Nat.lt_of_le_of_lt (Nat.add_le_add_left (show 1 ≤ 65 by decide) _) hu65
  have rarc_of : Room 2 _ := hr.mono (by decide)
  refine ⟨_, pss_cons (ps_set (i := 2) sc_steps_of.nd rfl (Or.inl rfl) pe_dnewT)
      (pss_cons (ps_for (passes_of rfl) (by rfl) (pi_list (pv 1)) (pg_name (i := 3) sc_steps_of.nd rfl (Or.inl rfl)) (pss_cons (ps_asg (pe_f Oarc_of rarc_of T.g_arc_of (pa_cons (pv 0) (pa_cons (pv 3) pa_nil))) (pg_tup (by rfl) (pgs_cons (pg_name (i := 4) sc_steps_of.nd rfl (Or.inl rfl)) (pgs_cons (pg_name (i := 5) sc_steps_of.nd rfl (Or.inl rfl)) pgs_nil))))
      (pss_cons (ps_expr (pe_bm PySem.F.plainAttrs_list PySem.F.slot_list_append PySem.F.type_list_append mt_append (pe_setdT hu1 (pv 2) (pv 4) (pe_lst pa_nil) ⟨rfl, rfl, rfl, rfl⟩) (pa_cons (pe_tup (pa_cons (pv 5) (pa_cons (pv 3) (pa_cons pe_int pa_nil)))) pa_nil)))
      (pss_one (ps_expr (pe_bm PySem.F.plainAttrs_list PySem.F.slot_list_append PySem.F.type_list_append mt_append (pe_setdT hu1 (pv 2) (pv 5) (pe_lst pa_nil) ⟨rfl, rfl, rfl, rfl⟩) (pa_cons (pe_tup (pa_cons (pv 4) (pa_cons (pv 3) (pa_cons (pe_un un_neg pe_int) pa_nil)))) pa_nil)))))))
      (pss_one (ps_ret (pv 2)))), ?_⟩
  have lw := hw.length
  walk_at "go"
  refine fun D hD => ?_
  have eD := Same.new hD (.dT [])
  walk_at "go"
  refine list_open ?_
  walk_at "go"
  refine ⟨l, rfl, ⟨_, SqL.of (eD _ _ hl)⟩, ?_⟩
  refine for_list (xs := ws) (fun (i : Nat) σ H' => ∃ (o3 o4 o5 : Option V) (kvs : List (List L2.Key × V)), σ = [some (.ref g), some (.ref l), some (.ref D), o3, o4, o5] ∧ Sx H H' D kvs (stepsF m n (cs.take i)) ∧ kvs.length ≤ 2 * i)
    ⟨none, none, none, [], rfl, ⟨upd_same, hD, fun p => .inl ⟨rfl, rfl⟩, fun p q l h => (by cases h), eD⟩, Nat.le_refl 0⟩ (fun i σ H' _ ⟨_, _, _, _, _, S, _⟩ => SqL.of (S.same _ _ hl)) ?_ ?_
  · rintro i x σ H1 hx ⟨o3, o4, o5, kvs, rfl, S, hk⟩
    obtain ⟨c, hc, hxc⟩ := K3.Paired.get hw hx
    have ic : i < cs.length := (List.getElem?_eq_some_iff.mp hc).1
    walk_at "go"
    refine ⟨g, x, rs, t, m, n, c, rfl, ht.same S.same, hR, m1, n1, hxc.same S.same, fun a H2 v1 v2 e2 ha p1 p2 => ?_⟩
    refine ⟨a, _, rfl, SqT.of ha, rfl, _, _, rfl, _, _, rfl, rfl, ?_⟩
    walk_at "go"
    have S2 := S.more e2
    have lf : ∀ p, (stepsF m n (cs.take i) p).length ≤ 1000 := fun p => by
      have := steps_len m n (cs.take i) p
      rw [List.length_take] at this
      omega
    refine setd_go S2 p1 (J := 2) (I := 4) rfl rfl (by omega) ⟨(arcF m n c).2, c, true⟩ (lf _) (fun H3 Q tk k => ?_) fun H3 kvs3 S3 hk3 tk3 => ?_
    · walk_at "go"
      refine ⟨(by show 3 ≤ sizeLine; decide), fun b hb => k (.ref b) _ (Same.new hb _) ?_⟩
      have eb := Same.new hb (.tup [v2, x, .int 1])
      exact ⟨b, v2, x, rfl, upd_same, (p2.tk tk).same eb, (((hxc.same S.same).same e2).tk tk).same eb⟩
    walk_at "go"
    refine setd_go S3 (p2.tk tk3) (J := 2) (I := 5) rfl rfl (by omega) ⟨(arcF m n c).1, c, false⟩ ?_ (fun H4 Q tk k => ?_) fun H4 kvs4 S4 hk4 tk4 => ?_
    · have := lf (arcF m n c).2
      split
      · rename_i h
        exact absurd h.symm (arc_ne m n c)
      · exact this
    · walk_at "go"
      refine ⟨1, rfl, ?_⟩
      walk_at "go"
      refine ⟨(by show 3 ≤ sizeLine; decide), fun b hb => k (.ref b) _ (Same.new hb _) ?_⟩
      have eb := Same.new hb (.tup [v1, x, .int (-1)])
      exact ⟨b, v1, x, rfl, upd_same, ((p1.tk tk3).tk tk).same eb, ((((hxc.same S.same).same e2).tk tk3).tk tk).same eb⟩
    refine ⟨_, _, _, kvs4, rfl, S4.eq fun p => ?_, by omega⟩
    rw [List.take_add_one, hc]
    show _ = stepsF m n (cs.take i ++ [c]) p
    rw [stepsF_snoc]
    have ne := arc_ne m n c
    by_cases h1 : (arcF m n c).1 = p
    · rw [if_pos h1.symm, if_neg (fun z => ne (h1.trans z)), if_pos h1]
    · rw [if_neg h1]
      by_cases h2 : (arcF m n c).2 = p
      · rw [if_pos h2.symm, if_neg (fun z => h1 z.symm), if_pos h2]
      · rw [if_neg (fun z => h2 z.symm), if_neg (fun z => h1 z.symm), if_neg h2, List.append_nil]
  · rintro σ H1 ⟨o3, o4, o5, kvs, rfl, S, hk⟩
    rw [lw, List.take_length] at S
    walk_at "go"
    refine q D H1 S.same hD ⟨kvs, S.at_, fun p => (S.get p).imp id fun ⟨l, xs, h1, h2, h3, h4⟩ => ⟨l, xs, h1, h2, h4⟩⟩ fun kvs' p l' h1 h2 => ?_
    rw [S.at_] at h1
    cases h1
    rcases S.get p with ⟨h, _⟩ | ⟨l2, xs, h, _, h3, _⟩
    · rw [h2] at h; cases h
    · rw [h2] at h; cases h; exact h3
end
end K3
end F2_part
section F3_part
set_option Elab.async false
set_option linter.all false
set_option maxRecDepth 100000
set_option maxHeartbeats 1000000
set_option pp.deepTerms.threshold 5
open PySem PySem.Spec PyProof.Rows L2
/-- go on as far as nothing is open -/
local macro_rules | `(tactic| walk_at "go") => `(tactic| repeat (first
  | with_reducible refine w_seq ?_ | with_reducible refine w_next ?_ | with_reducible refine w_set ?_ | with_reducible refine w_drop ?_ | with_reducible refine w_ret ?_ | with_reducible refine w_retN ?_
  | with_reducible refine w_if ?_ | ((with_reducible refine' w_var ?hv ?_); (case hv => exact rfl)) | with_reducible refine w_c ?_ | with_reducible refine w_nil ?_ | with_reducible refine w_cons ?_ | with_reducible refine w_op ?_ | with_reducible refine w_un ?_
  | with_reducible refine w_test ?_ | with_reducible refine w_tB ?_ | with_reducible refine w_not ?_ | with_reducible refine w_and ?_ | with_reducible refine w_or ?_ | with_reducible refine w_bl ?_
  | with_reducible refine w_andV ?_ | with_reducible refine w_orV ?_ | with_reducible refine w_notV ?_ | with_reducible refine w_ifE ?_ | with_reducible refine w_chain ?_ | with_reducible refine w_i0 ?_
  | with_reducible refine w_call ?_ | with_reducible refine w_callS ?_ | with_reducible refine w_cB ?_ | with_reducible refine w_tup ?_ | with_reducible refine w_lst ?_ | with_reducible refine w_fldV ?_
  | with_reducible refine w_neF ?_ | with_reducible refine w_neT ?_ | with_reducible refine w_notN ?_ | with_reducible refine w_isN ?_ | with_reducible refine w_gname ?_ | with_reducible refine w_gsub ?_ | with_reducible refine w_asg ?_ | with_reducible refine w_sl ?_ | with_reducible refine w_noP ?_ | with_reducible refine w_int1 ?_ | with_reducible refine w_part ?_ | with_reducible refine w_yes ?_ | with_reducible refine w_nT ?_ | with_reducible refine w_nF ?_ | with_reducible refine w_iteT ?_ | with_reducible refine w_iteF ?_))
namespace L2
open PySem PySem.Spec PyProof.Rows
/-- {k: v}, k a tuple of ints and texts; the new dict stands empty while the pair is made -/
def tDisp1 (tk tv : TE) : TE := fun σ H Q => ∀ p, H p = none → tk σ (upd H p (.dT [])) fun x H1 => tv σ H1 fun y H2 => ∃ (ks : List L2.Key) (b : Addr), x = .ref b ∧ H2 p = some (.dT []) ∧ H2 b = some (.tup (ks.map kV)) ∧ Q (.ref p) (upd H2 p (.dT [(ks, y)]))
theorem pe_disp1 {X : Cx} {pos : Pos} {k v : Expr} {tk tv : TE} (hu : X.A.units + 1 < cLine) (hk : PE X k tk) (hv : PE X v tv) : PE X (.Dict [some k] [v] pos) (tDisp1 tk tv) := by
  refine ⟨fun pins s σ H Q I q => ?_⟩
  have hn := I.hok.fresh (Nat.le_refl s.heap.objs.size)
  have I1 := I.laid (t' := s.toks) (fun _ _ z => Heap.get?_push_of_some _ z) (Nat.le_refl _) (dt_empty (P := X.prog) (w := X.w) s.heap I.big)
  have sh := zip_pairTrees [some k] [v] X.env pos rfl rfl
  have ln : (pairTrees [some k] [v] X.env pos).length = 1 := pairTrees_length [some k] [v] X.env pos rfl rfl
  rw [arm_eval_Dict, sh, dictDisplay_pairs _ (fun e => by rw [e] at ln; cases ln) (by rw [ln]; decide)]
  refine wpAny_bind (wpAny_standAt (wpAny_bind ?_))
  refine wpAny_subDictH (knd := tupleKind (mixKind X.prog X.w)) (Q := fun d s' => wpAny (model X.prog X.w) X.A (pure (Value.ref d)) (EP X pins σ Q) X.xe s') ?_ (by rw [ln]; decide) ?_
  · exact Nat.lt_of_succ_lt hu
  refine pairTrees_cons_walk (thn (hk.run pins _ σ _ _ I1 (q _ hn)) fun kv s1 ⟨x, H1, J1, r1, q1⟩ => thn (hv.run pins s1 σ H1 _ J1 q1) fun vv s2 ⟨y, H2, J2, r2, ks, b, ex, e2, eb, q2⟩ => pairTrees_nil_walk ?_)
  subst ex
  obtain rfl : kv = Value.ref b := r1
  obtain ⟨z1, z2, xs, rel, dd⟩ := dt_of J2.hok e2
  cases rel
  refine ⟨[(ks, b, vv)], ⟨rfl, rfl, key_of J2.hok eb, trivial⟩, dd, fun h' tk' dd' hs => wpAny_pure ⟨.ref s.heap.objs.size, _, ?_, rfl, q2⟩⟩
  obtain ⟨o, es, ep, g1, g2, g3, g4, _, g5⟩ := dd'
  refine d_write J2 (by rw [e2]; exact True.intro) hs ⟨o, g1⟩ ⟨by show 1 ≤ sizeLine; decide, z2, _, .cons ⟨rfl, ?_, r2⟩ .nil, o, es, ep, g1, g2, g3, g4, g5⟩
  rw [upd_ne (ne_of eb e2 (fun z => nomatch z))]
  exact eb
end L2
end F3_part
section F4_part
set_option Elab.async false
set_option linter.all false
set_option maxRecDepth 100000
set_option maxHeartbeats 1000000
set_option pp.deepTerms.threshold 5
open PySem PySem.Spec PyProof.Rows L2
/-- go on as far as nothing is open -/
local macro_rules | `(tactic| walk_at "go") => `(tactic| repeat (first
  | with_reducible refine w_seq ?_ | with_reducible refine w_next ?_ | with_reducible refine w_set ?_ | with_reducible refine w_drop ?_ | with_reducible refine w_ret ?_ | with_reducible refine w_retN ?_
  | with_reducible refine w_if ?_ | ((with_reducible refine' w_var ?hv ?_); (case hv => exact rfl)) | with_reducible refine w_c ?_ | with_reducible refine w_nil ?_ | with_reducible refine w_cons ?_ | with_reducible refine w_op ?_ | with_reducible refine w_un ?_
  | with_reducible refine w_test ?_ | with_reducible refine w_tB ?_ | with_reducible refine w_not ?_ | with_reducible refine w_and ?_ | with_reducible refine w_or ?_ | with_reducible refine w_bl ?_
  | with_reducible refine w_andV ?_ | with_reducible refine w_orV ?_ | with_reducible refine w_notV ?_ | with_reducible refine w_ifE ?_ | with_reducible refine w_chain ?_ | with_reducible refine w_i0 ?_
  | with_reducible refine w_call ?_ | with_reducible refine w_callS ?_ | with_reducible refine w_cB ?_ | with_reducible refine w_tup ?_ | with_reducible refine w_lst ?_ | with_reducible refine w_fldV ?_
  | with_reducible refine w_neF ?_ | with_reducible refine w_neT ?_ | with_reducible refine w_notN ?_ | with_reducible refine w_isN ?_ | with_reducible refine w_gname ?_ | with_reducible refine w_gsub ?_ | with_reducible refine w_asg ?_ | with_reducible refine w_sl ?_ | with_reducible refine w_noP ?_ | with_reducible refine w_int1 ?_ | with_reducible refine w_part ?_ | with_reducible refine w_yes ?_ | with_reducible refine w_nT ?_ | with_reducible refine w_nF ?_ | with_reducible refine w_iteT ?_ | with_reducible refine w_iteF ?_))
namespace K3
abbrev Came := List (Pl × Option Stp)
def keysOf (c : Came) : List Pl := c.map (·.1)
def visit1 (u : List (List Int)) (p : Pl) (came : Came) (s : Stp) : Came := if s.to ∉ keysOf came ∧ (s.up = true ∨ 0 < at2 u s.c.1 s.c.2) then came ++ [(s.to, some ⟨p, s.c, s.up⟩)] else came
def visit (u : List (List Int)) (p : Pl) (came : Came) (ss : List Stp) : Came := ss.foldl (visit1 u p) came
def bfs (u : List (List Int)) (f : Pl → List Stp) : Nat → Nat → Came → Came
  | 0, _, came => came
  | k + 1, i, came => match came[i]? with
    | none => came
    | some (p, _) => bfs u f k (i + 1) (visit u p came (f p))
def waysF (u : List (List Int)) (f : Pl → List Stp) (N : Nat) (start : Pl) : Came := bfs u f N 0 [(start, none)]
/-! ### in the heap -/
def CEv (H : Hp) (v : V) : Option Stp → Prop
  | none => v = .non
  | some s => StAt H v s
theorem CEv.tk {H H' : Hp} (e : Tk H H') {v : V} : ∀ {o : Option Stp}, CEv H v o → CEv H' v o
  | none, h => h
  | some _, h => StAt.tk e h
def CE (H : Hp) (kv : List L2.Key × V) (q : Pl × Option Stp) : Prop := kv.1 = plKey q.1 ∧ CEv H kv.2 q.2
def CameAt (H : Hp) (d : Addr) (came : Came) : Prop := ∃ kvs, H d = some (.dT kvs) ∧ Paired (CE H) kvs came
theorem came_get {H : Hp} : ∀ {kvs : List (List L2.Key × V)} {came : Came}, Paired (CE H) kvs came → ∀ p, (p ∉ keysOf came ∧ valV kvs (plKey p) = none) ∨ ∃ i o v, came[i]? = some (p, o) ∧ (∀ (j : Nat) (q : Pl × Option Stp), j < i → came[j]? = some q → q.1 ≠ p) ∧ valV kvs (plKey p) = some v ∧ CEv H v o
  | _, _, .nil, p => .inl ⟨fun h => (by cases h), rfl⟩
  | _, _, .cons (a := kv) (b := q) h t, p => by
    by_cases e : q.1 = p
    · refine .inr ⟨0, q.2, kv.2, ?_, fun j r hj => absurd hj (Nat.not_lt_zero _), ?_, h.2⟩
      · rw [← e]; rfl
      · rw [valV_pos (by rw [h.1, e])]
    · have ne : ¬ kv.1 = plKey p := fun z => e (plKey_inj (h.1.symm.trans z))
      rw [valV_neg ne]
      rcases came_get t p with ⟨h1, h2⟩ | ⟨i, o, v, h1, h2, h3, h4⟩
      · refine .inl ⟨fun z => ?_, h2⟩
        rcases List.mem_cons.mp z with z | z
        · exact e z.symm
        · exact h1 z
      · refine .inr ⟨i + 1, o, v, h1, fun j r hj hr => ?_, h3, h4⟩
        cases j with
        | zero =>
          have : q = r := by simpa using hr
          rw [← this]
          exact e
        | succ j => exact h2 j r (by omega) (by simpa using hr)
theorem CE.tk {H H' : Hp} (e : Tk H H') {kv : List L2.Key × V} {q : Pl × Option Stp} (h : CE H kv q) : CE H' kv q := ⟨h.1, h.2.tk e⟩
theorem came_len {H : Hp} {kvs : List (List L2.Key × V)} {came : Came} (h : Paired (CE H) kvs came) : kvs.length = came.length := h.length
theorem put_new {kvs : List (List L2.Key × V)} {k : List L2.Key} {v : V} (h : valV kvs k = none) : putK kvs k v = kvs ++ [(k, v)] := by
  unfold putK
  rw [if_neg]
  rw [valV_any, h]
  simp
/-- a flow: its cell, its numbers (a table), its steps -/
structure FlowAt (K : PySem.W.Frag) (H : Hp) (F : Addr) (c : Nat × Nat) (np : Addr) (rs : List Addr) (u : List (List Int)) (m n : Nat) (f : Pl → List Stp) : Prop where
  ob : ∃ dx vc d kvs, H F = some (.ins (He.ga K "Flow") dx [("cell", vc), ("numbers", .ref np), ("steps", .ref d)]) ∧ CellAt H vc c ∧ H d = some (.dT kvs) ∧ ∀ p, (valV kvs (plKey p) = none ∧ f p = []) ∨ ∃ l xs, valV kvs (plKey p) = some (.ref l) ∧ H l = some (.lst xs) ∧ l ∉ rs ∧ Paired (StAt H) xs (f p)
  tab : Tab H np rs u
  rect : Rect u m n
  nd : rs.Nodup
  ne : np ∉ rs
theorem FlowAt.same {K : PySem.W.Frag} {H H' : Hp} {F : Addr} {c : Nat × Nat} {np : Addr} {rs : List Addr} {u : List (List Int)} {m n : Nat} {f : Pl → List Stp} (h : FlowAt K H F c np rs u m n f) (e : Same H H') : FlowAt K H' F c np rs u m n f := by
  obtain ⟨⟨dx, vc, d, kvs, h1, h2, h3, h4⟩, h5, h6, h7, h8⟩ := h
  exact ⟨⟨dx, vc, d, kvs, e _ _ h1, h2.same e, e _ _ h3, fun p => (h4 p).imp id fun ⟨l, xs, a, b, c, d⟩ => ⟨l, xs, a, e _ _ b, c, L2.Paired.mapP d fun _ _ z => z.same e⟩⟩, h5.same e, h6, h7, h8⟩
/-- what the steps of a flow on an m by n table are like -/
structure StepsOk (m n : Nat) (f : Pl → List Stp) : Prop where
  len : ∀ p, (f p).length ≤ 100
  cell : ∀ p, ∀ s ∈ f p, s.c.1 < m ∧ s.c.2 < n
  place : ∀ p, ∀ s ∈ f p, s.to.2 < (if s.to.1 then m else n)
def spWays (K : PySem.W.Frag) : Sp := fun vs H Q _ => ∃ (F : Addr) (v : V) (c : Nat × Nat) (np : Addr) (rs : List Addr) (u : List (List Int)) (m n : Nat) (f : Pl → List Stp) (start : Pl), vs = [.ref F, v] ∧ FlowAt K H F c np rs u m n f ∧ StepsOk m n f ∧ m ≤ 60 ∧ n ≤ 60 ∧ PlAt H v start ∧ start.2 < (if start.1 then m else n) ∧
  ∀ d H', Same H H' → H d = none → CameAt H' d (waysF u f (m + n + 1) start) → Q (.ref d) H'
def slotNat (i : Nat) (σ : L2.St) : Nat := match σ[i]? with
  | some (some (V.int j)) => j.toNat
  | _ => 0
/-! ### what a search keeps -/
structure CameOk (m n : Nat) (came : Came) : Prop where
  nd : (keysOf came).Nodup
  place : ∀ p ∈ keysOf came, p.2 < (if p.1 then m else n)
def allPl (m n : Nat) : List Pl := (List.range m).map (fun i => (true, i)) ++ (List.range n).map fun j => (false, j)
theorem allPl_mem {m n : Nat} {p : Pl} (h : p.2 < (if p.1 then m else n)) : p ∈ allPl m n := by
  obtain ⟨b, i⟩ := p
  unfold allPl
  cases b with
  | true => exact List.mem_append_left _ (List.mem_map.mpr ⟨i, List.mem_range.mpr (by simpa using h), rfl⟩)
  | false => exact List.mem_append_right _ (List.mem_map.mpr ⟨i, List.mem_range.mpr (by simpa using h), rfl⟩)
theorem nodup_len {α : Type} [DecidableEq α] : ∀ {l k : List α}, l.Nodup → (∀ x ∈ l, x ∈ k) → l.length ≤ k.length
  | [], _, _, _ => Nat.zero_le _
  | x :: l, k, nd, h => by
    have hx := h x (List.mem_cons_self ..)
    obtain ⟨n1, n2⟩ := List.nodup_cons.mp nd
    have ih := nodup_len (l := l) (k := k.erase x) n2 fun y hy => (List.mem_erase_of_ne (fun z => n1 (by rw [← z]; exact hy))).mpr (h y (List.mem_cons_of_mem _ hy))
    rw [List.length_erase_of_mem hx] at ih
    have := List.length_pos_of_mem hx
    rw [List.length_cons]
    omega
theorem CameOk.len {m n : Nat} {came : Came} (h : CameOk m n came) : came.length ≤ m + n := by
  have := nodup_len (k := allPl m n) h.nd fun p hp => allPl_mem (h.place p hp)
  unfold keysOf allPl at this
  simpa using this
theorem CameOk.visit1 {m n : Nat} {u : List (List Int)} {p : Pl} {came : Came} {s : Stp} (h : CameOk m n came) (hs : s.to.2 < (if s.to.1 then m else n)) : CameOk m n (visit1 u p came s) := by
  unfold K3.visit1
  split
  · rename_i c
    have e : keysOf (came ++ [(s.to, some ⟨p, s.c, s.up⟩)]) = keysOf came ++ [s.to] := by unfold keysOf; rw [List.map_append]; rfl
    refine ⟨by rw [e]; exact nodup_snoc h.nd c.1, fun q hq => ?_⟩
    rw [e] at hq
    rcases List.mem_append.mp hq with hq | hq
    · exact h.place q hq
    · rw [List.mem_singleton.mp hq]; exact hs
  · exact h
theorem visit1_pre {u : List (List Int)} {p : Pl} {came : Came} {s : Stp} : ∃ more, visit1 u p came s = came ++ more := by
  unfold visit1
  split
  · exact ⟨_, rfl⟩
  · exact ⟨[], (List.append_nil _).symm⟩
theorem visit_pre {u : List (List Int)} {p : Pl} : ∀ {ss : List Stp} {came : Came}, ∃ more, visit u p came ss = came ++ more
  | [], came => ⟨[], (List.append_nil _).symm⟩
  | s :: ss, came => by
    obtain ⟨m1, h1⟩ := visit1_pre (u := u) (p := p) (came := came) (s := s)
    obtain ⟨m2, h2⟩ := visit_pre (u := u) (p := p) (ss := ss) (came := visit1 u p came s)
    refine ⟨m1 ++ m2, ?_⟩
    show visit u p (visit1 u p came s) ss = _
    rw [h2, h1, List.append_assoc]
theorem visit_snoc {u : List (List Int)} {p : Pl} {came : Came} {ss : List Stp} {s : Stp} : visit u p came (ss ++ [s]) = visit1 u p (visit u p came ss) s := by
  unfold visit
  rw [List.foldl_append]
  rfl
theorem CameOk.visit {m n : Nat} {u : List (List Int)} {p : Pl} {came : Came} (h : CameOk m n came) : ∀ {ss : List Stp}, (∀ s ∈ ss, s.to.2 < (if s.to.1 then m else n)) → CameOk m n (visit u p came ss) := by
  intro ss
  induction ss generalizing came with
  | nil => intro _; exact h
  | cons s ss ih =>
    intro hs
    show CameOk m n (K3.visit u p (K3.visit1 u p came s) ss)
    exact ih (h.visit1 (hs s (List.mem_cons_self ..))) fun t ht => hs t (List.mem_cons_of_mem _ ht)
section
variable {P : Program} {w : World} {K : PySem.W.Frag} {mg : Str → Option Value} {base : Heap}
theorem sc_ways_from : FnScope ["flow", "start", "came", "waiting", "at", "place", "goal", "cell", "sign"] ["flow", "start"] (defScope s_ways_from) := ⟨rfl, rfl, rfl, by decide +kernel, rfl, by decide +kernel, by decide +kernel⟩
theorem ok_ways_from (T : Tx K mg) : Ok P w K mg base 2 (He.ga K "ways_from") ["flow", "start"] (spWays K) := by
  obtain ⟨fd, F⟩ := T.f_ways_from
  have Onumber_at := ok_number_at (P := P) (w := w) (base := base) T
  refine ⟨fd, F.ok (k := 1) sc_ways_from (fun vs H Q E h => ?_) (fun cdv A outer s_ H vs Q E hr h => ?_), F.bindsN fun _ _ _ _ _ _ us hl => match us, hl with | [_, _], _ => rfl, F.kp⟩
  · obtain ⟨F, v, c, np, rs, u, m, n, f, start, rfl, hF, hS, m60, n60, hv, hst, q⟩ := h
    rfl
  obtain ⟨F, v, c, np, rs, u, m, n, f, start, rfl, hF, hS, m60, n60, hv, hst, q⟩ := h
  have hu65 := K3.Room.units65 hr
  have hu64 := Nat.lt_of_succ_lt hu65
  have hu0 := Nat.lt_of_le_of_lt (Nat.le_add_right _ 65) hu65
  have hu1 := Nat.lt_of_le_of_lt (Nat.add_le_add_left (show 1 ≤ 65 by decide) _) hu65
  have rnumber_at : Room 1 _ := hr.mono (by decide)
  refine ⟨_, pss_cons (ps_set (i := 2) sc_ways_from.nd rfl (Or.inl rfl) (pe_disp1 hu1 (pv 1) pe_non))
      (pss_cons (ps_set (i := 3) sc_ways_from.nd rfl (Or.inl rfl) (pe_lst (pa_cons (pv 1) pa_nil)))
      (pss_cons (ps_set (i := 4) sc_ways_from.nd rfl (Or.inl rfl) pe_int)
      (pss_cons (ps_while (passes_of rfl) (pt_cmpR op_lt (pv 4) (pe_callB call_len_seq (by rfl) T.z_len PySem.boot_len (pa_cons (pv 3) pa_nil)) (nomark _)) (pss_cons (ps_set (i := 5) sc_ways_from.nd rfl (Or.inl rfl) (pe_ix ix_list (pv 3) (pv 4) (fun _ _ => rfl)))
      (pss_cons (ps_aug (i := 4) sc_ways_from.nd rfl (Or.inl rfl) pe_int ip_add)
      (pss_one (ps_for (passes_of rfl) (by rfl) (pi_list (pe_dget2 hu1 (pe_fld (pv 0) rfl) (pv 5) (pe_lst pa_nil) ⟨rfl, rfl, rfl, rfl⟩)) (pg_tup (by rfl) (pgs_cons (pg_name (i := 6) sc_ways_from.nd rfl (Or.inl rfl)) (pgs_cons (pg_name (i := 7) sc_ways_from.nd rfl (Or.inl rfl)) (pgs_cons (pg_name (i := 8) sc_ways_from.nd rfl (Or.inl rfl)) pgs_nil)))) (pss_one (ps_if (pw_and (pt_cmp (pc_dnotin hu1 (pv 6) (pv 2))) (pw_and1 (pw_or (pt_cmpR op_gt (pv 8) pe_int (nomark _)) (pw_or1 (pt_cmpR op_gt (pe_f Onumber_at rnumber_at T.g_number_at (pa_cons (pe_fld (pv 0) rfl) (pa_cons (pv 7) pa_nil))) pe_int (nomark _)))).pt)).pt (pss_cons (ps_dput hu1 (pv 2) (pv 6) (pe_tup (pa_cons (pv 5) (pa_cons (pv 7) (pa_cons (pv 8) pa_nil)))) rfl)
      (pss_one (ps_expr (pe_bm PySem.F.plainAttrs_list PySem.F.slot_list_append PySem.F.type_list_append mt_append (pv 3) (pa_cons (pv 6) pa_nil))))) pss_nil)))))))
      (pss_one (ps_ret (pv 2)))))), ?_⟩
  obtain ⟨⟨dx, vc, sd, skv, hob, hvc, hsd, hget⟩, htab, hrect, hnd, hne⟩ := hF
  have hFl : FlowAt K H F c np rs u m n f := ⟨⟨dx, vc, sd, skv, hob, hvc, hsd, hget⟩, htab, hrect, hnd, hne⟩
  obtain ⟨b0, rfl, hb0⟩ := hv
  walk_at "go"
  refine fun d hd => ?_
  have e1 := Same.new hd (.dT [])
  walk_at "go"
  refine ⟨plKey start, b0, rfl, upd_same, e1 _ _ hb0, ?_⟩
  have e2 : Same H (upd (upd H d (.dT [])) d (.dT [(plKey start, .non)])) := e1.mut hd
  have h2 : (upd (upd H d (.dT [])) d (.dT [(plKey start, .non)])) d = some (.dT [(plKey start, .non)]) := upd_same
  generalize upd (upd H d (.dT [])) d (.dT [(plKey start, .non)]) = H2 at e2 h2 ⊢
  walk_at "go"
  refine ⟨(by show 1 ≤ sizeLine; decide), fun w hw => ?_⟩
  have e3 := Same.new hw (.lst [V.ref b0])
  have h3 : (upd H2 w (.lst [V.ref b0])) w = some (.lst [V.ref b0]) := upd_same
  have h3d := e3 _ _ h2
  generalize upd H2 w (.lst [V.ref b0]) = H3 at e3 h3 h3d ⊢
  have w0 : H w = none := e2.free hw
  have dw : d ≠ w := fun e => by rw [← e, h2] at hw; cases hw
  walk_at "go"
  refine while_by (fun σ H' => ∃ (i : Nat) (o5 o6 o7 o8 : Option V) (came : Came) (ws : List V), σ = [some (.ref F), some (.ref b0), some (.ref d), some (.ref w), some (.int (i : Int)), o5, o6, o7, o8] ∧ Same H H' ∧ CameAt H' d came ∧ H' w = some (.lst ws) ∧ Paired (PlAt H') ws (keysOf came) ∧ CameOk m n came ∧ i ≤ came.length ∧ bfs u f (m + n + 1 - i) i came = waysF u f (m + n + 1) start)
    (fun σ _ => m + n + 1 - slotNat 4 σ)
    ⟨0, none, none, none, none, [(start, none)], [.ref b0], rfl, e2.trans e3, ⟨_, h3d, .cons ⟨rfl, rfl⟩ .nil⟩, h3, .cons ⟨b0, rfl, (e2.trans e3) _ _ hb0⟩ .nil, ⟨by simp [keysOf], fun p hp => by rw [List.mem_singleton.mp hp]; exact hst⟩, Nat.zero_le _, rfl⟩ ?_ (fun σ H Q Q' k h => by
      obtain ⟨v, h1, w, h2, p, ys, h3, h4, i, j, h5, h6, b, h7, h8⟩ := h
      exact ⟨v, h1, w, h2, p, ys, h3, h4, i, j, h5, h6, b, h7, k _ _ h8⟩)
  rintro σ H4 ⟨i, o5, o6, o7, o8, came, ws, rfl, e4, hcame, hw4, hws, hok, hi, hb⟩
  have hlen := hok.len
  have lws : ws.length = came.length := by rw [hws.length]; unfold keysOf; rw [List.length_map]
  walk_at "go"
  refine ⟨w, ws, rfl, .inl (SqL.of hw4), ?_⟩
  walk_at "go"
  rw [lws]
  by_cases ci : (i : Int) < (came.length : Int)
  · rw [decide_eq_true ci]
    have ci' : i < came.length := by omega
    walk_at "go"
    obtain ⟨p, op, hp⟩ : ∃ p op, came[i]? = some (p, op) := ⟨_, _, List.getElem?_eq_getElem ci'⟩
    have hk : (keysOf came)[i]? = some p := by unfold keysOf; rw [List.getElem?_map, hp]; rfl
    obtain ⟨vp, hvp⟩ : ∃ vp, ws[i]? = some vp := ⟨_, List.getElem?_eq_getElem (by omega)⟩
    obtain ⟨p', hp', hvpl⟩ := K3.Paired.get hws hvp
    obtain rfl : p = p' := Option.some.inj (hk.symm.trans hp')
    refine w_ixL hw4 (atI_nat hvp) ?_
    walk_at "go"
    refine ⟨.int (i : Int), rfl, ?_⟩
    refine ⟨_, _, rfl, rfl, ?_⟩
    walk_at "go"
    dsimp only
    refine list_open ?_
    refine ⟨_, rfl, ?_⟩
    refine ⟨F, _, dx, _, _, rfl, e4 _ _ hob, T.cl_Flow, T.n_Flow_steps, rfl, ?_⟩
    refine ⟨sd, rfl, .inr ⟨skv, .inl (e4 _ _ hsd)⟩, ?_⟩
    walk_at "go"
    refine ⟨Nat.zero_le _, fun z hz => ?_⟩
    have e5 := Same.new hz (.lst [])
    have hz5 : (upd H4 z (.lst [])) z = some (.lst []) := upd_same
    generalize upd H4 z (.lst []) = H5 at e5 hz5 ⊢
    have e45 := e4.trans e5
    have hcame5 : CameAt H5 d came := by
      obtain ⟨kvs, h1, h2⟩ := hcame
      exact ⟨kvs, e5 _ _ h1, L2.Paired.mapP h2 fun _ _ y => y.tk (Tk.of e5)⟩
    have hw5 := e5 _ _ hw4
    have hws5 := L2.Paired.mapP hws fun _ _ y => PlAt.same e5 y
    obtain ⟨ap, rfl, hap⟩ := hvpl
    have hap5 := e5 _ _ hap
    obtain ⟨L, xs, hLv, hL, hLx, Ld, Lw⟩ : ∃ L xs, (valV skv (plKey p)).getD (.ref z) = .ref L ∧ H5 L = some (.lst xs) ∧ Paired (StAt H5) xs (f p) ∧ L ≠ d ∧ L ≠ w := by
      rcases hget p with ⟨h1, h2⟩ | ⟨l, xs, h1, h2, h3, h4⟩
      · refine ⟨z, [], by rw [h1]; rfl, hz5, by rw [h2]; exact .nil, fun e => ?_, fun e => ?_⟩
        · obtain ⟨kvs, k1, _⟩ := hcame
          rw [← e, hz] at k1
          cases k1
        · rw [← e, hz] at hw4; cases hw4
      · exact ⟨l, xs, by rw [h1]; rfl, e45 _ _ h2, L2.Paired.mapP h4 fun _ _ y => y.same e45, ne_of_none h2 hd, ne_of_none h2 w0⟩
    refine ⟨valV skv (plKey p), DGet.t (e45 _ _ hsd) hap5, ?_⟩
    rw [hLv]
    refine ⟨L, rfl, ⟨_, SqL.of hL⟩, ?_⟩
    refine for_list (xs := xs) (fun (j : Nat) σ H' => ∃ (o6 o7 o8 : Option V) (ws' : List V), σ = [some (.ref F), some (.ref b0), some (.ref d), some (.ref w), some (.int ((i : Int) + 1)), some (.ref ap), o6, o7, o8] ∧ Same H H' ∧ Tk H5 H' ∧ H' L = some (.lst xs) ∧ CameAt H' d (visit u p came ((f p).take j)) ∧ H' w = some (.lst ws') ∧ Paired (PlAt H') ws' (keysOf (visit u p came ((f p).take j))))
      ⟨o6, o7, o8, ws, rfl, e45, Tk.refl _, hL, hcame5, hw5, hws5⟩ (fun j σ H' _ ⟨_, _, _, _, _, _, _, h, _⟩ => SqL.of h) ?_ ?_
    · rintro j x σ H6 hx ⟨o6, o7, o8, ws', rfl, e6, tk6, hL6, hcame6, hw6, hws6⟩
      obtain ⟨s, hs, hsx⟩ := K3.Paired.get hLx hx
      have hsm : s ∈ f p := List.mem_of_getElem? hs
      obtain ⟨sc1, sc2⟩ := hS.cell p s hsm
      have hok6 : CameOk m n (visit u p came ((f p).take j)) := hok.visit fun t ht => hS.place p t (List.mem_of_mem_take ht)
      obtain ⟨a, vg, vcc, rfl, ha, hvg, hvcc⟩ := hsx.tk tk6
      obtain ⟨ag, rfl, hag⟩ := hvg
      refine ⟨a, _, rfl, SqT.of ha, rfl, _, _, rfl, _, _, rfl, _, _, rfl, rfl, ?_⟩
      have htake : (f p).take (j + 1) = (f p).take j ++ [s] := by rw [List.take_add_one, hs]; rfl
      obtain ⟨kvs, hkv, hkp⟩ := hcame6
      have lk := came_len hkp
      have ll := hok6.len
      generalize hcm : visit u p came ((f p).take j) = cm at hkp hws6 hok6 lk ll
      have next : visit u p came ((f p).take (j + 1)) = visit1 u p cm s := by rw [htake, visit_snoc, hcm]
      have stay : visit1 u p cm s = cm → ∃ (o6 o7 o8 : Option V) (ws' : List V), [some (V.ref F), some (.ref b0), some (.ref d), some (.ref w), some (.int ((i : Int) + 1)), some (.ref ap), some (.ref ag), some vcc, some (.int (sgn s.up))] = [some (.ref F), some (.ref b0), some (.ref d), some (.ref w), some (.int ((i : Int) + 1)), some (.ref ap), o6, o7, o8] ∧ Same H H6 ∧ Tk H5 H6 ∧ H6 L = some (.lst xs) ∧ CameAt H6 d (visit u p came ((f p).take (j + 1))) ∧ H6 w = some (.lst ws') ∧ Paired (PlAt H6) ws' (keysOf (visit u p came ((f p).take (j + 1)))) := fun e => by
        rw [next, e]
        exact ⟨_, _, _, ws', rfl, e6, tk6, hL6, ⟨kvs, hkv, hkp⟩, hw6, hws6⟩
      refine w_ifR (fun b H' => H' = H6 ∧ b = decide (s.to ∉ keysOf cm ∧ (s.up = true ∨ 0 < at2 u s.c.1 s.c.2))) (fun QB kQ => ?_) (fun H' hR => ?_) (fun H' hR => ?_)
      · walk_at "go"
        refine ⟨_, rfl, _, rfl, d, valV kvs (plKey s.to), rfl, DGet.t hkv hag, ?_⟩
        rcases came_get hkp s.to with ⟨hn, hv⟩ | ⟨i', o, v, h1, h2, h3, h4⟩
        · rw [hv]
          refine ⟨true, rfl, ?_⟩
          walk_at "go"
          cases hup : s.up with
          | true =>
            rw [show decide (sgn true > 0) = true from rfl]
            walk_at "go"
            exact kQ _ _ ⟨rfl, (decide_eq_true (by rw [hup]; exact ⟨hn, .inl rfl⟩)).symm⟩
          | false =>
            rw [show decide (sgn false > 0) = false from rfl]
            walk_at "go"
            refine ⟨F, _, dx, _, _, rfl, e6 _ _ hob, T.cl_Flow, T.n_Flow_numbers, rfl, ?_⟩
            walk_at "go"
            refine ⟨np, vcc, rs, u, m, n, s.c.1, s.c.2, rfl, (htab.same e6).gt, hrect, hvcc, sc1, sc2, ?_⟩
            walk_at "go"
            refine kQ _ _ ⟨rfl, decide_eq_decide.mpr ?_⟩
            constructor
            · exact fun z => ⟨hn, .inr z⟩
            · rintro ⟨_, z | z⟩
              · rw [hup] at z; cases z
              · exact z
        · rw [h3]
          refine ⟨false, rfl, ?_⟩
          walk_at "go"
          refine kQ _ _ ⟨rfl, (decide_eq_false fun z => z.1 ?_).symm⟩
          unfold keysOf
          exact List.mem_map.mpr ⟨_, List.mem_of_getElem? h1, rfl⟩
      · obtain ⟨rfl, hc⟩ := hR
        have hc := of_decide_eq_true hc.symm
        have hn : valV kvs (plKey s.to) = none := by
          rcases came_get hkp s.to with ⟨_, hv⟩ | ⟨i', o, v, h1, h2, h3, h4⟩
          · exact hv
          · refine absurd ?_ hc.1
            unfold keysOf
            exact List.mem_map.mpr ⟨_, List.mem_of_getElem? h1, rfl⟩
        have hv1 : visit1 u p cm s = cm ++ [(s.to, some ⟨p, s.c, s.up⟩)] := by
          unfold visit1
          rw [if_pos hc]
        have hks : keysOf (cm ++ [(s.to, some ⟨p, s.c, s.up⟩)]) = keysOf cm ++ [s.to] := by
          unfold keysOf
          rw [List.map_append]
          rfl
        refine w_seq ?_
        refine w_tup (w_cons (w_var rfl (w_cons (w_var rfl (w_cons (w_var rfl (w_nil ⟨by show 3 ≤ sizeLine; decide, fun t ht => ?_⟩)))))))
        have e7 := Same.new ht (.tup [V.ref ap, vcc, .int (sgn s.up)])
        have h7 : (upd H' t (.tup [V.ref ap, vcc, .int (sgn s.up)])) t = some (.tup [V.ref ap, vcc, .int (sgn s.up)]) := upd_same
        generalize upd H' t (.tup [V.ref ap, vcc, .int (sgn s.up)]) = H7 at e7 h7 ⊢
        refine ⟨_, rfl, _, rfl, d, _, rfl, DPut.t (e7 _ _ hkv) (e7 _ _ hag) (Nat.lt_of_le_of_lt (show kvs.length ≤ 200 by omega) (by decide)), ?_⟩
        rw [put_new hn]
        have tk8 : Tk H7 (upd H7 d (.dT (kvs ++ [(plKey s.to, .ref t)]))) := Tk.upd (e7 _ _ hkv) fun xs e => by cases e
        have hd8 : (upd H7 d (.dT (kvs ++ [(plKey s.to, .ref t)]))) d = some (.dT (kvs ++ [(plKey s.to, .ref t)])) := upd_same
        have hw8 : (upd H7 d (.dT (kvs ++ [(plKey s.to, .ref t)]))) w = some (.lst ws') := by rw [upd_ne dw.symm]; exact e7 _ _ hw6
        have hL8 : (upd H7 d (.dT (kvs ++ [(plKey s.to, .ref t)]))) L = some (.lst xs) := by rw [upd_ne Ld]; exact e7 _ _ hL6
        have e8 : Same H (upd H7 d (.dT (kvs ++ [(plKey s.to, .ref t)]))) := (e6.trans e7).mut hd
        generalize upd H7 d (.dT (kvs ++ [(plKey s.to, .ref t)])) = H8 at tk8 hd8 hw8 hL8 e8 ⊢
        walk_at "go"
        refine ⟨_, rfl, .inl ⟨rfl, _, SqL.of hw8⟩, ?_⟩
        walk_at "go"
        have lws' : ws'.length = cm.length := by rw [hws6.length]; unfold keysOf; rw [List.length_map]
        refine ⟨w, ws', _, rfl, rfl, hw8, Nat.lt_of_le_of_lt (show ws'.length ≤ 200 by omega) (by decide), ?_⟩
        have tk9 : Tk H8 (upd H8 w (.lst (ws' ++ [.ref ag]))) := Tk.upd hw8 fun xs e => by cases e
        have tk69 := (Tk.of e7).trans (tk8.trans tk9)
        rw [next, hv1]
        refine ⟨_, _, _, ws' ++ [.ref ag], rfl, e8.mut w0, tk6.trans tk69, by rw [upd_ne Lw]; exact hL8, ⟨_, by rw [upd_ne dw]; exact hd8, K3.Paired.app (L2.Paired.mapP hkp fun _ _ y => y.tk tk69) (.cons ⟨rfl, ?_⟩ .nil)⟩, upd_same, ?_⟩
        · exact ⟨t, .ref ap, vcc, rfl, (tk8.trans tk9) _ _ h7, ⟨ap, rfl, (tk6.trans tk69) _ _ hap5⟩, hvcc.tk tk69⟩
        · rw [hks]
          exact K3.Paired.app (L2.Paired.mapP hws6 fun _ _ y => PlAt.tk tk69 y) (.cons ⟨ag, rfl, tk69 _ _ hag⟩ .nil)
      · obtain ⟨rfl, hc⟩ := hR
        have hc := of_decide_eq_false hc.symm
        refine w_next ?_
        refine stay ?_
        unfold visit1
        rw [if_neg hc]
    · rintro σ H6 ⟨o6, o7, o8, ws', rfl, e6, tk6, hL6, hcame6, hw6, hws6⟩
      rw [hLx.length, List.take_length] at hcame6 hws6
      have hok6 : CameOk m n (visit u p came (f p)) := hok.visit fun t ht => hS.place p t ht
      obtain ⟨more, hmore⟩ := visit_pre (u := u) (p := p) (ss := f p) (came := came)
      refine ⟨⟨i + 1, _, _, _, _, visit u p came (f p), ws', rfl, e6, hcame6, hw6, hws6, hok6, by rw [hmore, List.length_append]; omega, ?_⟩, ?_⟩
      · rw [← hb]
        obtain ⟨k, hk⟩ : ∃ k, m + n + 1 - i = k + 1 := ⟨m + n - i, by omega⟩
        rw [hk, show m + n + 1 - (i + 1) = k by omega]
        show _ = bfs u f (k + 1) i came
        unfold bfs
        rw [hp]
        cases k <;> rfl
      · show m + n + 1 - ((i : Int) + 1).toNat < m + n + 1 - ((i : Int)).toNat
        omega
  · rw [decide_eq_false ci]
    walk_at "go"
    obtain rfl : i = came.length := by omega
    have : bfs u f (m + n + 1 - came.length) came.length came = came := by
      obtain ⟨k, hk⟩ : ∃ k, m + n + 1 - came.length = k + 1 := ⟨m + n - came.length, by omega⟩
      rw [hk]
      unfold bfs
      rw [List.getElem?_eq_none (Nat.le_refl _)]
    rw [this] at hb
    rw [hb] at hcame
    exact q d H4 e4 hd hcame
end
end K3
end F4_part
section F5_part
set_option Elab.async false
set_option linter.all false
set_option maxRecDepth 100000
set_option maxHeartbeats 1000000
set_option pp.deepTerms.threshold 5
open PySem PySem.Spec PyProof.Rows L2
/-- go on as far as nothing is open -/
local macro_rules | `(tactic| walk_at "go") => `(tactic| repeat (first
  | with_reducible refine w_seq ?_ | with_reducible refine w_next ?_ | with_reducible refine w_set ?_ | with_reducible refine w_drop ?_ | with_reducible refine w_ret ?_ | with_reducible refine w_retN ?_
  | with_reducible refine w_if ?_ | ((with_reducible refine' w_var ?hv ?_); (case hv => exact rfl)) | with_reducible refine w_c ?_ | with_reducible refine w_nil ?_ | with_reducible refine w_cons ?_ | with_reducible refine w_op ?_ | with_reducible refine w_un ?_
  | with_reducible refine w_test ?_ | with_reducible refine w_tB ?_ | with_reducible refine w_not ?_ | with_reducible refine w_and ?_ | with_reducible refine w_or ?_ | with_reducible refine w_bl ?_
  | with_reducible refine w_andV ?_ | with_reducible refine w_orV ?_ | with_reducible refine w_notV ?_ | with_reducible refine w_ifE ?_ | with_reducible refine w_chain ?_ | with_reducible refine w_i0 ?_
  | with_reducible refine w_call ?_ | with_reducible refine w_callS ?_ | with_reducible refine w_cB ?_ | with_reducible refine w_tup ?_ | with_reducible refine w_lst ?_ | with_reducible refine w_fldV ?_
  | with_reducible refine w_neF ?_ | with_reducible refine w_neT ?_ | with_reducible refine w_notN ?_ | with_reducible refine w_isN ?_ | with_reducible refine w_gname ?_ | with_reducible refine w_gsub ?_ | with_reducible refine w_asg ?_ | with_reducible refine w_sl ?_ | with_reducible refine w_noP ?_ | with_reducible refine w_int1 ?_ | with_reducible refine w_part ?_ | with_reducible refine w_yes ?_ | with_reducible refine w_nT ?_ | with_reducible refine w_nF ?_ | with_reducible refine w_iteT ?_ | with_reducible refine w_iteF ?_))
namespace K3
abbrev Way := List ((Nat × Nat) × Bool)
def WayAt (H : Hp) (v : V) (q : (Nat × Nat) × Bool) : Prop := ∃ a vc, v = .ref a ∧ H a = some (.tup [vc, .int (sgn q.2)]) ∧ CellAt H vc q.1
theorem WayAt.tk {H H' : Hp} (e : Tk H H') {v : V} {q : (Nat × Nat) × Bool} (h : WayAt H v q) : WayAt H' v q := let ⟨a, vc, h1, h2, h3⟩ := h; ⟨a, vc, h1, e _ _ h2, h3.tk e⟩
def lookC (came : Came) (p : Pl) : Option Stp := (came.find? fun q => decide (q.1 = p)).bind (·.2)
def wayI (came : Came) : Nat → Option Stp → Way
  | 0, _ => []
  | _ + 1, none => []
  | k + 1, some s => (s.c, s.up) :: wayI came k (lookC came s.to)
def wayF (came : Came) (g : Pl) : Way := wayI came (came.length + 1) (lookC came g)
/-- each step in came leads back to a place that came ahead -/
def Tree (came : Came) : Prop := ∀ (i : Nat) (p : Pl) (s : Stp), came[i]? = some (p, some s) → ∃ (j : Nat) (o : Option Stp), j < i ∧ came[j]? = some (s.to, o)
theorem look_at {came : Came} (nd : (keysOf came).Nodup) {i : Nat} {p : Pl} {o : Option Stp} (h : came[i]? = some (p, o)) : lookC came p = o := by
  unfold lookC
  induction came generalizing i with
  | nil => simp at h
  | cons q came ih =>
    obtain ⟨n1, n2⟩ := List.nodup_cons.mp nd
    cases i with
    | zero =>
      have e : q = (p, o) := by simpa using h
      subst e
      rw [List.find?_cons_of_pos (by simp)]
      rfl
    | succ i =>
      have h : came[i]? = some (p, o) := by simpa using h
      have ne : q.1 ≠ p := fun e => n1 (by show q.1 ∈ _; rw [e]; exact List.mem_map.mpr ⟨_, List.mem_of_getElem? h, rfl⟩)
      rw [List.find?_cons_of_neg (by simpa using ne)]
      exact ih n2 h
theorem way_fuel {came : Came} (nd : (keysOf came).Nodup) (ht : Tree came) : ∀ (i : Nat) {p : Pl} {o : Option Stp} {k k' : Nat}, came[i]? = some (p, o) → i < k → i < k' → wayI came k o = wayI came k' o := by
  intro i
  induction i using Nat.strongRecOn with
  | _ i ih =>
    intro p o k k' h hk hk'
    obtain ⟨k, rfl⟩ : ∃ j, k = j + 1 := ⟨k - 1, by omega⟩
    obtain ⟨k', rfl⟩ : ∃ j, k' = j + 1 := ⟨k' - 1, by omega⟩
    cases o with
    | none => rfl
    | some s =>
      obtain ⟨j, o, hj, hj2⟩ := ht i p s h
      show _ :: _ = _ :: _
      rw [look_at nd hj2, ih j hj hj2 (by omega) (show j < k' by omega)]
theorem came_at {H : Hp} {kvs : List (List L2.Key × V)} {came : Came} (hp : Paired (CE H) kvs came) (nd : (keysOf came).Nodup) {i : Nat} {p : Pl} {o : Option Stp} (h : came[i]? = some (p, o)) : ∃ v, valV kvs (plKey p) = some v ∧ CEv H v o := by
  rcases came_get hp p with ⟨h1, _⟩ | ⟨i', o', v, h1, h2, h3, h4⟩
  · exact absurd (List.mem_map.mpr ⟨_, List.mem_of_getElem? h, rfl⟩) h1
  · have e1 := look_at nd h
    have e2 := look_at nd h1
    rw [e1] at e2
    rw [e2]
    exact ⟨v, h3, h4⟩
def spWay (K : PySem.W.Frag) : Sp := fun vs H Q _ => ∃ (d : Addr) (v : V) (came : Came) (g : Pl), vs = [.ref d, v] ∧ CameAt H d came ∧ PlAt H v g ∧ (keysOf came).Nodup ∧ Tree came ∧ came.length ≤ 1000 ∧ g ∈ keysOf came ∧
  ∀ w H' ws, Same H H' → H w = none → H' w = some (.lst ws) → Paired (WayAt H') ws (wayF came g) → Q (.ref w) H'
def WtInv (H : Hp) (came : Came) (d ag w : Addr) (g : Pl) (k : Nat) (σ : L2.St) (H' : Hp) : Prop := ∃ (i : Nat) (p : Pl) (o : Option Stp) (v : V) (o4 o5 o6 : Option V) (ws : List V) (acc : Way), k = i + (if o.isSome then 1 else 0) ∧ σ = [some (.ref d), some (.ref ag), some (.ref w), some v, o4, o5, o6] ∧ Same H H' ∧ H' w = some (.lst ws) ∧ Paired (WayAt H') ws acc ∧ came[i]? = some (p, o) ∧ CEv H' v o ∧ acc ++ wayI came (i + 1) o = wayF came g ∧ acc.length + i ≤ came.length
section
variable {P : Program} {w : World} {K : PySem.W.Frag} {mg : Str → Option Value} {base : Heap}
theorem sc_way_to : FnScope ["came", "goal", "way", "step", "place", "cell", "sign"] ["came", "goal"] (defScope s_way_to) := ⟨rfl, rfl, rfl, by decide +kernel, rfl, by decide +kernel, by decide +kernel⟩
theorem ok_way_to (T : Tx K mg) : Ok P w K mg base 1 (He.ga K "way_to") ["came", "goal"] (spWay K) := by
  obtain ⟨fd, F⟩ := T.f_way_to
  refine ⟨fd, F.ok (k := 0) sc_way_to (fun vs H Q E h => ?_) (fun cdv A outer s_ H vs Q E hr h => ?_), F.bindsN fun _ _ _ _ _ _ us hl => match us, hl with | [_, _], _ => rfl, F.kp⟩
  · obtain ⟨d, v, came, g, rfl, ⟨kvs, hkv, hkp⟩, ⟨ag, rfl, hag⟩, nd, tree, len, hg, q⟩ := h
    rfl
  obtain ⟨d, v, came, g, rfl, ⟨kvs, hkv, hkp⟩, ⟨ag, rfl, hag⟩, nd, tree, len, hg, q⟩ := h
  have hu65 := K3.Room.units65 hr
  have hu64 := Nat.lt_of_succ_lt hu65
  have hu0 := Nat.lt_of_le_of_lt (Nat.le_add_right _ 65) hu65
  have hu1 := Nat.lt_of_le_of_lt (Nat.add_le_add_left (show 1 ≤ 65 by decide) _) hu65
  refine ⟨_, pss_cons (ps_set (i := 2) sc_way_to.nd rfl (Or.inl rfl) (pe_lst pa_nil))
      (pss_cons (ps_set (i := 3) sc_way_to.nd rfl (Or.inl rfl) (pe_dget hu1 (pv 0) (pv 1) (fun _ _ => rfl)))
      (pss_cons (ps_while (passes_of rfl) (pt_cmp (pc_notN (pv 3))) (pss_cons (ps_asg (pv 3) (pg_tup (by rfl) (pgs_cons (pg_name (i := 4) sc_way_to.nd rfl (Or.inl rfl)) (pgs_cons (pg_name (i := 5) sc_way_to.nd rfl (Or.inl rfl)) (pgs_cons (pg_name (i := 6) sc_way_to.nd rfl (Or.inl rfl)) pgs_nil)))))
      (pss_cons (ps_expr (pe_bm PySem.F.plainAttrs_list PySem.F.slot_list_append PySem.F.type_list_append mt_append (pv 2) (pa_cons (pe_tup (pa_cons (pv 5) (pa_cons (pv 6) pa_nil))) pa_nil)))
      (pss_one (ps_set (i := 3) sc_way_to.nd rfl (Or.inl rfl) (pe_dget hu1 (pv 0) (pv 4) (fun _ _ => rfl)))))))
      (pss_one (ps_ret (pv 2))))), ?_⟩
  walk_at "go"
  refine ⟨Nat.zero_le _, fun w hw => ?_⟩
  have e1 := Same.new hw (.lst [])
  have h1 : (upd H w (.lst [])) w = some (.lst []) := upd_same
  generalize upd H w (.lst []) = H1 at e1 h1 ⊢
  obtain ⟨i0, o0, hi0⟩ : ∃ i o, came[i]? = some (g, o) := by
    obtain ⟨⟨p, o⟩, hq, rfl⟩ := List.mem_map.mp hg
    obtain ⟨i, hi⟩ := List.getElem?_of_mem hq
    exact ⟨i, o, hi⟩
  obtain ⟨v0, hv0, hc0⟩ := came_at hkp nd hi0
  have hil : i0 < came.length := (List.getElem?_eq_some_iff.mp hi0).1
  walk_at "go"
  refine ⟨_, rfl, _, rfl, d, v0, rfl, by rw [← hv0]; exact DGet.t (e1 _ _ hkv) (e1 _ _ hag), ?_⟩
  walk_at "go"
  refine ⟨WtInv H came d ag w g, ⟨_, i0, g, o0, v0, none, none, none, [], [], rfl, rfl, e1, h1, .nil, hi0, hc0.tk (Tk.of e1), ?_, by show 0 + i0 ≤ came.length; omega⟩, ?_⟩
  · show wayI came (i0 + 1) o0 = wayI came (came.length + 1) (lookC came g)
    rw [look_at nd hi0]
    exact way_fuel nd tree i0 hi0 (Nat.lt_succ_self _) (by omega)
  rintro k σ H2 ⟨i, p, o, v, o4, o5, o6, ws, acc, rfl, rfl, e2, hw2, hws, hi, hc, hacc, hlen⟩
  walk_at "go"
  cases o with
  | none =>
    obtain rfl : v = .non := hc
    rw [show (!decide ((V.non : V) = V.non)) = false from rfl]
    walk_at "go"
    have e : acc = wayF came g := by rw [← hacc]; exact (List.append_nil _).symm
    rw [e] at hws
    exact q w H2 ws e2 hw hw2 hws
  | some s =>
    obtain ⟨a, vg, vc, rfl, ha, ⟨ag2, rfl, hag2⟩, hvc⟩ := hc
    rw [show (!decide (V.ref a = V.non)) = true by rw [decide_eq_false (fun z => by cases z)]; rfl]
    refine iteT ?_
    refine ⟨fun σ' H' => ∃ m', m' < i + 1 ∧ WtInv H came d ag w g m' σ' H', fun _ _ h => h, ?_⟩
    walk_at "go"
    refine ⟨a, _, rfl, SqT.of ha, rfl, _, _, rfl, _, _, rfl, _, _, rfl, rfl, ?_⟩
    walk_at "go"
    refine ⟨_, rfl, .inl ⟨rfl, _, SqL.of hw2⟩, ?_⟩
    walk_at "go"
    refine ⟨(by show 2 ≤ sizeLine; decide), fun t ht => ?_⟩
    have e3 := Same.new ht (.tup [vc, .int (sgn s.up)])
    have h3 : (upd H2 t (.tup [vc, .int (sgn s.up)])) t = some (.tup [vc, .int (sgn s.up)]) := upd_same
    generalize upd H2 t (.tup [vc, .int (sgn s.up)]) = H3 at e3 h3 ⊢
    have hw3 := e3 _ _ hw2
    have lws := hws.length
    refine ⟨w, ws, _, rfl, rfl, hw3, Nat.lt_of_le_of_lt (show ws.length ≤ 1000 by omega) (by decide), ?_⟩
    have tk4 : Tk H3 (upd H3 w (.lst (ws ++ [.ref t]))) := Tk.upd hw3 fun xs e => by cases e
    have e4 : Same H (upd H3 w (.lst (ws ++ [.ref t]))) := (e2.trans e3).mut hw
    have tk24 := (Tk.of e3).trans tk4
    have h4 : (upd H3 w (.lst (ws ++ [.ref t]))) w = some (.lst (ws ++ [.ref t])) := upd_same
    generalize upd H3 w (.lst (ws ++ [.ref t])) = H4 at tk4 e4 tk24 h4 ⊢
    obtain ⟨j, o', hj, hj2⟩ := tree i p s hi
    obtain ⟨v', hv', hc'⟩ := came_at hkp nd hj2
    walk_at "go"
    refine ⟨_, rfl, _, rfl, d, v', rfl, by rw [← hv']; exact DGet.t (e4 _ _ hkv) (tk24 _ _ hag2), ?_⟩
    refine ⟨_, ?_, j, s.to, o', v', _, _, _, _, acc ++ [(s.c, s.up)], rfl, rfl, e4, h4, K3.Paired.app (L2.Paired.mapP hws fun _ _ y => y.tk tk24) (.cons ⟨t, vc, rfl, tk4 _ _ h3, hvc.tk tk24⟩ .nil), hj2, hc'.tk (Tk.of e4), ?_, by rw [List.length_append]; show acc.length + 1 + j ≤ _; omega⟩
    · split <;> omega
    · rw [← hacc, List.append_assoc]
      congr 1
      show (s.c, s.up) :: wayI came (j + 1) o' = (s.c, s.up) :: wayI came i (lookC came s.to)
      rw [look_at nd hj2, way_fuel nd tree j hj2 (Nat.lt_succ_self _) hj]
end
end K3
end F5_part
section F6_part
set_option Elab.async false
set_option linter.all false
set_option maxRecDepth 100000
set_option maxHeartbeats 1000000
set_option pp.deepTerms.threshold 5
open PySem PySem.Spec PyProof.Rows L2
/-- go on as far as nothing is open -/
local macro_rules | `(tactic| walk_at "go") => `(tactic| repeat (first
  | with_reducible refine w_seq ?_ | with_reducible refine w_next ?_ | with_reducible refine w_set ?_ | with_reducible refine w_drop ?_ | with_reducible refine w_ret ?_ | with_reducible refine w_retN ?_
  | with_reducible refine w_if ?_ | ((with_reducible refine' w_var ?hv ?_); (case hv => exact rfl)) | with_reducible refine w_c ?_ | with_reducible refine w_nil ?_ | with_reducible refine w_cons ?_ | with_reducible refine w_op ?_ | with_reducible refine w_un ?_
  | with_reducible refine w_test ?_ | with_reducible refine w_tB ?_ | with_reducible refine w_not ?_ | with_reducible refine w_and ?_ | with_reducible refine w_or ?_ | with_reducible refine w_bl ?_
  | with_reducible refine w_andV ?_ | with_reducible refine w_orV ?_ | with_reducible refine w_notV ?_ | with_reducible refine w_ifE ?_ | with_reducible refine w_chain ?_ | with_reducible refine w_i0 ?_
  | with_reducible refine w_call ?_ | with_reducible refine w_callS ?_ | with_reducible refine w_cB ?_ | with_reducible refine w_tup ?_ | with_reducible refine w_lst ?_ | with_reducible refine w_fldV ?_
  | with_reducible refine w_neF ?_ | with_reducible refine w_neT ?_ | with_reducible refine w_notN ?_ | with_reducible refine w_isN ?_ | with_reducible refine w_gname ?_ | with_reducible refine w_gsub ?_ | with_reducible refine w_asg ?_ | with_reducible refine w_sl ?_ | with_reducible refine w_noP ?_ | with_reducible refine w_int1 ?_ | with_reducible refine w_part ?_ | with_reducible refine w_yes ?_ | with_reducible refine w_nT ?_ | with_reducible refine w_nF ?_ | with_reducible refine w_iteT ?_ | with_reducible refine w_iteF ?_))
namespace K3
/-! ### what a search finds -/
def res (u : List (List Int)) (s : Stp) : Prop := s.up = true ∨ 0 < at2 u s.c.1 s.c.2
structure WOk (m n : Nat) (u : List (List Int)) (f : Pl → List Stp) (start : Pl) (came : Came) : Prop where
  ok : CameOk m n came
  zero : came[0]? = some (start, none)
  step : ∀ (i : Nat) (p : Pl) (s : Stp), came[i]? = some (p, some s) → (∃ (j : Nat) (o : Option Stp), j < i ∧ came[j]? = some (s.to, o)) ∧ res u s ∧ (⟨p, s.c, s.up⟩ : Stp) ∈ f s.to
  first : ∀ (i : Nat) (p : Pl), came[i]? = some (p, none) → i = 0
theorem WOk.tree {m n : Nat} {u : List (List Int)} {f : Pl → List Stp} {start : Pl} {came : Came} (h : WOk m n u f start came) : Tree came := fun i p s e => (h.step i p s e).1
theorem pre_at {α : Type} {l k : List α} {i : Nat} {x : α} (h : l[i]? = some x) : (l ++ k)[i]? = some x := by
  rw [List.getElem?_append_left (List.getElem?_eq_some_iff.mp h).1]
  exact h
theorem visit1_ok {m n : Nat} {u : List (List Int)} {f : Pl → List Stp} {start p : Pl} {came : Came} {i : Nat} {o : Option Stp} {s : Stp} (h : WOk m n u f start came) (hi : came[i]? = some (p, o)) (hs : s ∈ f p) (hp : s.to.2 < (if s.to.1 then m else n)) :
    WOk m n u f start (visit1 u p came s) ∧ (res u s → s.to ∈ keysOf (visit1 u p came s)) := by
  by_cases c : s.to ∉ keysOf came ∧ (s.up = true ∨ 0 < at2 u s.c.1 s.c.2)
  · have e : visit1 u p came s = came ++ [(s.to, some ⟨p, s.c, s.up⟩)] := by unfold visit1; rw [if_pos c]
    have ok := h.ok.visit1 (u := u) (p := p) hp
    rw [e] at ok ⊢
    have last : ∀ (j : Nat) (x : Pl × Option Stp), (came ++ [(s.to, some ⟨p, s.c, s.up⟩)])[j]? = some x → came[j]? = some x ∨ (j = came.length ∧ x = (s.to, some ⟨p, s.c, s.up⟩)) := by
      intro j x hx
      by_cases q : j < came.length
      · rw [List.getElem?_append_left q] at hx
        exact .inl hx
      · rw [List.getElem?_append_right (by omega)] at hx
        have : j - came.length = 0 := by
          have := (List.getElem?_eq_some_iff.mp hx).1
          simp at this
          omega
        rw [this] at hx
        exact .inr ⟨by omega, (Option.some.inj hx).symm⟩
    refine ⟨⟨ok, pre_at h.zero, fun j q t hj => ?_, fun j q hj => ?_⟩, fun _ => ?_⟩
    · rcases last j _ hj with hj | ⟨rfl, hx⟩
      · obtain ⟨⟨j', o', h1, h2⟩, h3, h4⟩ := h.step j q t hj
        exact ⟨⟨j', o', h1, pre_at h2⟩, h3, h4⟩
      · cases hx
        exact ⟨⟨i, o, (List.getElem?_eq_some_iff.mp hi).1, pre_at hi⟩, c.2, hs⟩
    · rcases last j _ hj with hj | ⟨rfl, hx⟩
      · exact h.first j q hj
      · cases hx
    · unfold keysOf
      rw [List.map_append]
      exact List.mem_append_right _ (List.mem_singleton.mpr rfl)
  · have e : visit1 u p came s = came := by unfold visit1; rw [if_neg c]
    rw [e]
    refine ⟨h, fun r => ?_⟩
    by_cases k : s.to ∈ keysOf came
    · exact k
    · exact absurd ⟨k, r⟩ c
theorem visit_ok {m n : Nat} {u : List (List Int)} {f : Pl → List Stp} {start p : Pl} {i : Nat} {o : Option Stp} (hS : StepsOk m n f) : ∀ {ss : List Stp} {came : Came}, WOk m n u f start came → came[i]? = some (p, o) → (∀ s ∈ ss, s ∈ f p) →
    WOk m n u f start (visit u p came ss) ∧ ∀ s ∈ ss, res u s → s.to ∈ keysOf (visit u p came ss)
  | [], came, h, _, _ => ⟨h, fun s hs => (by cases hs)⟩
  | s :: ss, came, h, hi, hm => by
    have hs := hm s (List.mem_cons_self ..)
    obtain ⟨h1, h2⟩ := visit1_ok h hi hs (hS.place p s hs)
    obtain ⟨m1, e1⟩ := visit1_pre (u := u) (p := p) (came := came) (s := s)
    obtain ⟨m2, e2⟩ := visit_pre (u := u) (p := p) (ss := ss) (came := visit1 u p came s)
    obtain ⟨h3, h4⟩ := visit_ok hS (ss := ss) h1 (by rw [e1]; exact pre_at hi) fun t ht => hm t (List.mem_cons_of_mem _ ht)
    refine ⟨h3, fun t ht r => ?_⟩
    rcases List.mem_cons.mp ht with rfl | ht
    · show t.to ∈ keysOf (visit u p (visit1 u p came t) ss)
      rw [e2]
      unfold keysOf
      rw [List.map_append]
      exact List.mem_append_left _ (h2 r)
    · exact h4 t ht r
theorem bfs_ok {m n : Nat} {u : List (List Int)} {f : Pl → List Stp} {start : Pl} (hS : StepsOk m n f) : ∀ (k i : Nat) (came : Came), WOk m n u f start came → i ≤ came.length → m + n < k + i → (∀ (j : Nat) (p : Pl) (o : Option Stp), j < i → came[j]? = some (p, o) → ∀ s ∈ f p, res u s → s.to ∈ keysOf came) →
    WOk m n u f start (bfs u f k i came) ∧ ∀ p ∈ keysOf (bfs u f k i came), ∀ s ∈ f p, res u s → s.to ∈ keysOf (bfs u f k i came)
  | 0, i, came, h, hi, hk, _ => by
    have := h.ok.len
    omega
  | k + 1, i, came, h, hi, hk, hc => by
    unfold bfs
    cases e : came[i]? with
    | none =>
      show WOk m n u f start came ∧ ∀ p ∈ keysOf came, ∀ s ∈ f p, res u s → s.to ∈ keysOf came
      refine ⟨h, fun p hp s hs r => ?_⟩
      obtain ⟨⟨q, o⟩, hq, rfl⟩ := List.mem_map.mp hp
      obtain ⟨j, hj⟩ := List.getElem?_of_mem hq
      have jl := (List.getElem?_eq_some_iff.mp hj).1
      have := List.getElem?_eq_none_iff.mp e
      exact hc j q o (by omega) hj s hs r
    | some q =>
      obtain ⟨p, o⟩ := q
      obtain ⟨h1, h2⟩ := visit_ok hS h e (ss := f p) fun s hs => hs
      obtain ⟨more, em⟩ := visit_pre (u := u) (p := p) (ss := f p) (came := came)
      have il := (List.getElem?_eq_some_iff.mp e).1
      refine bfs_ok hS k (i + 1) _ h1 (by rw [em, List.length_append]; omega) (by omega) fun j q o' hj hq s hs r => ?_
      by_cases z : j = i
      · subst z
        rw [em, pre_at e] at hq
        cases hq
        exact h2 s hs r
      · have jl : j < came.length := by omega
        rw [em, List.getElem?_append_left jl] at hq
        have := hc j q o' (by omega) hq s hs r
        rw [em]
        unfold keysOf
        rw [List.map_append]
        exact List.mem_append_left _ this
theorem ways_ok {m n : Nat} {u : List (List Int)} {f : Pl → List Stp} {start : Pl} (hS : StepsOk m n f) (hst : start.2 < (if start.1 then m else n)) :
    WOk m n u f start (waysF u f (m + n + 1) start) ∧ ∀ p ∈ keysOf (waysF u f (m + n + 1) start), ∀ s ∈ f p, res u s → s.to ∈ keysOf (waysF u f (m + n + 1) start) := by
  have h0 : WOk m n u f start [(start, none)] := by
    refine ⟨⟨by simp [keysOf], fun p hp => by rw [List.mem_singleton.mp hp]; exact hst⟩, rfl, fun i p s h => ?_, fun i p h => ?_⟩
    · cases i with
      | zero => cases h
      | succ i => simp at h
    · cases i with
      | zero => rfl
      | succ i => simp at h
  exact bfs_ok hS _ 0 _ h0 (Nat.zero_le _) (by omega) fun j p o hj => absurd hj (Nat.not_lt_zero _)
/-! ### the way found -/
/-- a way from start to p along residual steps -/
inductive Path (u : List (List Int)) (f : Pl → List Stp) (start : Pl) : Pl → Way → Prop
  | nil : Path u f start start []
  | step {p : Pl} {s : Stp} {w : Way} : s ∈ f p → res u s → Path u f start p w → Path u f start s.to ((s.c, s.up) :: w)
theorem way_path {m n : Nat} {u : List (List Int)} {f : Pl → List Stp} {start : Pl} {came : Came} (h : WOk m n u f start came) : ∀ (i k : Nat) (p : Pl) (o : Option Stp), came[i]? = some (p, o) → i < k → Path u f start p (wayI came k o) := by
  intro i
  induction i using Nat.strongRecOn with
  | _ i ih =>
    intro k p o hi hk
    obtain ⟨k, rfl⟩ : ∃ j, k = j + 1 := ⟨k - 1, by omega⟩
    cases o with
    | none =>
      have := h.first i p hi
      subst this
      rw [h.zero] at hi
      cases hi
      exact .nil
    | some s =>
      obtain ⟨⟨j, o', hj, hj2⟩, hr, hm⟩ := h.step i p s hi
      show Path u f start p ((s.c, s.up) :: wayI came k (lookC came s.to))
      rw [look_at h.ok.nd hj2]
      exact Path.step (s := ⟨p, s.c, s.up⟩) hm hr (ih j hj k s.to o' hj2 (by omega))
theorem wayF_path {m n : Nat} {u : List (List Int)} {f : Pl → List Stp} {start g : Pl} {came : Came} (h : WOk m n u f start came) (hg : g ∈ keysOf came) : Path u f start g (wayF came g) := by
  obtain ⟨⟨p, o⟩, hq, rfl⟩ := List.mem_map.mp hg
  obtain ⟨i, hi⟩ := List.getElem?_of_mem hq
  unfold wayF
  rw [look_at h.ok.nd hi]
  have := (List.getElem?_eq_some_iff.mp hi).1
  exact way_path h i _ _ o hi (by omega)
theorem path_res {u : List (List Int)} {f : Pl → List Stp} {start p : Pl} {w : Way} (h : Path u f start p w) : ∀ q ∈ w, q.2 = false → 0 < at2 u q.1.1 q.1.2 := by
  induction h with
  | nil => intro q hq; cases hq
  | step hs hr _ ih =>
    intro q hq e
    rcases List.mem_cons.mp hq with rfl | hq
    · rcases hr with hr | hr
      · rw [hr] at e; cases e
      · exact hr
    · exact ih q hq e
end K3
end F6_part
section F7_part
set_option Elab.async false
set_option linter.all false
set_option maxRecDepth 100000
set_option maxHeartbeats 1000000
set_option pp.deepTerms.threshold 5
open PySem PySem.Spec PyProof.Rows L2
/-- go on as far as nothing is open -/
local macro_rules | `(tactic| walk_at "go") => `(tactic| repeat (first
  | with_reducible refine w_seq ?_ | with_reducible refine w_next ?_ | with_reducible refine w_set ?_ | with_reducible refine w_drop ?_ | with_reducible refine w_ret ?_ | with_reducible refine w_retN ?_
  | with_reducible refine w_if ?_ | ((with_reducible refine' w_var ?hv ?_); (case hv => exact rfl)) | with_reducible refine w_c ?_ | with_reducible refine w_nil ?_ | with_reducible refine w_cons ?_ | with_reducible refine w_op ?_ | with_reducible refine w_un ?_
  | with_reducible refine w_test ?_ | with_reducible refine w_tB ?_ | with_reducible refine w_not ?_ | with_reducible refine w_and ?_ | with_reducible refine w_or ?_ | with_reducible refine w_bl ?_
  | with_reducible refine w_andV ?_ | with_reducible refine w_orV ?_ | with_reducible refine w_notV ?_ | with_reducible refine w_ifE ?_ | with_reducible refine w_chain ?_ | with_reducible refine w_i0 ?_
  | with_reducible refine w_call ?_ | with_reducible refine w_callS ?_ | with_reducible refine w_cB ?_ | with_reducible refine w_tup ?_ | with_reducible refine w_lst ?_ | with_reducible refine w_fldV ?_
  | with_reducible refine w_neF ?_ | with_reducible refine w_neT ?_ | with_reducible refine w_notN ?_ | with_reducible refine w_isN ?_ | with_reducible refine w_gname ?_ | with_reducible refine w_gsub ?_ | with_reducible refine w_asg ?_ | with_reducible refine w_sl ?_ | with_reducible refine w_noP ?_ | with_reducible refine w_int1 ?_ | with_reducible refine w_part ?_ | with_reducible refine w_yes ?_ | with_reducible refine w_nT ?_ | with_reducible refine w_nF ?_ | with_reducible refine w_iteT ?_ | with_reducible refine w_iteF ?_))
namespace L2
open PySem PySem.Spec PyProof.Rows
def rGetN (K : PySem.W.Frag) : V → V → Hp → VK → Prop := fun x y H Q => ∃ (p : Addr) (xs : List V) (j : Nat) (v : V), x = .ref p ∧ y = .int (j : Int) ∧ SqL K H p xs ∧ xs[j]? = some v ∧ Q v H
theorem get_listN {X : Cx} : PGet X (rGetN X.K) := by
  intro pins s σ H x y xv yv Q I rx ry ⟨p, xs, j, v, e1, e2, hq, hv, q⟩
  subst e1
  subst e2
  cases rx
  obtain ⟨t, rfl⟩ := ry
  obtain ⟨its, r, pl, hz⟩ := I.list hq
  obtain ⟨w', ew, rw'⟩ := r.get hv
  have hl := r.length
  have hj := (List.getElem?_eq_some_iff.mp hv).1
  have hn := line63
  exact wpAny_getItem_list pl.isList (by omega) (by omega) (by simpa using ew) ⟨v, H, I, rw', q⟩
theorem w_augS {K : PySem.W.Frag} {to ti te : TE} {tip : TIp} {D : L2.Ends} {σ : L2.St} {H : Hp} (h : to σ H fun o H1 => ti σ H1 fun i H2 => rGetN K o i H2 fun x H3 => te σ H3 fun y H4 => tip x y H4 fun z H5 => rSetL o i z H5 fun H6 => D.nx σ H6) : tAugS to ti te (rGetN K) tip rSetL D σ H := h
end L2
namespace K3
def lentF (u : List (List Int)) (w : Way) : List Int := (w.filter fun q => !q.2).map fun q => at2 u q.1.1 q.1.2
def amountF (left : Int) (ls : List Int) : Int := ls.foldl (fun a b => if b < a then b else a) left
theorem amount_min : ∀ (ls : List Int) (left : Int), amountF left ls ∈ left :: ls ∧ ∀ y ∈ left :: ls, amountF left ls ≤ y
  | [], left => ⟨List.mem_singleton.mpr rfl, fun y hy => by rw [List.mem_singleton.mp hy]; exact Int.le_refl _⟩
  | b :: ls, left => by
    obtain ⟨h1, h2⟩ := amount_min ls (if b < left then b else left)
    show amountF (if b < left then b else left) ls ∈ _ ∧ ∀ y ∈ _, amountF (if b < left then b else left) ls ≤ y
    have h3 := h2 _ (List.mem_cons_self ..)
    refine ⟨?_, fun y hy => ?_⟩
    · rcases List.mem_cons.mp h1 with e | e
      · rw [e]
        split
        · exact List.mem_cons_of_mem _ (List.mem_cons_self ..)
        · exact List.mem_cons_self ..
      · exact List.mem_cons_of_mem _ (List.mem_cons_of_mem _ e)
    · rcases List.mem_cons.mp hy with rfl | hy
      · split at h3 <;> rename_i c
        · rw [if_pos c]; omega
        · rw [if_neg c]; omega
      · rcases List.mem_cons.mp hy with rfl | hy
        · split at h3 <;> rename_i c
          · rw [if_pos c]; omega
          · rw [if_neg c]; omega
        · exact h2 y (List.mem_cons_of_mem _ hy)
theorem amount_is {left x : Int} {ls : List Int} (h1 : x ∈ left :: ls) (h2 : ∀ y ∈ left :: ls, x ≤ y) : x = amountF left ls := by
  obtain ⟨h3, h4⟩ := amount_min ls left
  have := h2 _ h3
  have := h4 _ h1
  omega
def addAt (u : List (List Int)) (c : Nat × Nat) (x : Int) : List (List Int) := u.set c.1 ((u.getD c.1 []).set c.2 (at2 u c.1 c.2 + x))
def applyF (u : List (List Int)) (w : Way) (a : Int) : List (List Int) := w.foldl (fun u q => addAt u q.1 (sgn q.2 * a)) u
def pushF (f : Pl → List Stp) (N : Nat) (start goal : Pl) : Nat → Int → List (List Int) → List (List Int) × Int
  | 0, left, u => (u, left)
  | k + 1, left, u =>
    if left ≤ 0 then (u, left) else
    let came := waysF u f N start
    if goal ∈ keysOf came then
      let w := wayF came goal
      let a := amountF left (lentF u w)
      pushF f N start goal k (left - a) (applyF u w a)
    else (u, left)
theorem lent_pos {u : List (List Int)} {w : Way} (h : ∀ q ∈ w, q.2 = false → 0 < at2 u q.1.1 q.1.2) : ∀ x ∈ lentF u w, 0 < x := by
  intro x hx
  obtain ⟨q, hq, rfl⟩ := List.mem_map.mp hx
  obtain ⟨h1, h2⟩ := List.mem_filter.mp hq
  exact h q h1 (by simpa using h2)
theorem amount_pos {left : Int} {ls : List Int} (h0 : 0 < left) (h : ∀ x ∈ ls, 0 < x) : 0 < amountF left ls ∧ amountF left ls ≤ left := by
  obtain ⟨h3, h4⟩ := amount_min ls left
  refine ⟨?_, h4 _ (List.mem_cons_self ..)⟩
  rcases List.mem_cons.mp h3 with e | e
  · omega
  · exact h _ e
theorem addAt_len {u : List (List Int)} {c : Nat × Nat} {x : Int} {m n : Nat} (h : Rect u m n) : Rect (addAt u c x) m n := by
  unfold addAt
  refine ⟨by rw [List.length_set]; exact h.1, fun r hr => ?_⟩
  by_cases hc : c.1 < u.length
  · rcases List.mem_or_eq_of_mem_set hr with z | z
    · exact h.2 r z
    · rw [z, List.length_set, List.getD_eq_getElem?_getD, List.getElem?_eq_getElem hc]
      exact h.2 _ (List.getElem_mem hc)
  · rw [List.set_eq_of_length_le (by omega)] at hr
    exact h.2 r hr
theorem applyF_rect {m n : Nat} {a : Int} : ∀ {w : Way} {u : List (List Int)}, Rect u m n → Rect (applyF u w a) m n
  | [], _, h => h
  | q :: w, u, h => applyF_rect (w := w) (addAt_len h)
theorem push_fuel {m n : Nat} {f : Pl → List Stp} {start goal : Pl} (hS : StepsOk m n f) (hst : start.2 < (if start.1 then m else n)) : ∀ (k k' : Nat) (left : Int) (u : List (List Int)), left.toNat < k → left.toNat < k' → pushF f (m + n + 1) start goal k left u = pushF f (m + n + 1) start goal k' left u := by
  intro k
  induction k with
  | zero => intro k' left u h; omega
  | succ k ih =>
    intro k' left u h h'
    obtain ⟨k', rfl⟩ : ∃ j, k' = j + 1 := ⟨k' - 1, by omega⟩
    unfold pushF
    by_cases c : left ≤ 0
    · rw [if_pos c, if_pos c]
    · rw [if_neg c, if_neg c]
      simp only
      by_cases g : goal ∈ keysOf (waysF u f (m + n + 1) start)
      · rw [if_pos g, if_pos g]
        obtain ⟨w1, _⟩ := ways_ok (u := u) hS hst
        obtain ⟨a1, a2⟩ := amount_pos (left := left) (by omega) (lent_pos (path_res (wayF_path w1 g)))
        exact ih k' _ _ (by omega) (by omega)
      · rw [if_neg g, if_neg g]
theorem FlowAt.put {K : PySem.W.Frag} {H : Hp} {F : Addr} {c0 : Nat × Nat} {np : Addr} {rs : List Addr} {u : List (List Int)} {m n : Nat} {f : Pl → List Stp} (h : FlowAt K H F c0 np rs u m n f) {c : Nat × Nat} {a : Addr} {r : List Int} (ha : rs[c.1]? = some a) (hr : u[c.1]? = some r) (x : Int) :
    FlowAt K (upd H a (.lst ((r.set c.2 (at2 u c.1 c.2 + x)).map V.int))) F c0 np rs (addAt u c x) m n f ∧ Tk H (upd H a (.lst ((r.set c.2 (at2 u c.1 c.2 + x)).map V.int))) := by
  obtain ⟨⟨dx, vc, d, kvs, h1, h2, h3, h4⟩, h5, h6, h7, h8⟩ := h
  obtain ⟨r', hr', hx⟩ := K3.Paired.get h5.rows ha
  obtain rfl : r = r' := Option.some.inj (hr.symm.trans hr')
  have hx : H a = some (.lst (r.map V.int)) := hx
  have am : a ∈ rs := List.mem_of_getElem? ha
  have tk : Tk H (upd H a (.lst ((r.set c.2 (at2 u c.1 c.2 + x)).map V.int))) := Tk.upd hx fun xs e => by cases e
  have e : addAt u c x = u.set c.1 (r.set c.2 (at2 u c.1 c.2 + x)) := by
    unfold addAt
    rw [List.getD_eq_getElem?_getD, hr]
    rfl
  refine ⟨⟨⟨dx, vc, d, kvs, ?_, h2.tk tk, ?_, fun p => (h4 p).imp id fun ⟨l, xs, a1, a2, a3, a4⟩ => ⟨l, xs, a1, (by rw [upd_ne (fun z => a3 (by rw [z]; exact am))]; exact a2), a3, L2.Paired.mapP a4 fun _ _ z => z.tk tk⟩⟩, ⟨?_, ?_⟩, addAt_len h6, h7, h8⟩, tk⟩
  · rw [upd_ne (fun z => by rw [z, hx] at h1; cases h1)]; exact h1
  · rw [upd_ne (fun z => by rw [z, hx] at h3; cases h3)]; exact h3
  · rw [upd_ne (fun z => h8 (by rw [z]; exact am))]; exact h5.at_
  · rw [e]
    refine paired_set h5.rows ha upd_same fun k b row ne hb z => ?_
    show upd H a _ b = _
    rw [upd_ne (fun e => ne (nodup_at h7 (by rw [e] at hb; exact hb) ha))]
    exact z
def spPushed (K : PySem.W.Frag) : Sp := fun vs H Q _ => ∃ (F : Addr) (v1 v2 : V) (c : Nat × Nat) (np : Addr) (rs : List Addr) (u : List (List Int)) (m n : Nat) (f : Pl → List Stp) (start goal : Pl) (most : Int), vs = [.ref F, v1, v2, .int most] ∧ FlowAt K H F c np rs u m n f ∧ StepsOk m n f ∧ m ≤ 60 ∧ n ≤ 60 ∧ PlAt H v1 start ∧ PlAt H v2 goal ∧ start.2 < (if start.1 then m else n) ∧ 0 ≤ most ∧
  ∀ H', BM rs H H' → Tk H H' → FlowAt K H' F c np rs (pushF f (m + n + 1) start goal (most.toNat + 1) most u).1 m n f → Q (.int (most - (pushF f (m + n + 1) start goal (most.toNat + 1) most u).2)) H'
def PuInv (K : PySem.W.Frag) (H : Hp) (F : Addr) (v1 v2 : V) (most : Int) (c : Nat × Nat) (np : Addr) (rs : List Addr) (u0 : List (List Int)) (m n : Nat) (f : Pl → List Stp) (start goal : Pl) (k : Nat) (σ : L2.St) (H' : Hp) : Prop :=
  ∃ (left : Int) (u : List (List Int)) (o5 o6 o7 o8 o9 o10 o11 o12 : Option V), k = left.toNat ∧ σ = [some (.ref F), some v1, some v2, some (.int most), some (.int left), o5, o6, o7, o8, o9, o10, o11, o12] ∧ BM rs H H' ∧ Tk H H' ∧ FlowAt K H' F c np rs u m n f ∧ 0 ≤ left ∧ pushF f (m + n + 1) start goal (left.toNat + 1) left u = pushF f (m + n + 1) start goal (most.toNat + 1) most u0
theorem way_len {H : Hp} {ws : List V} {w : Way} (h : Paired (WayAt H) ws w) : ws.length = w.length := h.length
theorem wayI_len {came : Came} : ∀ (k : Nat) (o : Option Stp), (wayI came k o).length ≤ k
  | 0, _ => Nat.le_refl 0
  | k + 1, none => Nat.zero_le _
  | k + 1, some s => by
    show (wayI came k _).length + 1 ≤ k + 1
    have := wayI_len (came := came) k (lookC came s.to)
    omega
theorem way_cells {m n : Nat} {u : List (List Int)} {f : Pl → List Stp} {start p : Pl} {w : Way} (hS : StepsOk m n f) (h : Path u f start p w) : ∀ q ∈ w, q.1.1 < m ∧ q.1.2 < n := by
  induction h with
  | nil => intro q hq; cases hq
  | step hs _ _ ih =>
    intro q hq
    rcases List.mem_cons.mp hq with rfl | hq
    · exact hS.cell _ _ hs
    · exact ih q hq
section
variable {P : Program} {w : World} {K : PySem.W.Frag} {mg : Str → Option Value} {base : Heap}
theorem sc_pushed : FnScope ["flow", "start", "goal", "most", "left", "came", "way", "cell", "sign", "lent", "amount", "row", "column"] ["flow", "start", "goal", "most"] (defScope s_pushed) := ⟨rfl, rfl, rfl, by decide +kernel, rfl, by decide +kernel, by decide +kernel⟩
theorem ok_pushed (T : Tx K mg) : Ok P w K mg base 3 (He.ga K "pushed") ["flow", "start", "goal", "most"] (spPushed K) := by
  obtain ⟨fd, F⟩ := T.f_pushed
  have Onumber_at := ok_number_at (P := P) (w := w) (base := base) T
  have Oway_to := ok_way_to (P := P) (w := w) (base := base) T
  have Oways_from := ok_ways_from (P := P) (w := w) (base := base) T
  refine ⟨fd, F.ok (k := 2) sc_pushed (fun vs H Q E h => ?_) (fun cdv A outer s_ H vs Q E hr h => ?_), F.bindsN fun _ _ _ _ _ _ us hl => match us, hl with | [_, _, _, _], _ => rfl, F.kp⟩
  · obtain ⟨F, v1, v2, c, np, rs, u0, m, n, f, start, goal, most, rfl, hF, hS, m60, n60, hv1, hv2, hst, h0, q⟩ := h
    rfl
  obtain ⟨F, v1, v2, c, np, rs, u0, m, n, f, start, goal, most, rfl, hF, hS, m60, n60, hv1, hv2, hst, h0, q⟩ := h
  have hu65 := K3.Room.units65 hr
  have hu64 := Nat.lt_of_succ_lt hu65
  have hu0 := Nat.lt_of_le_of_lt (Nat.le_add_right _ 65) hu65
  have hu1 := Nat.lt_of_le_of_lt (Nat.add_le_add_left (show 1 ≤ 65 by decide) _) hu65
  have rnumber_at : Room 1 _ := hr.mono (by decide)
  have rway_to : Room 1 _ := hr.mono (by decide)
  have rways_from : Room 2 _ := hr.mono (by decide)
  refine ⟨_, pss_cons (ps_set (i := 4) sc_pushed.nd rfl (Or.inl rfl) (pv 3))
      (pss_cons (ps_while (passes_of rfl) (pt_cmpR op_gt (pv 4) pe_int (nomark _)) (pss_cons (ps_set (i := 5) sc_pushed.nd rfl (Or.inl rfl) (pe_f Oways_from rways_from T.g_ways_from (pa_cons (pv 0) (pa_cons (pv 1) pa_nil))))
      (pss_cons (ps_if (pt_cmp (pc_dnotin hu1 (pv 2) (pv 5))) (pss_one (ps_ret (pe_op op_sub (pv 3) (pv 4)))) pss_nil)
      (pss_cons (ps_set (i := 6) sc_pushed.nd rfl (Or.inl rfl) (pe_f Oway_to rway_to T.g_way_to (pa_cons (pv 5) (pa_cons (pv 2) pa_nil))))
      (pss_cons (by exact ps_setLc (i := 9) (own := [("cell", 7), ("sign", 8)]) (g := gTup K 2 (gCons (gName 7) (gCons (gName 8) gNil))) (tt := (tTest (tOp (rI0 fun i j => .bl (decide (i < j))) (tVar 8) (tC (.int 0))))) (te := (tCall (spNum K) [] E0 (tCons (tFld K (tVar 0) "numbers") (tCons (tVar 7) tNil)))) (by rfl) sc_pushed.nd rfl rfl (by rfl) (pi_list (pv 6)) (blkOk_by (own := [("cell", 7), ("sign", 8)]) (N := ["flow", "start", "goal", "most", "left", "came", "way", "cell", "sign", "lent", "amount", "row", "column"]) (sc := defScope s_pushed) (by decide +kernel)) (fun _ _ _ _ _ => (pg_tup (by rfl) (pgs_cons (pg_name (i := 7) sc_pushed.nd rfl (Or.inl rfl)) (pgs_cons (pg_name (i := 8) sc_pushed.nd rfl (Or.inl rfl)) pgs_nil)))) (fun _ _ _ _ _ => (pts_one (pt_cmpR op_lt (pv 8) pe_int (nomark _)))) (fun _ _ _ _ _ => (pe_f Onumber_at rnumber_at T.g_number_at (pa_cons (pe_fld (pv 0) rfl) (pa_cons (pv 7) pa_nil)))))
      (pss_cons (ps_set (i := 10) sc_pushed.nd rfl (Or.inl rfl) (pe_callB (cr_min (by rfl)) (by rfl) T.z_min (by decide +kernel) (pa_cons (pe_op op_cat (pe_lst (pa_cons (pv 4) pa_nil)) (pv 9)) pa_nil)))
      (pss_cons (ps_for (passes_of rfl) (by rfl) (pi_list (pv 6)) (pg_tup (by rfl) (pgs_cons (pg_name (i := 7) sc_pushed.nd rfl (Or.inl rfl)) (pgs_cons (pg_name (i := 8) sc_pushed.nd rfl (Or.inl rfl)) pgs_nil))) (pss_cons (ps_asg (pv 7) (pg_tup (by rfl) (pgs_cons (pg_name (i := 11) sc_pushed.nd rfl (Or.inl rfl)) (pgs_cons (pg_name (i := 12) sc_pushed.nd rfl (Or.inl rfl)) pgs_nil))))
      (pss_one (ps_augS (pe_ix ix_list (pe_fld (pv 0) rfl) (pv 11) (fun _ _ => rfl)) (pv 12) get_listN (pe_op op_mul (pv 8) (pv 10)) ip_add set_list))))
      (pss_one (ps_aug (i := 4) sc_pushed.nd rfl (Or.inl rfl) (pv 10) ip_sub)))))))))
      (pss_one (ps_ret (pv 3)))), ?_⟩
  walk_at "go"
  refine ⟨PuInv K H F v1 v2 most c np rs u0 m n f start goal, ⟨_, most, u0, _, _, _, _, _, _, _, _, rfl, rfl, BM.refl _ _, Tk.refl _, hF, h0, rfl⟩, ?_⟩
  rintro k σ H1 ⟨left, u, o5, o6, o7, o8, o9, o10, o11, o12, rfl, rfl, b1, tk1, hF1, hl, hp⟩
  generalize hR : pushF f (m + n + 1) start goal (most.toNat + 1) most u0 = R at hp q
  walk_at "go"
  by_cases cl : left > 0
  · rw [decide_eq_true cl]
    refine iteT ?_
    refine ⟨fun σ' H' => ∃ m', m' < left.toNat ∧ PuInv K H F v1 v2 most c np rs u0 m n f start goal m' σ' H', fun _ _ h => h, ?_⟩
    obtain ⟨w1, w2⟩ := ways_ok (u := u) hS hst
    walk_at "go"
    refine ⟨F, v1, c, np, rs, u, m, n, f, start, rfl, hF1, hS, m60, n60, hv1.tk tk1, hst, fun d H2 e2 hd hcame => ?_⟩
    have hF2 := hF1.same e2
    have tk2 := tk1.trans (Tk.of e2)
    have b2 := b1.trans (BM.of e2)
    have hclen := w1.ok.len
    have hp' := hp
    unfold pushF at hp
    rw [if_neg (by omega)] at hp
    simp only at hp
    generalize hcm : waysF u f (m + n + 1) start = came at hcame w1 w2 hclen hp
    obtain ⟨kvs, hkv, hkp⟩ := id hcame
    obtain ⟨a2, rfl, ha2⟩ := hv2.tk tk2
    walk_at "go"
    refine ⟨_, rfl, _, rfl, d, valV kvs (plKey goal), rfl, DGet.t hkv ha2, ?_⟩
    rcases came_get hkp goal with ⟨hn, hv⟩ | ⟨i', o, v, k1, k2, k3, k4⟩
    · rw [hv]
      refine ⟨true, rfl, ?_⟩
      walk_at "go"
      rw [if_neg hn] at hp
      have := q H2 b2 tk2 (by rw [← hp]; exact hF2)
      rw [← hp] at this
      exact this
    · rw [k3]
      refine ⟨false, rfl, ?_⟩
      have hg : goal ∈ keysOf came := List.mem_map.mpr ⟨_, List.mem_of_getElem? k1, rfl⟩
      rw [if_pos hg] at hp
      have path := wayF_path w1 hg
      walk_at "go"
      refine ⟨d, .ref a2, came, goal, rfl, hcame, ⟨a2, rfl, ha2⟩, w1.ok.nd, w1.tree, by omega, hg, fun w H3 ws e3 hw0 hw3 hws => ?_⟩
      have lw := way_len hws
      have lw2 : (wayF came goal).length ≤ 200 := by
        have := wayI_len (came := came) (came.length + 1) (lookC came goal)
        unfold wayF
        omega
      have cells := way_cells hS path
      have pos := lent_pos (path_res path)
      generalize wayF came goal = way at hws lw lw2 cells pos path hp
      have hF3 := hF2.same e3
      walk_at "go"
      refine lcAt_open ?_
      refine list_open ?_
      walk_at "go"
      refine ⟨w, rfl, ⟨_, SqL.of hw3⟩, fun D hD => ?_⟩
      refine lc_list (xs := ws) (fun i H' => Same H3 H' ∧ H' D = some (.lst ((lentF u (way.take i)).map V.int))) ⟨Same.new hD _, upd_same⟩ (fun i H' _ z => SqL.of (z.1 _ _ hw3)) ?_ ?_
      · rintro i x H4 hx ⟨e4, hD4⟩
        obtain ⟨y, hy, hyx⟩ := K3.Paired.get hws hx
        obtain ⟨a, vc, rfl, ha, hvc⟩ := hyx.tk (Tk.of e4)
        refine ⟨a, _, rfl, SqT.of ha, rfl, _, _, rfl, _, _, rfl, rfl, ?_⟩
        refine ⟨rfl, ?_⟩
        have htk : lentF u (way.take (i + 1)) = lentF u (way.take i) ++ (if y.2 = true then [] else [at2 u y.1.1 y.1.2]) := by
          unfold lentF
          rw [List.take_add_one, hy, List.filter_append, List.map_append]
          congr 1
          cases h : y.2 <;> simp [h]
        walk_at "go"
        cases hup : y.2 with
        | true =>
          rw [hup, if_pos rfl, List.append_nil] at htk
          rw [show decide (sgn true < 0) = false from rfl]
          walk_at "go"
          exact ⟨e4, by rw [htk]; exact hD4⟩
        | false =>
          rw [hup, if_neg (by decide)] at htk
          rw [show decide (sgn false < 0) = true from rfl]
          walk_at "go"
          obtain ⟨c1, c2⟩ := cells y (List.mem_of_getElem? hy)
          obtain ⟨⟨dx, vc0, sd, skv, hob, _⟩, htab, hrect, _, _⟩ := hF3.same e4
          refine ⟨F, _, dx, _, _, rfl, hob, T.cl_Flow, T.n_Flow_numbers, rfl, ?_⟩
          walk_at "go"
          refine ⟨np, vc, rs, u, m, n, y.1.1, y.1.2, rfl, htab.gt, hrect, hvc, c1, c2, ?_⟩
          refine ⟨_, hD4, Nat.lt_of_le_of_lt (show _ ≤ 200 from ?_) (by decide), e4.mut hD, ?_⟩
          · unfold lentF
            rw [List.length_map, List.length_map]
            refine Nat.le_trans (List.length_filter_le _ _) ?_
            rw [List.length_take]
            omega
          · rw [upd_same, htk, List.map_append]
            rfl
      · rintro H4 ⟨e4, hD4⟩
        rw [lw, List.take_length] at hD4
        have ll : (lentF u way).length ≤ 200 := by
          unfold lentF
          rw [List.length_map]
          exact Nat.le_trans (List.length_filter_le _ _) lw2
        walk_at "go"
        refine ⟨(by show 1 ≤ sizeLine; decide), fun l5 hl5 => ?_⟩
        have e5 := Same.new hl5 (.lst [V.int left])
        walk_at "go"
        refine ⟨l5, D, _, _, rfl, rfl, upd_same, e5 _ _ hD4, Nat.le_trans (show _ ≤ 201 by rw [List.length_map]; simp; omega) (by decide), fun l6 hl6 => ?_⟩
        have e6 := Same.new hl6 (.lst ([V.int left] ++ (lentF u way).map V.int))
        refine ⟨l6, left :: lentF u way, rfl, SqL.of upd_same, by simp, fun am h1 h2 => ?_⟩
        obtain rfl := amount_is h1 h2
        have e46 := e4.trans (e5.trans e6)
        generalize upd (upd H4 l5 (.lst [V.int left])) l6 (.lst ([V.int left] ++ (lentF u way).map V.int)) = H6 at e46 ⊢
        obtain ⟨ap1, ap2⟩ := amount_pos (left := left) (by omega) pos
        generalize amountF left (lentF u way) = am at ap1 ap2 hp h1 h2
        have hF6 := hF3.same e46
        have hw6 := e46 _ _ hw3
        have hws6 := L2.Paired.mapP hws fun _ _ y => y.tk (Tk.of e46)
        walk_at "go"
        refine list_open ?_
        walk_at "go"
        refine ⟨w, rfl, ⟨_, SqL.of hw6⟩, ?_⟩
        have wrs : w ∉ rs := fun z => by
          obtain ⟨r, hr⟩ := paired_has hF2.tab.rows z
          have hr : H2 w = some _ := hr
          rw [hw0] at hr
          cases hr
        have b6 := b2.trans (BM.of (M := rs) (e3.trans e46))
        have tk6 := tk2.trans (Tk.of (e3.trans e46))
        refine for_list (xs := ws) (fun i σ H' => ∃ (o7 o8 o11 o12 : Option V), σ = [some (.ref F), some v1, some (.ref a2), some (.int most), some (.int left), some (.ref d), some (.ref w), o7, o8, some (.ref D), some (.int am), o11, o12] ∧ BM rs H6 H' ∧ Tk H6 H' ∧ FlowAt K H' F c np rs (applyF u (way.take i) am) m n f) ?_ ?_ ?_ ?_
        · exact ⟨_, _, _, _, rfl, BM.refl _ _, Tk.refl _, hF6⟩
        · rintro i σ H' hi ⟨_, _, _, _, _, b, _, _⟩
          exact SqL.of (b.at hw6 wrs)
        · rintro i x σ H7 hx ⟨o7, o8, o11, o12, rfl, b7, tk7, hF7⟩
          obtain ⟨y, hy, hyx⟩ := K3.Paired.get hws6 hx
          obtain ⟨a, vc, rfl, ha, ac, rfl, hac⟩ := hyx.tk tk7
          obtain ⟨c1, c2⟩ := cells y (List.mem_of_getElem? hy)
          refine ⟨a, _, rfl, SqT.of ha, rfl, _, _, rfl, _, _, rfl, rfl, ?_⟩
          walk_at "go"
          refine ⟨ac, _, rfl, SqT.of hac, rfl, _, _, rfl, _, _, rfl, rfl, ?_⟩
          have rectU : Rect (applyF u (way.take i) am) m n := hF7.rect
          obtain ⟨ra, r, hra, hr, hrx⟩ := row_of hF7.tab (i := y.1.1) (by rw [rectU.1]; exact c1)
          have lr : r.length = n := rectU.2 r (List.mem_of_getElem? hr)
          have hrg : r.getD y.1.2 0 = at2 (applyF u (way.take i) am) y.1.1 y.1.2 := (at2_of hr).symm
          have put := hF7.put (c := y.1) hra hr (sgn y.2 * am)
          obtain ⟨⟨dx, vc0, sd, skv, hob, _⟩, htab, hrect, _, _⟩ := id hF7
          dsimp only
          refine w_augS ?_
          walk_at "go"
          refine ⟨F, _, dx, _, _, rfl, hob, T.cl_Flow, T.n_Flow_numbers, rfl, ?_⟩
          walk_at "go"
          refine w_ixL htab.at_ (ref_at hra) ?_
          walk_at "go"
          have hat : (r.map V.int)[y.1.2]? = some (.int (r.getD y.1.2 0)) := by
            rw [List.getElem?_map, List.getElem?_eq_getElem (by omega), List.getD_eq_getElem?_getD, List.getElem?_eq_getElem (by omega)]
            rfl
          refine ⟨ra, _, y.1.2, _, rfl, rfl, SqL.of hrx, hat, ?_⟩
          walk_at "go"
          refine w_i (.inl (by cases y.2 <;> decide)) ?_
          refine ⟨_, _, rfl, rfl, ?_⟩
          refine w_setL hrx (j := y.1.2) ?_ ?_
          · unfold ixN
            rw [if_pos (by omega), if_pos (by rw [List.length_map]; omega)]
            simp
          rw [hrg, ← List.map_set]
          refine ⟨_, _, _, _, rfl, b7.trans (BM.upd (List.mem_of_getElem? hra) _), tk7.trans put.2, ?_⟩
          have : applyF u (way.take (i + 1)) am = addAt (applyF u (way.take i) am) y.1 (sgn y.2 * am) := by
            unfold applyF
            rw [List.take_add_one, hy, List.foldl_append]
            rfl
          rw [this]
          exact put.1
        · rintro σ H7 ⟨o7, o8, o11, o12, rfl, b7, tk7, hF7⟩
          rw [lw, List.take_length] at hF7
          walk_at "go"
          refine ⟨_, rfl, ?_⟩
          walk_at "go"
          refine ⟨_, _, rfl, rfl, ?_⟩
          refine ⟨_, ?_, left - am, applyF u way am, _, _, _, _, _, _, _, _, rfl, rfl, b6.trans b7, tk6.trans tk7, hF7, by omega, ?_⟩
          · omega
          · rw [hR, ← hp]
            exact push_fuel hS hst _ _ _ _ (Nat.lt_succ_self _) (by omega)
  · rw [decide_eq_false cl]
    walk_at "go"
    obtain rfl : left = 0 := by omega
    have := q H1 b1 tk1
    rw [← hp] at this
    have := this hF1
    rw [show (pushF f (m + n + 1) start goal ((0 : Int).toNat + 1) 0 u).2 = 0 from rfl, Int.sub_zero] at this
    exact this
end
end K3
end F7_part
section F8_part
set_option Elab.async false
set_option linter.all false
set_option maxRecDepth 100000
set_option maxHeartbeats 1000000
set_option pp.deepTerms.threshold 5
open PySem PySem.Spec PyProof.Rows L2
/-- go on as far as nothing is open -/
local macro_rules | `(tactic| walk_at "go") => `(tactic| repeat (first
  | with_reducible refine w_seq ?_ | with_reducible refine w_next ?_ | with_reducible refine w_set ?_ | with_reducible refine w_drop ?_ | with_reducible refine w_ret ?_ | with_reducible refine w_retN ?_
  | with_reducible refine w_if ?_ | ((with_reducible refine' w_var ?hv ?_); (case hv => exact rfl)) | with_reducible refine w_c ?_ | with_reducible refine w_nil ?_ | with_reducible refine w_cons ?_ | with_reducible refine w_op ?_ | with_reducible refine w_un ?_
  | with_reducible refine w_test ?_ | with_reducible refine w_tB ?_ | with_reducible refine w_not ?_ | with_reducible refine w_and ?_ | with_reducible refine w_or ?_ | with_reducible refine w_bl ?_
  | with_reducible refine w_andV ?_ | with_reducible refine w_orV ?_ | with_reducible refine w_notV ?_ | with_reducible refine w_ifE ?_ | with_reducible refine w_chain ?_ | with_reducible refine w_i0 ?_
  | with_reducible refine w_call ?_ | with_reducible refine w_callS ?_ | with_reducible refine w_cB ?_ | with_reducible refine w_tup ?_ | with_reducible refine w_lst ?_ | with_reducible refine w_fldV ?_
  | with_reducible refine w_neF ?_ | with_reducible refine w_neT ?_ | with_reducible refine w_notN ?_ | with_reducible refine w_isN ?_ | with_reducible refine w_gname ?_ | with_reducible refine w_gsub ?_ | with_reducible refine w_asg ?_ | with_reducible refine w_sl ?_ | with_reducible refine w_noP ?_ | with_reducible refine w_int1 ?_ | with_reducible refine w_part ?_ | with_reducible refine w_yes ?_ | with_reducible refine w_nT ?_ | with_reducible refine w_nF ?_ | with_reducible refine w_iteT ?_ | with_reducible refine w_iteF ?_))
namespace K3
/-! ### flows -/
theorem steps_ok {m n : Nat} {cs : List (Nat × Nat)} (hm : 1 ≤ m) (hn : 1 ≤ n) (h : ∀ c ∈ cs, c.1 < m ∧ c.2 < n) (hl : cs.length ≤ 100) : StepsOk m n (stepsF m n cs) := by
  have arcs : ∀ c ∈ cs, (arcF m n c).1.2 < (if (arcF m n c).1.1 then m else n) ∧ (arcF m n c).2.2 < (if (arcF m n c).2.1 then m else n) := by
    intro c hc
    obtain ⟨h1, h2⟩ := h c hc
    unfold arcF
    split
    · exact ⟨by simpa using h1, by simpa using h2⟩
    · exact ⟨by simpa using h2, by simpa using h1⟩
  have each : ∀ p, ∀ s ∈ stepsF m n cs p, ∃ c ∈ cs, s.c = c ∧ (s.to = (arcF m n c).2 ∨ s.to = (arcF m n c).1) := by
    intro p s hs
    unfold stepsF at hs
    obtain ⟨c, hc, e⟩ := List.mem_filterMap.mp hs
    refine ⟨c, hc, ?_⟩
    split at e
    · cases e; exact ⟨rfl, .inl rfl⟩
    · split at e
      · cases e; exact ⟨rfl, .inr rfl⟩
      · cases e
  refine ⟨fun p => Nat.le_trans (steps_len m n cs p) hl, fun p s hs => ?_, fun p s hs => ?_⟩
  · obtain ⟨c, hc, e, _⟩ := each p s hs
    rw [e]
    exact h c hc
  · obtain ⟨c, hc, _, e | e⟩ := each p s hs
    · rw [e]; exact (arcs c hc).2
    · rw [e]; exact (arcs c hc).1
theorem arc_place {m n : Nat} {c : Nat × Nat} (h1 : c.1 < m) (h2 : c.2 < n) : (arcF m n c).1.2 < (if (arcF m n c).1.1 then m else n) ∧ (arcF m n c).2.2 < (if (arcF m n c).2.1 then m else n) := by
  unfold arcF
  split
  · exact ⟨by simpa using h1, by simpa using h2⟩
  · exact ⟨by simpa using h2, by simpa using h1⟩
def othersF (cs : List (Nat × Nat)) (c : Nat × Nat) : List (Nat × Nat) := cs.filter fun k => !decide (k = c)
def runF (m n : Nat) (cs : List (Nat × Nat)) (t : List (List Int)) (c : Nat × Nat) (s g : Pl) (most : Int) : List (List Int) × Int := pushF (stepsF m n (othersF cs c)) (m + n + 1) s g (most.toNat + 1) most t
def leastF (m n : Nat) (cs : List (Nat × Nat)) (t : List (List Int)) (c : Nat × Nat) : List (List Int) :=
  addAt (runF m n cs t c (arcF m n c).1 (arcF m n c).2 (at2 t c.1 c.2)).1 c (-(at2 t c.1 c.2 - (runF m n cs t c (arcF m n c).1 (arcF m n c).2 (at2 t c.1 c.2)).2))
def roomF (m n : Nat) (t : List (List Int)) (c : Nat × Nat) : Int := at2 t (m - 1) (n - 1) - at2 t c.1 c.2
def mostF (m n : Nat) (cs : List (Nat × Nat)) (t : List (List Int)) (c : Nat × Nat) : List (List Int) :=
  addAt (runF m n cs t c (arcF m n c).2 (arcF m n c).1 (roomF m n t c)).1 c (roomF m n t c - (runF m n cs t c (arcF m n c).2 (arcF m n c).1 (roomF m n t c)).2)
theorem Same.mutX {B H : Hp} {x : Addr} {o : HO} (e : Same B H) (h : B x = none) : Same B (upd H x o) := e.mut h
def spFlow (K : PySem.W.Frag) : Sp := fun vs H Q _ => ∃ (x dx g h : Addr) (v : V) (rs : List Addr) (t : List (List Int)) (m n : Nat) (ws : List V) (cs : List (Nat × Nat)) (c : Nat × Nat) (B : Hp), vs = [.ref x, .ref g, .ref h, v] ∧ Same B H ∧ B x = none ∧ GT K B g rs t ∧ Rect t m n ∧ 1 ≤ m ∧ 1 ≤ n ∧ m ≤ 60 ∧ n ≤ 60 ∧
  B h = some (.lst ws) ∧ Paired (CellAt B) ws cs ∧ cs.length ≤ 100 ∧ CellAt B v c ∧ H x = some (.ins (He.ga K "Flow") dx []) ∧
  ∀ H' np rs', Same B H' → FlowAt K H' x c np rs' t m n (stepsF m n (othersF cs c)) → B np = none → (∀ r ∈ rs', B r = none) → Q .non H'
def spNow (K : PySem.W.Frag) : Sp := fun vs H Q _ => ∃ (F : Addr) (c : Nat × Nat) (np : Addr) (rs : List Addr) (u : List (List Int)) (m n : Nat) (f : Pl → List Stp), vs = [.ref F] ∧ FlowAt K H F c np rs u m n f ∧ c.1 < m ∧ c.2 < n ∧ Q (.int (at2 u c.1 c.2)) H
def spChange (K : PySem.W.Frag) : Sp := fun vs H Q _ => ∃ (F : Addr) (c : Nat × Nat) (np : Addr) (rs : List Addr) (u : List (List Int)) (m n : Nat) (f : Pl → List Stp) (x : Int), vs = [.ref F, .int x] ∧ FlowAt K H F c np rs u m n f ∧ c.1 < m ∧ c.2 < n ∧
  ∀ H', BM rs H H' → Tk H H' → FlowAt K H' F c np rs (addAt u c x) m n f → Q .non H'
section
variable {P : Program} {w : World} {K : PySem.W.Frag} {mg : Str → Option Value} {base : Heap}
theorem sc_Flow : FnScope ["self", "grid", "hidden", "cell", "row", "other"] ["self", "grid", "hidden", "cell"] (defScope s_Flow_init) := ⟨rfl, rfl, rfl, by decide +kernel, rfl, by decide +kernel, by decide +kernel⟩
theorem ok_Flow (T : Tx K mg) : Ok P w K mg base 4 (He.ma K (He.ga K "Flow") "__init__") ["self", "grid", "hidden", "cell"] (spFlow K) := by
  obtain ⟨fd, F⟩ := T.f_Flow_init
  have Osteps_of := ok_steps_of (P := P) (w := w) (base := base) T
  refine ⟨fd, F.ok (k := 3) sc_Flow (fun vs H Q E h => ?_) (fun cdv A outer s_ H vs Q E hr h => ?_), F.bindsN fun _ _ _ _ _ _ us hl => match us, hl with | [_, _, _, _], _ => rfl, F.kp⟩
  · obtain ⟨x, dx, g, h, v, rs, t, m, n, ws, cs, c, B, rfl, _⟩ := h
    rfl
  obtain ⟨x, dx, g, h, v, rs, t, m, n, ws, cs, c, B, rfl, e0, hx0, ht, hR, m1, n1, m60, n60, hh, hw, hlen, hv, hx, q⟩ := h
  have hu65 := K3.Room.units65 hr
  have hu64 := Nat.lt_of_succ_lt hu65
  have rsteps_of : Room 3 _ := hr.mono (by decide)
  refine ⟨_, pss_cons (ps_fld (pv 0) (pv 3) rfl)
      (pss_cons (ps_fld (pv 0) (by exact pe_lc (own := [("row", 4)]) (g := gName 4) (tt := tYes) (te := (tCB (fun xs H Q => ∃ p ys, xs = [V.ref p] ∧ (SqL K H p ys ∨ SqT K H p ys) ∧ ∀ l, H l = none → Q (.ref l) (upd H l (.lst ys))) (tCons (tVar 4) tNil))) (by rfl) sc_Flow.nd (pi_seq (pv 1)) (blkOk_by (own := [("row", 4)]) (N := ["self", "grid", "hidden", "cell", "row", "other"]) (sc := defScope s_Flow_init) (by decide +kernel)) (fun _ _ _ _ _ => (pg_name (i := 4) sc_Flow.nd rfl (Or.inl rfl))) (fun _ _ _ _ _ => pts_nil) (fun _ _ _ _ _ => (pe_callTy call_list_of (by rfl) T.z_list (by decide +kernel) (pa_cons (pv 4) pa_nil)))) rfl)
      (pss_one (ps_fld (pv 0) (pe_f Osteps_of rsteps_of T.g_steps_of (pa_cons (pv 1) (pa_cons (by exact pe_lc (own := [("other", 5)]) (g := gName 5) (tt := (tTest (tOp (rNeD K) (tVar 5) (tVar 3)))) (te := (tVar 5)) (by rfl) sc_Flow.nd (pi_list (pv 2)) (blkOk_by (own := [("other", 5)]) (N := ["self", "grid", "hidden", "cell", "row", "other"]) (sc := defScope s_Flow_init) (by decide +kernel)) (fun _ _ _ _ _ => (pg_name (i := 5) sc_Flow.nd rfl (Or.inl rfl))) (fun _ _ _ _ _ => (pts_one (pt_cmpR (op_neD hu64) (pv 5) (pv 3) (nomark _)))) (fun _ _ _ _ _ => (pv 5))) pa_nil))) rfl))), ?_⟩
  have lm : t.length = m := hR.1
  have lw := hw.length
  walk_at "go"
  refine ⟨_, rfl, _, rfl, x, _, dx, _, rfl, hx, T.cl_Flow, T.n_Flow_cell, by decide, ?_⟩
  have e1 : Same B (upd H x (.ins (He.ga K "Flow") dx [("cell", v)])) := e0.mut hx0
  have hx1 : (upd H x (.ins (He.ga K "Flow") dx [("cell", v)])) x = some (.ins (He.ga K "Flow") dx [("cell", v)]) := upd_same
  rw [show putF ("cell" : Str) v ([] : List (Str × V)) = ([(("cell" : Str), v)] : List (Str × V)) from rfl]
  generalize upd H x (.ins (He.ga K "Flow") dx [("cell", v)]) = H1 at e1 hx1 ⊢
  dsimp only
  refine w_seq ?_
  refine lcAt_open (seqI_open ?_)
  walk_at "go"
  have ht1 := ht.same e1
  obtain ⟨bg, hgb⟩ := ht1.at_
  refine ⟨g, bg, rfl, ⟨_, hgb⟩, fun D hD => ?_⟩
  refine rows_newE (fun r => r) hgb ht1.rows (by omega) hD (fun x => rfl) ?_ ?_
  · intro b r H2 e2 hr hb Q q
    walk_at "go"
    refine ⟨b, _, rfl, hb.either, fun l hl => ?_⟩
    exact q l _ hl (Same.new hl _) upd_same
  intro H2 rs' e2 hT2 nd2 fr2
  rw [List.map_id'] at hT2
  have hx2 := e2 _ _ hx1
  refine ⟨_, rfl, x, _, dx, _, rfl, hx2, T.cl_Flow, T.n_Flow_numbers, by show 1 < 1000; decide, ?_⟩
  have Dx : D ≠ x := fun z => by rw [z, hx1] at hD; cases hD
  have rx : ∀ r ∈ rs', r ≠ x := fun r hr z => by
    have := (fr2 r hr).1
    rw [z, hx1] at this
    cases this
  have hx3 : (upd H2 x (.ins (He.ga K "Flow") dx [("cell", v), ("numbers", .ref D)])) x = some (.ins (He.ga K "Flow") dx [("cell", v), ("numbers", .ref D)]) := upd_same
  have e3 : Same B (upd H2 x (.ins (He.ga K "Flow") dx [("cell", v), ("numbers", .ref D)])) := (e1.trans e2).mut hx0
  have hT3 : Tab (upd H2 x (.ins (He.ga K "Flow") dx [("cell", v), ("numbers", .ref D)])) D rs' t := by
    refine ⟨by rw [upd_ne Dx]; exact hT2.at_, paired_up hT2.rows fun r row hr z => ?_⟩
    show upd H2 x _ r = _
    rw [upd_ne (rx r hr)]
    exact z
  rw [show putF ("numbers" : Str) (.ref D) ([(("cell" : Str), v)] : List (Str × V)) = ([(("cell" : Str), v), (("numbers" : Str), V.ref D)] : List (Str × V)) from rfl]
  generalize upd H2 x (.ins (He.ga K "Flow") dx [("cell", v), ("numbers", .ref D)]) = H3 at e3 hx3 hT3 ⊢
  dsimp only
  refine w_call (w_cons (w_var rfl (w_cons (lcAt_open (list_open (w_var rfl ?_))))))
  have hw3 := L2.Paired.mapP hw fun _ _ z => CellAt.same e3 z
  refine ⟨h, rfl, ⟨_, SqL.of (e3 _ _ hh)⟩, fun D2 hD2 => ?_⟩
  refine cells_keep (fun k => !decide (k = c)) (e3 _ _ hh) hw3 (by omega) hD2 (fun x => rfl) ?_ ?_ ?_
  · intro vk k H4 e4 hk hvk Q q
    walk_at "go"
    refine ⟨cellD k, cellD c, cell_dp hvk, cell_dp (hv.same (e3.trans e4)), cell_shaped _, cell_shaped _, ?_⟩
    rw [cell_eqv]
    exact ⟨_, rfl, q H4 (Same.refl _)⟩
  · intro vk H4 Q q
    walk_at "go"
    exact q
  · intro H4 zs e4 hD4 hz
    walk_at "go"
    have ht4 := ht.same (e3.trans e4)
    have lo : (othersF cs c).length ≤ 100 := Nat.le_trans (List.length_filter_le _ _) hlen
    refine ⟨g, D2, rs, t, m, n, zs, othersF cs c, rfl, ht4, hR, m1, n1, hD4, hz, lo, fun d H5 e5 hd hsteps hfresh => ?_⟩
    have e35 := e4.trans e5
    obtain ⟨kvs, hkv, hget⟩ := hsteps
    refine ⟨_, rfl, x, _, dx, _, rfl, e35 _ _ hx3, T.cl_Flow, T.n_Flow_steps, by show 2 < 1000; decide, ?_⟩
    have hT4 := hT3.same e4
    have hT5 := hT3.same e35
    have dx5 : d ≠ x := fun z => by rw [z, e4 _ _ hx3] at hd; cases hd
    have lnot : ∀ (kvs : List (List L2.Key × V)) (p : Pl) (l : Addr), H5 d = some (.dT kvs) → valV kvs (plKey p) = some (.ref l) → l ∉ rs' := fun kvs p l b1 b2 z => by
      have l0 := hfresh kvs p l b1 b2
      obtain ⟨row, hrow⟩ := paired_has hT4.rows z
      have hrow : H4 l = some _ := hrow
      rw [l0] at hrow
      cases hrow
    show Q .non (upd H5 x (.ins (He.ga K "Flow") dx [("cell", v), ("numbers", .ref D), ("steps", .ref d)]))
    have tk : Tk H5 (upd H5 x (.ins (He.ga K "Flow") dx [("cell", v), ("numbers", .ref D), ("steps", .ref d)])) := Tk.upd (e35 _ _ hx3) fun xs e => by cases e
    refine q _ D rs' ((e3.trans e35).mut hx0) ⟨⟨dx, v, d, kvs, upd_same, (hv.same (e3.trans e35)).tk tk, by rw [upd_ne dx5]; exact hkv, fun p => (hget p).imp id fun ⟨l, xs, a1, a2, a3⟩ => ⟨l, xs, a1, (by rw [upd_ne (fun z => by rw [z, e35 _ _ hx3] at a2; cases a2)]; exact a2), lnot kvs p l hkv a1, L2.Paired.mapP a3 fun _ _ y => y.tk tk⟩⟩, ⟨?_, ?_⟩, hR, nd2, fun z => (fr2 D z).2 rfl⟩ (e1.free hD) (fun r hr => e1.free (fr2 r hr).1)
    · rw [upd_ne Dx]; exact hT5.at_
    · refine paired_up hT5.rows fun r row hr z => ?_
      show upd H5 x _ r = _
      rw [upd_ne (rx r hr)]
      exact z
theorem sc_now : FnScope ["self"] ["self"] (defScope s_Flow_number_now) := ⟨rfl, rfl, rfl, by decide +kernel, rfl, by decide +kernel, by decide +kernel⟩
theorem ok_now (T : Tx K mg) : Ok P w K mg base 2 (He.ma K (He.ga K "Flow") "number_now") ["self"] (spNow K) := by
  obtain ⟨fd, F⟩ := T.f_Flow_number_now
  have Onumber_at := ok_number_at (P := P) (w := w) (base := base) T
  refine ⟨fd, F.ok (k := 1) sc_now (fun vs H Q E h => ?_) (fun cdv A outer s_ H vs Q E hr h => ?_), F.bindsN fun _ _ _ _ _ _ us hl => match us, hl with | [_], _ => rfl, F.kp⟩
  · obtain ⟨F, c, np, rs, u, m, n, f, rfl, _⟩ := h
    rfl
  obtain ⟨F, c, np, rs, u, m, n, f, rfl, hF, c1, c2, q⟩ := h
  refine ⟨_, pss_one (ps_ret (pe_f Onumber_at hr T.g_number_at (pa_cons (pe_fld (pv 0) rfl) (pa_cons (pe_fld (pv 0) rfl) pa_nil)))), ?_⟩
  obtain ⟨⟨dx, vc, d, kvs, hob, hvc, _⟩, htab, hrect, _, _⟩ := hF
  walk_at "go"
  refine ⟨F, _, dx, _, _, rfl, hob, T.cl_Flow, T.n_Flow_numbers, rfl, ?_⟩
  walk_at "go"
  refine ⟨F, _, dx, _, _, rfl, hob, T.cl_Flow, T.n_Flow_cell, rfl, ?_⟩
  walk_at "go"
  exact ⟨np, vc, rs, u, m, n, c.1, c.2, rfl, htab.gt, hrect, hvc, c1, c2, q⟩
theorem sc_change : FnScope ["self", "change", "row", "column"] ["self", "change"] (defScope s_Flow_change) := ⟨rfl, rfl, rfl, by decide +kernel, rfl, by decide +kernel, by decide +kernel⟩
theorem ok_change (T : Tx K mg) : Ok P w K mg base 1 (He.ma K (He.ga K "Flow") "change") ["self", "change"] (spChange K) := by
  obtain ⟨fd, F⟩ := T.f_Flow_change
  refine ⟨fd, F.ok (k := 0) sc_change (fun vs H Q E h => ?_) (fun cdv A outer s_ H vs Q E hr h => ?_), F.bindsN fun _ _ _ _ _ _ us hl => match us, hl with | [_, _], _ => rfl, F.kp⟩
  · obtain ⟨F, c, np, rs, u, m, n, f, x, rfl, _⟩ := h
    rfl
  obtain ⟨F, c, np, rs, u, m, n, f, x, rfl, hF, c1, c2, q⟩ := h
  refine ⟨_, pss_cons (ps_asg (pe_fld (pv 0) rfl) (pg_tup (by rfl) (pgs_cons (pg_name (i := 2) sc_change.nd rfl (Or.inl rfl)) (pgs_cons (pg_name (i := 3) sc_change.nd rfl (Or.inl rfl)) pgs_nil))))
    (pss_one (ps_augS (pe_ix ix_list (pe_fld (pv 0) rfl) (pv 2) (fun _ _ => rfl)) (pv 3) get_listN (pv 1) ip_add set_list)), ?_⟩
  obtain ⟨ra, r, hra, hr', hrx⟩ := row_of hF.tab (i := c.1) (by rw [hF.rect.1]; exact c1)
  have lr : r.length = n := hF.rect.2 r (List.mem_of_getElem? hr')
  have hrg : r.getD c.2 0 = at2 u c.1 c.2 := (at2_of hr').symm
  have put := hF.put (c := c) hra hr' x
  obtain ⟨⟨dx, vc, d, kvs, hob, ⟨ac, rfl, hac⟩, _⟩, htab, hrect, _, _⟩ := hF
  walk_at "go"
  refine ⟨F, _, dx, _, _, rfl, hob, T.cl_Flow, T.n_Flow_cell, rfl, ?_⟩
  refine ⟨ac, _, rfl, SqT.of hac, rfl, _, _, rfl, _, _, rfl, rfl, ?_⟩
  dsimp only
  refine w_augS ?_
  walk_at "go"
  refine ⟨F, _, dx, _, _, rfl, hob, T.cl_Flow, T.n_Flow_numbers, rfl, ?_⟩
  walk_at "go"
  refine w_ixL htab.at_ (ref_at hra) ?_
  walk_at "go"
  have hat : (r.map V.int)[c.2]? = some (.int (r.getD c.2 0)) := by
    rw [List.getElem?_map, List.getElem?_eq_getElem (by omega), List.getD_eq_getElem?_getD, List.getElem?_eq_getElem (by omega)]
    rfl
  refine ⟨ra, _, c.2, _, rfl, rfl, SqL.of hrx, hat, ?_⟩
  walk_at "go"
  refine ⟨_, _, rfl, rfl, ?_⟩
  refine w_setL hrx (j := c.2) ?_ ?_
  · unfold ixN
    rw [if_pos (by omega), if_pos (by rw [List.length_map]; omega)]
    simp
  rw [hrg, ← List.map_set]
  exact q _ (BM.upd (List.mem_of_getElem? hra) _) put.2 put.1
end
end K3
end F8_part
section F9_part
set_option Elab.async false
set_option linter.all false
set_option maxRecDepth 100000
set_option maxHeartbeats 1000000
set_option pp.deepTerms.threshold 5
open PySem PySem.Spec PyProof.Rows L2
/-- go on as far as nothing is open -/
local macro_rules | `(tactic| walk_at "go") => `(tactic| repeat (first
  | with_reducible refine w_seq ?_ | with_reducible refine w_next ?_ | with_reducible refine w_set ?_ | with_reducible refine w_drop ?_ | with_reducible refine w_ret ?_ | with_reducible refine w_retN ?_
  | with_reducible refine w_if ?_ | ((with_reducible refine' w_var ?hv ?_); (case hv => exact rfl)) | with_reducible refine w_c ?_ | with_reducible refine w_nil ?_ | with_reducible refine w_cons ?_ | with_reducible refine w_op ?_ | with_reducible refine w_un ?_
  | with_reducible refine w_test ?_ | with_reducible refine w_tB ?_ | with_reducible refine w_not ?_ | with_reducible refine w_and ?_ | with_reducible refine w_or ?_ | with_reducible refine w_bl ?_
  | with_reducible refine w_andV ?_ | with_reducible refine w_orV ?_ | with_reducible refine w_notV ?_ | with_reducible refine w_ifE ?_ | with_reducible refine w_chain ?_ | with_reducible refine w_i0 ?_
  | with_reducible refine w_call ?_ | with_reducible refine w_callS ?_ | with_reducible refine w_cB ?_ | with_reducible refine w_tup ?_ | with_reducible refine w_lst ?_ | with_reducible refine w_fldV ?_
  | with_reducible refine w_neF ?_ | with_reducible refine w_neT ?_ | with_reducible refine w_notN ?_ | with_reducible refine w_isN ?_ | with_reducible refine w_gname ?_ | with_reducible refine w_gsub ?_ | with_reducible refine w_asg ?_ | with_reducible refine w_sl ?_ | with_reducible refine w_noP ?_ | with_reducible refine w_int1 ?_ | with_reducible refine w_part ?_ | with_reducible refine w_yes ?_ | with_reducible refine w_nT ?_ | with_reducible refine w_nF ?_ | with_reducible refine w_iteT ?_ | with_reducible refine w_iteF ?_))
namespace L2
open PySem PySem.Spec PyProof.Rows
section
variable {X : Cx} {k : Nat} {f C : Addr} {ps : List Str} {sp : Sp} {x m : Str} {o e : Expr} {es : List Expr} {p apos pos : Pos} {t : TA} {ta : TE}
theorem pe_mk (O : Ok X.prog X.w X.K X.mg X.base k f ps sp) (M : Mk X.K C f) (hr : Room (k + 1) X.A) (hm : X.mg x = some (.ref C)) (ha : PA X (e :: es) t) (hg : Gl X x := by rfl) (hdb : (x == ("__debug__" : Str)) = false := by decide)
    (he : starEach (e :: es) X.env = (false, eval e X.env) :: starEach es X.env := by rfl) (hpl : (backTo pos (starEach es X.env)).any (·.1) = false := by rfl) : PE X (.Call (.Name x p) (e :: es) [] pos) (tMake C sp [] E0 t) := by
  obtain ⟨fd, F, b, kp⟩ := O.run
  exact pe_make M F hr hg hm b .nil passL ha hdb he hpl
theorem pe_mth {pl : Sem Bool} (he : PE X o ta) (c : Cls X.K C) (O : Ok X.prog X.w X.K X.mg X.base k f ps sp) (hm : Meth X.K C m f) (hr : Room k X.A) (ha : PA X (e :: es) t)
    (hst : starEach (e :: es) X.env = (false, eval e X.env) :: starEach es X.env := by rfl) (hpl : (backTo pos (starEach es X.env)).any (·.1) = false := by rfl)
    (ht : eval (.Call (.Attribute o m apos) (e :: es) [] pos) X.env = (do
      let ov ← eval o X.env
      standAt apos.atName
      let (f, first) ← holding [ov] (getMethod ov m pl)
      callWith pos f first (backTo pos (starEach (e :: es) X.env)) (backToKw pos (keywordEach [] X.env))) := by rfl) :
    PE X (.Call (.Attribute o m apos) (e :: es) [] pos) (tMeth C m sp [] E0 ta t) := by
  obtain ⟨fd, F, b, kp⟩ := O.run
  exact pe_meth (pl := pl) he c hm F hr b .nil passL ha hst hpl ht
theorem pe_mth0 {pl : Sem Bool} (he : PE X o ta) (c : Cls X.K C) (O : Ok X.prog X.w X.K X.mg X.base k f ps sp) (hm : Meth X.K C m f) (hr : Room k X.A)
    (ht : eval (.Call (.Attribute o m apos) [] [] pos) X.env = (do
      let ov ← eval o X.env
      standAt apos.atName
      let (f, first) ← holding [ov] (getMethod ov m pl)
      callWith pos f first (backTo pos (starEach [] X.env)) (backToKw pos (keywordEach [] X.env))) := by rfl) :
    PE X (.Call (.Attribute o m apos) [] [] pos) (tMeth C m sp [] E0 ta tNil) := by
  obtain ⟨fd, F, b, kp⟩ := O.run
  exact pe_meth0 (pl := pl) he c hm F hr b .nil passL ht
theorem w_make {sp : Sp} {σ : L2.St} {H : Hp} {Q : VK} {E : XK} (h : t σ H fun vs H1 => ∀ x dx, H1 x = none → H1 dx = none → dx ≠ x → sp (.ref x :: (vs ++ [])) (upd (upd H1 dx (.own x)) x (.ins C dx [])) (fun v H2 => v = .non ∧ Q (.ref x) H2) E) : tMake C sp [] E t σ H Q := h
theorem w_meth {sp : Sp} {σ : L2.St} {H : Hp} {Q : VK} {E : XK} (h : ta σ H fun x H1 => ∃ a dx fs, x = .ref a ∧ H1 a = some (.ins C dx fs) ∧ fs.lookup m = none ∧ t σ H1 fun vs H2 => sp (x :: (vs ++ [])) H2 Q E) : tMeth C m sp [] E ta t σ H Q := h
end
end L2
namespace K3
theorem same_newM {rs : List Addr} {H H1 H2 : Hp} (h0 : ∀ r ∈ rs, H r = none) (e : Same H H1) (b : BM rs H1 H2) : Same H H2 := fun c o h => b.at (e _ _ h) fun z => by rw [h0 c z] at h; cases h
/-- what is handed to a flow -/
structure Asked (K : PySem.W.Frag) (H : Hp) (g h : Addr) (v : V) (rs : List Addr) (t : List (List Int)) (m n : Nat) (ws : List V) (cs : List (Nat × Nat)) (c : Nat × Nat) : Prop where
  tab : GT K H g rs t
  rect : Rect t m n
  m1 : 1 ≤ m
  n1 : 1 ≤ n
  m60 : m ≤ 60
  n60 : n ≤ 60
  at_ : H h = some (.lst ws)
  cells : Paired (CellAt H) ws cs
  len : cs.length ≤ 100
  inn : ∀ k ∈ cs, k.1 < m ∧ k.2 < n
  cell : CellAt H v c
  c1 : c.1 < m
  c2 : c.2 < n
  num : 0 ≤ at2 t c.1 c.2
  room : 0 ≤ roomF m n t c
theorem Asked.same {K : PySem.W.Frag} {H H' : Hp} {g h : Addr} {v : V} {rs : List Addr} {t : List (List Int)} {m n : Nat} {ws : List V} {cs : List (Nat × Nat)} {c : Nat × Nat} (a : Asked K H g h v rs t m n ws cs c) (e : Same H H') : Asked K H' g h v rs t m n ws cs c :=
  ⟨a.tab.same e, a.rect, a.m1, a.n1, a.m60, a.n60, e _ _ a.at_, L2.Paired.mapP a.cells fun _ _ z => z.same e, a.len, a.inn, a.cell.same e, a.c1, a.c2, a.num, a.room⟩
def spEnd (G : Nat → Nat → List (Nat × Nat) → List (List Int) → Nat × Nat → List (List Int)) (K : PySem.W.Frag) : Sp := fun vs H Q _ => ∃ (g h : Addr) (v : V) (rs : List Addr) (t : List (List Int)) (m n : Nat) (ws : List V) (cs : List (Nat × Nat)) (c : Nat × Nat), vs = [.ref g, .ref h, v] ∧ Asked K H g h v rs t m n ws cs c ∧
  ∀ F H' np rs', Same H H' → FlowAt K H' F c np rs' (G m n cs t c) m n (stepsF m n (othersF cs c)) → H np = none → (∀ r ∈ rs', H r = none) → Q (.ref F) H'
abbrev spLeast := spEnd leastF
abbrev spMost := spEnd mostF
section
variable {P : Program} {w : World} {K : PySem.W.Frag} {mg : Str → Option Value} {base : Heap}
theorem sc_least_flow : FnScope ["grid", "hidden", "cell", "flow", "start", "goal"] ["grid", "hidden", "cell"] (defScope s_least_flow) := ⟨rfl, rfl, rfl, by decide +kernel, rfl, by decide +kernel, by decide +kernel⟩
theorem ok_least_flow (T : Tx K mg) : Ok P w K mg base 7 (He.ga K "least_flow") ["grid", "hidden", "cell"] (spLeast K) := by
  obtain ⟨fd, F⟩ := T.f_least_flow
  have Opushed := ok_pushed (P := P) (w := w) (base := base) T
  have Oarc_of := ok_arc_of (P := P) (w := w) (base := base) T
  refine ⟨fd, F.ok (k := 6) sc_least_flow (fun vs H Q E h => ?_) (fun cdv A outer s_ H vs Q E hr h => ?_), F.bindsN fun _ _ _ _ _ _ us hl => match us, hl with | [_, _, _], _ => rfl, F.kp⟩
  · obtain ⟨g, h, v, rs, t, m, n, ws, cs, c, rfl, A0, q⟩ := h
    rfl
  obtain ⟨g, h, v, rs, t, m, n, ws, cs, c, rfl, A0, q⟩ := h
  have hu65 := K3.Room.units65 hr
  have hu64 := Nat.lt_of_succ_lt hu65
  have hu0 := Nat.lt_of_le_of_lt (Nat.le_add_right _ 65) hu65
  have hu1 := Nat.lt_of_le_of_lt (Nat.add_le_add_left (show 1 ≤ 65 by decide) _) hu65
  have rpushed : Room 3 _ := hr.mono (by decide)
  have rarc_of : Room 2 _ := hr.mono (by decide)
  refine ⟨_, pss_cons (ps_set (i := 3) sc_least_flow.nd rfl (Or.inl rfl) (pe_mk (ok_Flow T) T.mk_Flow (hr.mono (by decide)) T.g_Flow (pa_cons (pv 0) (pa_cons (pv 1) (pa_cons (pv 2) pa_nil)))))
      (pss_cons (ps_asg (pe_f Oarc_of rarc_of T.g_arc_of (pa_cons (pv 0) (pa_cons (pv 2) pa_nil))) (pg_tup (by rfl) (pgs_cons (pg_name (i := 4) sc_least_flow.nd rfl (Or.inl rfl)) (pgs_cons (pg_name (i := 5) sc_least_flow.nd rfl (Or.inl rfl)) pgs_nil))))
      (pss_cons (ps_expr (pe_mth (pv 3) T.cl_Flow (ok_change T) T.m_Flow_change (hr.mono (by decide)) (pa_cons (pe_un un_neg (pe_f Opushed rpushed T.g_pushed (pa_cons (pv 3) (pa_cons (pv 4) (pa_cons (pv 5) (pa_cons (pe_mth0 (pv 3) T.cl_Flow (ok_now T) T.m_Flow_number_now (hr.mono (by decide))) pa_nil)))))) pa_nil)))
      (pss_one (ps_ret (pv 3))))), ?_⟩
  have A1 := A0
  walk_at "go"
  refine w_make ?_
  walk_at "go"
  refine fun F dx hF hdx hne => ?_
  have eA : Same H (upd (upd H dx (.own F)) F (.ins (He.ga K "Flow") dx [])) := (Same.new hdx _).trans (Same.new (by rw [upd_ne hne.symm]; exact hF) _)
  refine ⟨F, dx, g, h, v, rs, t, m, n, ws, cs, c, H, rfl, eA, hF, A0.tab, A0.rect, A0.m1, A0.n1, A0.m60, A0.n60, A0.at_, A0.cells, A0.len, A0.cell, upd_same, fun H1 np rs' e1 fl1 np0 rs0 => ⟨rfl, ?_⟩⟩
  have hS : StepsOk m n (stepsF m n (othersF cs c)) := steps_ok A0.m1 A0.n1 (fun k hk => A0.inn k (List.mem_filter.mp hk).1) (Nat.le_trans (List.length_filter_le _ _) A0.len)
  obtain ⟨pl1, pl2⟩ := arc_place (m := m) (n := n) A0.c1 A0.c2
  have B1 := A0.same e1
  walk_at "go"
  refine ⟨g, v, rs, t, m, n, c, rfl, B1.tab, A0.rect, A0.m1, A0.n1, B1.cell, fun a H2 w1 w2 e2 ha p1 p2 => ?_⟩
  refine ⟨a, _, rfl, SqT.of ha, rfl, _, _, rfl, _, _, rfl, rfl, ?_⟩
  have fl2 := fl1.same e2
  obtain ⟨⟨dx2, vc2, d2, kvs2, hob2, _⟩, _, _, _, _⟩ := id fl2
  have B2 := B1.same e2
  dsimp only
  refine w_seq (w_drop (w_meth ?_))
  refine w_var rfl ?_
  refine ⟨F, _, _, rfl, hob2, rfl, ?_⟩
  refine w_cons (w_un (w_call (w_cons (w_var rfl (w_cons (w_var rfl (w_cons (w_var rfl (w_cons (w_meth ?_))))))))))
  refine w_var rfl ⟨F, _, _, rfl, hob2, rfl, w_nil ?_⟩
  refine ⟨F, c, np, rs', t, m, n, _, rfl, fl2, A0.c1, A0.c2, w_nil ?_⟩
  refine ⟨F, w1, w2, c, np, rs', t, m, n, _, (arcF m n c).1, (arcF m n c).2, at2 t c.1 c.2, rfl, fl2, hS, A0.m60, A0.n60, p1, p2, pl1, A0.num, fun H3 b3 tk3 fl3 => ?_⟩
  refine ⟨_, rfl, w_nil ?_⟩
  refine ⟨F, c, np, rs', _, m, n, _, _, rfl, fl3, A0.c1, A0.c2, fun H4 b4 tk4 fl4 => ?_⟩
  walk_at "go"
  exact q F H4 np rs' (same_newM rs0 (e1.trans e2) (b3.trans b4)) fl4 np0 rs0
theorem sc_most_flow : FnScope ["grid", "hidden", "cell", "flow", "start", "goal"] ["grid", "hidden", "cell"] (defScope s_most_flow) := ⟨rfl, rfl, rfl, by decide +kernel, rfl, by decide +kernel, by decide +kernel⟩
theorem ok_most_flow (T : Tx K mg) : Ok P w K mg base 7 (He.ga K "most_flow") ["grid", "hidden", "cell"] (spMost K) := by
  obtain ⟨fd, F⟩ := T.f_most_flow
  have Opushed := ok_pushed (P := P) (w := w) (base := base) T
  have Onumber_at := ok_number_at (P := P) (w := w) (base := base) T
  have Olast_cell := ok_last_cell (P := P) (w := w) (base := base) T
  have Oarc_of := ok_arc_of (P := P) (w := w) (base := base) T
  refine ⟨fd, F.ok (k := 6) sc_most_flow (fun vs H Q E h => ?_) (fun cdv A outer s_ H vs Q E hr h => ?_), F.bindsN fun _ _ _ _ _ _ us hl => match us, hl with | [_, _, _], _ => rfl, F.kp⟩
  · obtain ⟨g, h, v, rs, t, m, n, ws, cs, c, rfl, A0, q⟩ := h
    rfl
  obtain ⟨g, h, v, rs, t, m, n, ws, cs, c, rfl, A0, q⟩ := h
  have hu65 := K3.Room.units65 hr
  have hu64 := Nat.lt_of_succ_lt hu65
  have hu0 := Nat.lt_of_le_of_lt (Nat.le_add_right _ 65) hu65
  have hu1 := Nat.lt_of_le_of_lt (Nat.add_le_add_left (show 1 ≤ 65 by decide) _) hu65
  have rpushed : Room 3 _ := hr.mono (by decide)
  have rnumber_at : Room 1 _ := hr.mono (by decide)
  have rlast_cell : Room 1 _ := hr.mono (by decide)
  have rarc_of : Room 2 _ := hr.mono (by decide)
  refine ⟨_, pss_cons (ps_set (i := 3) sc_most_flow.nd rfl (Or.inl rfl) (pe_mk (ok_Flow T) T.mk_Flow (hr.mono (by decide)) T.g_Flow (pa_cons (pv 0) (pa_cons (pv 1) (pa_cons (pv 2) pa_nil)))))
      (pss_cons (ps_asg (pe_f Oarc_of rarc_of T.g_arc_of (pa_cons (pv 0) (pa_cons (pv 2) pa_nil))) (pg_tup (by rfl) (pgs_cons (pg_name (i := 4) sc_most_flow.nd rfl (Or.inl rfl)) (pgs_cons (pg_name (i := 5) sc_most_flow.nd rfl (Or.inl rfl)) pgs_nil))))
      (pss_cons (ps_expr (pe_mth (pv 3) T.cl_Flow (ok_change T) T.m_Flow_change (hr.mono (by decide)) (pa_cons (pe_f Opushed rpushed T.g_pushed (pa_cons (pv 3) (pa_cons (pv 5) (pa_cons (pv 4) (pa_cons (pe_op op_sub (pe_f Onumber_at rnumber_at T.g_number_at (pa_cons (pv 0) (pa_cons (pe_f Olast_cell rlast_cell T.g_last_cell (pa_cons (pv 0) pa_nil)) pa_nil))) (pe_mth0 (pv 3) T.cl_Flow (ok_now T) T.m_Flow_number_now (hr.mono (by decide)))) pa_nil))))) pa_nil)))
      (pss_one (ps_ret (pv 3))))), ?_⟩
  have A1 := A0
  walk_at "go"
  refine w_make ?_
  walk_at "go"
  refine fun F dx hF hdx hne => ?_
  have eA : Same H (upd (upd H dx (.own F)) F (.ins (He.ga K "Flow") dx [])) := (Same.new hdx _).trans (Same.new (by rw [upd_ne hne.symm]; exact hF) _)
  refine ⟨F, dx, g, h, v, rs, t, m, n, ws, cs, c, H, rfl, eA, hF, A0.tab, A0.rect, A0.m1, A0.n1, A0.m60, A0.n60, A0.at_, A0.cells, A0.len, A0.cell, upd_same, fun H1 np rs' e1 fl1 np0 rs0 => ⟨rfl, ?_⟩⟩
  have hS : StepsOk m n (stepsF m n (othersF cs c)) := steps_ok A0.m1 A0.n1 (fun k hk => A0.inn k (List.mem_filter.mp hk).1) (Nat.le_trans (List.length_filter_le _ _) A0.len)
  obtain ⟨pl1, pl2⟩ := arc_place (m := m) (n := n) A0.c1 A0.c2
  have B1 := A0.same e1
  walk_at "go"
  refine ⟨g, v, rs, t, m, n, c, rfl, B1.tab, A0.rect, A0.m1, A0.n1, B1.cell, fun a H2 w1 w2 e2 ha p1 p2 => ?_⟩
  refine ⟨a, _, rfl, SqT.of ha, rfl, _, _, rfl, _, _, rfl, rfl, ?_⟩
  have fl2 := fl1.same e2
  obtain ⟨⟨dx2, vc2, d2, kvs2, hob2, _⟩, _, _, _, _⟩ := id fl2
  have B2 := B1.same e2
  dsimp only
  refine w_seq (w_drop (w_meth ?_))
  refine w_var rfl ?_
  refine ⟨F, _, _, rfl, hob2, rfl, ?_⟩
  refine w_cons (w_call (w_cons (w_var rfl (w_cons (w_var rfl (w_cons (w_var rfl (w_cons (w_op (w_call (w_cons (w_var rfl (w_cons (w_call (w_cons (w_var rfl (w_nil ?_)))))))))))))))))
  refine ⟨g, rs, t, m, n, rfl, B2.tab, A0.rect, A0.m1, A0.n1, fun al H5 e5 hal => w_nil ?_⟩
  have m1 := A0.m1
  have n1 := A0.n1
  refine ⟨g, .ref al, rs, t, m, n, m - 1, n - 1, rfl, (B2.same e5).tab, A0.rect, hal, by omega, by omega, ?_⟩
  have fl5 := fl2.same e5
  have hob5 := e5 _ _ hob2
  refine w_meth (w_var rfl ⟨F, _, _, rfl, hob5, rfl, w_nil ?_⟩)
  refine ⟨F, c, np, rs', t, m, n, _, rfl, fl5, A0.c1, A0.c2, w_i0 (w_nil ?_)⟩
  refine ⟨F, w2, w1, c, np, rs', t, m, n, _, (arcF m n c).2, (arcF m n c).1, roomF m n t c, rfl, fl5, hS, A0.m60, A0.n60, p2.same e5, p1.same e5, pl2, A0.room, fun H3 b3 tk3 fl3 => w_nil ?_⟩
  refine ⟨F, c, np, rs', _, m, n, _, _, rfl, fl3, A0.c1, A0.c2, fun H4 b4 tk4 fl4 => ?_⟩
  walk_at "go"
  exact q F H4 np rs' (same_newM rs0 (e1.trans (e2.trans e5)) (b3.trans b4)) fl4 np0 rs0
end
end K3
end F9_part
section F10_part
set_option Elab.async false
set_option linter.all false
set_option maxRecDepth 100000
set_option maxHeartbeats 1000000
set_option pp.deepTerms.threshold 5
open PySem PySem.Spec PyProof.Rows L2
/-- go on as far as nothing is open -/
local macro_rules | `(tactic| walk_at "go") => `(tactic| repeat (first
  | with_reducible refine w_seq ?_ | with_reducible refine w_next ?_ | with_reducible refine w_set ?_ | with_reducible refine w_drop ?_ | with_reducible refine w_ret ?_ | with_reducible refine w_retN ?_
  | with_reducible refine w_if ?_ | ((with_reducible refine' w_var ?hv ?_); (case hv => exact rfl)) | with_reducible refine w_c ?_ | with_reducible refine w_nil ?_ | with_reducible refine w_cons ?_ | with_reducible refine w_op ?_ | with_reducible refine w_un ?_
  | with_reducible refine w_test ?_ | with_reducible refine w_tB ?_ | with_reducible refine w_not ?_ | with_reducible refine w_and ?_ | with_reducible refine w_or ?_ | with_reducible refine w_bl ?_
  | with_reducible refine w_andV ?_ | with_reducible refine w_orV ?_ | with_reducible refine w_notV ?_ | with_reducible refine w_ifE ?_ | with_reducible refine w_chain ?_ | with_reducible refine w_i0 ?_
  | with_reducible refine w_call ?_ | with_reducible refine w_callS ?_ | with_reducible refine w_cB ?_ | with_reducible refine w_tup ?_ | with_reducible refine w_lst ?_ | with_reducible refine w_fldV ?_
  | with_reducible refine w_neF ?_ | with_reducible refine w_neT ?_ | with_reducible refine w_notN ?_ | with_reducible refine w_isN ?_ | with_reducible refine w_gname ?_ | with_reducible refine w_gsub ?_ | with_reducible refine w_asg ?_ | with_reducible refine w_sl ?_ | with_reducible refine w_noP ?_ | with_reducible refine w_int1 ?_ | with_reducible refine w_part ?_ | with_reducible refine w_yes ?_ | with_reducible refine w_nT ?_ | with_reducible refine w_nF ?_ | with_reducible refine w_iteT ?_ | with_reducible refine w_iteF ?_))
namespace L2
open PySem PySem.Spec PyProof.Rows
/-- a def whose last parameters are handed in by name, and its promise -/
structure OkK (P : Program) (w : World) (K : PySem.W.Frag) (mg : Str → Option Value) (base : Heap) (k : Nat) (f : Addr) (ps : List Str) (n : Nat) (ks : List Str) (sp : Sp) : Prop where
  run : ∃ fd, FnOk P w K mg base (L2.CX P w) k f fd ps sp ∧ KBn K fd ps n ks (fun us ws => us ++ ws) (fun vs zs => vs ++ zs) ∧ PySem.W.keepIn K (.ref f) = true
theorem kb_of {K : PySem.W.Frag} {x qual : Str} {params : Arguments} {body : List Stmt} {scope : Scope} {f : Addr} {fd : FuncData} {ps ks : List Str} {n : Nat} (F : FunD K x qual params body scope [] [] f fd)
    (h : ∀ (kV doc pm : Value) (an : Option Addr) (cdv ct : Value) (us ws : List Value), us.length = n → ws.length = ks.length → bindArgs (PySem.W.fnOf x qual params body scope .none kV doc pm an cdv ct) ⟨us, ks.zip ws⟩ = pure (ps.zip (us ++ ws))) : KBn K fd ps n ks (fun us ws => us ++ ws) (fun vs zs => vs ++ zs) := by
  obtain ⟨oc, od, dV, kV, doc, pm, an, cdv, ct, osl, rfl, lk, hcd, hD, hK⟩ := F.ex
  rcases hD with ⟨_, rfl⟩ | ⟨e, _⟩
  · exact ⟨fun s us ws _ h1 h2 => .of_eq (h kV doc pm an cdv ct us ws h1 h2), fun a b => a.append b⟩
  · exact absurd rfl e
section
variable {X : Cx} {k n : Nat} {f : Addr} {ps ks : List Str} {sp : Sp} {x : Str} {e : Expr} {es : List Expr} {kws : List Keyword} {p pos : Pos} {t tk : TA}
theorem pe_fK (O : OkK X.prog X.w X.K X.mg X.base k f ps n ks sp) (hr : Room k X.A) (hm : X.mg x = some (.ref f)) (ha : PA X (e :: es) t) (hkw : PK X kws tk) (hg : Gl X x := by rfl) (hall : (backToKw pos (keywordEach kws X.env)).all (·.1.isSome) = true := by rfl)
    (hks : (backToKw pos (keywordEach kws X.env)).filterMap (·.1) = ks := by rfl) (hdb : (x == ("__debug__" : Str)) = false := by decide) (he : starEach (e :: es) X.env = (false, eval e X.env) :: starEach es X.env := by rfl)
    (hpl : ((backTo pos (starEach (e :: es) X.env)).any (·.1) || (backToKw pos (keywordEach kws X.env)).any (·.1.isNone)) = false := by rfl) : PE X (.Call (.Name x p) (e :: es) kws pos) (tCallN n ks.length sp (fun vs zs => vs ++ zs) E0 t tk) := by
  obtain ⟨fd, F, b, kp⟩ := O.run
  exact pe_callN F hr hg hm kp b passL ha hkw hall hks hdb he hpl
theorem w_callN {σ : L2.St} {H : Hp} {Q : VK} {E : XK} {m : Nat} (h : t σ H fun vs H1 => tk σ H1 fun zs H2 => vs.length = n ∧ zs.length = m ∧ sp (vs ++ zs) H2 Q E) : tCallN n m sp (fun vs zs => vs ++ zs) E t tk σ H Q := h
end
end L2
namespace K3
def spShown (K : PySem.W.Frag) : Sp := fun vs H Q _ => ∃ (g l : Addr) (v : V) (rs : List Addr) (t : List (List Int)) (m n : Nat) (ws : List V) (cs : List (Nat × Nat)) (c : Nat × Nat), vs = [.ref g, .ref l, v] ∧ GT K H g rs t ∧ Rect t m n ∧ m ≤ 60 ∧ n ≤ 60 ∧ H l = some (.lst ws) ∧ Paired (CellAt H) ws cs ∧ cs.length ≤ 100 ∧ (∀ k ∈ cs, k.1 < m ∧ k.2 < n) ∧ CellAt H v c ∧ c ∈ cs ∧ Q .non H
def spReach (K : PySem.W.Frag) : Sp := fun vs H Q _ => ∃ (g : Addr) (hv v : V) (rs : List Addr) (t : List (List Int)) (m n : Nat) (hs : List (Nat × Nat)) (c : Nat × Nat), vs = [.ref g, hv, v] ∧ GT K H g rs t ∧ Rect t m n ∧ 1 ≤ m ∧ 1 ≤ n ∧ m ≤ 60 ∧ n ≤ 60 ∧ HidIn K H hv hs m n ∧ CellAt H v c ∧ c ∈ hs ∧ 0 ≤ at2 t c.1 c.2 ∧ 0 ≤ roomF m n t c ∧
  ∀ hs' a H' np1 rs1 np2 rs2, (∀ k, k ∈ hs' ↔ k ∈ hs) → Srt hs' → Same H H' → H a = none → H' a = some (.tup [.int (at2 (leastF m n hs' t c) c.1 c.2), .int (at2 (mostF m n hs' t c) c.1 c.2), .ref np1, .ref np2]) →
    Tab H' np1 rs1 (leastF m n hs' t c) → Rect (leastF m n hs' t c) m n → Tab H' np2 rs2 (mostF m n hs' t c) → Rect (mostF m n hs' t c) m n → H np1 = none → (∀ r ∈ rs1, H r = none) → H np2 = none → (∀ r ∈ rs2, H r = none) → np1 ∉ rs1 → np2 ∉ rs1 → (∀ r ∈ rs2, r ∉ rs1) → Q (.ref a) H'
section
variable {P : Program} {w : World} {K : PySem.W.Frag} {mg : Str → Option Value} {base : Heap}
theorem sc_refuse_shown : FnScope ["grid", "hidden", "cell"] ["grid", "hidden", "cell"] (defScope s_refuse_shown) := ⟨rfl, rfl, rfl, by decide +kernel, rfl, by decide +kernel, by decide +kernel⟩
theorem ok_refuse_shown (T : Tx K mg) : Ok P w K mg base 2 (He.ga K "refuse_shown") ["grid", "hidden", "cell"] (spShown K) := by
  obtain ⟨fd, F⟩ := T.f_refuse_shown
  have Orefuse_no_cell := ok_refuse_no_cell (P := P) (w := w) (base := base) T
  refine ⟨fd, F.ok (k := 1) sc_refuse_shown (fun vs H Q E h => ?_) (fun cdv A outer s_ H vs Q E hr h => ?_), F.bindsN fun _ _ _ _ _ _ us hl => match us, hl with | [_, _, _], _ => rfl, F.kp⟩
  · obtain ⟨g, l, v, rs, t, m, n, ws, cs, c, rfl, ht, hR, m60, n60, hl, hw, hlen, hb, hv, hc, q⟩ := h
    rfl
  obtain ⟨g, l, v, rs, t, m, n, ws, cs, c, rfl, ht, hR, m60, n60, hl, hw, hlen, hb, hv, hc, q⟩ := h
  have hu65 := K3.Room.units65 hr
  have hu64 := Nat.lt_of_succ_lt hu65
  have hu0 := Nat.lt_of_le_of_lt (Nat.le_add_right _ 65) hu65
  have hu1 := Nat.lt_of_le_of_lt (Nat.add_le_add_left (show 1 ≤ 65 by decide) _) hu65
  have rrefuse_no_cell : Room 1 _ := hr.mono (by decide)
  refine ⟨_, pss_cons (ps_expr (pe_f Orefuse_no_cell rrefuse_no_cell T.g_refuse_no_cell (pa_cons (pv 0) (pa_cons (pv 2) pa_nil))))
      (pss_one (ps_if (pt_cmpR (op_notInC hu65) (pv 2) (pv 1) (by rfl)) (pss_one ps_dead) pss_nil)), ?_⟩
  obtain ⟨c1, c2⟩ := hb c hc
  walk_at "go"
  refine ⟨g, v, rs, t, m, n, c.1, c.2, rfl, ht, hR, hv, c1, c2, ?_⟩
  walk_at "go"
  refine ⟨l, ws, cs, c, hv, rfl, .inl (SqL.of hl), hw, by omega, fun k hk => by have := hb k hk; omega, ⟨by omega, by omega⟩, ?_⟩
  rw [decide_eq_true hc]
  walk_at "go"
  exact q
theorem sc_reach : FnScope ["grid", "hidden", "cell", "cells", "least", "most"] ["grid", "hidden", "cell"] (defScope s_reach) := ⟨rfl, rfl, rfl, by decide +kernel, rfl, by decide +kernel, by decide +kernel⟩
theorem ok_reach (T : Tx K mg) : OkK P w K mg base 8 (He.ga K "reach") ["grid", "hidden", "cell"] 2 ["cell"] (spReach K) := by
  obtain ⟨fd, F⟩ := T.f_reach
  have Oread_hidden := ok_read_hidden (P := P) (w := w) (base := base) T
  have Orefuse_shown := ok_refuse_shown (P := P) (w := w) (base := base) T
  have Oleast_flow := ok_least_flow (P := P) (w := w) (base := base) T
  have Omost_flow := ok_most_flow (P := P) (w := w) (base := base) T
  refine ⟨fd, F.ok (k := 7) sc_reach (fun vs H Q E h => ?_) (fun cdv A outer s_ H vs Q E hr h => ?_), kb_of F fun _ _ _ _ _ _ us ws h1 h2 => match us, ws, h1, h2 with | [_, _], [_], _, _ => rfl, F.kp⟩
  · obtain ⟨g, hv, v, rs, t, m, n, hs, c, rfl, _⟩ := h
    rfl
  obtain ⟨g, hv, v, rs, t, m, n, hs, c, rfl, ht, hR, m1, n1, m60, n60, hh, hv', hc, h0, hrm, q⟩ := h
  have rread_hidden : Room 2 _ := hr.mono (by decide)
  have rrefuse_shown : Room 2 _ := hr.mono (by decide)
  have rleast_flow : Room 7 _ := hr.mono (by decide)
  have rmost_flow : Room 7 _ := hr.mono (by decide)
  refine ⟨_, pss_cons (ps_set (i := 3) sc_reach.nd rfl (Or.inl rfl) (pe_f Oread_hidden rread_hidden T.g_read_hidden (pa_cons (pv 0) (pa_cons (pv 1) pa_nil))))
      (pss_cons (ps_expr (pe_f Orefuse_shown rrefuse_shown T.g_refuse_shown (pa_cons (pv 0) (pa_cons (pv 3) (pa_cons (pv 2) pa_nil)))))
      (pss_cons (ps_set (i := 4) sc_reach.nd rfl (Or.inl rfl) (pe_f Oleast_flow rleast_flow T.g_least_flow (pa_cons (pv 0) (pa_cons (pv 3) (pa_cons (pv 2) pa_nil)))))
      (pss_cons (ps_set (i := 5) sc_reach.nd rfl (Or.inl rfl) (pe_f Omost_flow rmost_flow T.g_most_flow (pa_cons (pv 0) (pa_cons (pv 3) (pa_cons (pv 2) pa_nil)))))
      (pss_one (ps_ret (pe_tup (pa_cons (pe_mth0 (pv 4) T.cl_Flow (ok_now T) T.m_Flow_number_now (hr.mono (by decide))) (pa_cons (pe_mth0 (pv 5) T.cl_Flow (ok_now T) T.m_Flow_number_now (hr.mono (by decide))) (pa_cons (pe_fld (pv 4) rfl) (pa_cons (pe_fld (pv 5) rfl) pa_nil)))))))))), ?_⟩
  walk_at "go"
  refine ⟨g, hv, rs, t, m, n, hs, rfl, ht, hR, m1, n1, m60, n60, hh, fun l H1 ws cs e1 h1 hw1 hcs lcs srt => ?_⟩
  have inn : ∀ k ∈ cs, k.1 < m ∧ k.2 < n := fun k hk => by
    obtain ⟨p, wp, _, _, _, hmem, _⟩ := hh
    have := drop_mem m1 n1 (hmem k ((hcs k).mp hk))
    exact ⟨this.1, this.2.1⟩
  have hc' : c ∈ cs := (hcs c).mpr hc
  obtain ⟨c1, c2⟩ := inn c hc'
  have A1 : Asked K H1 g l v rs t m n ws cs c := ⟨ht.same e1, hR, m1, n1, m60, n60, h1, hw1, lcs, inn, hv'.same e1, c1, c2, h0, hrm⟩
  walk_at "go"
  refine ⟨g, l, v, rs, t, m, n, ws, cs, c, rfl, A1.tab, hR, m60, n60, h1, hw1, lcs, inn, A1.cell, hc', ?_⟩
  walk_at "go"
  refine ⟨g, l, v, rs, t, m, n, ws, cs, c, rfl, A1, fun F1 H2 np1 rs1 e2 fl1 np10 rs10 => ?_⟩
  have A2 := A1.same e2
  walk_at "go"
  refine ⟨g, l, v, rs, t, m, n, ws, cs, c, rfl, A2, fun F2 H3 np2 rs2 e3 fl2 np20 rs20 => ?_⟩
  have fl1' := fl1.same e3
  obtain ⟨⟨dx1, vc1, d1, kvs1, hob1, hvc1, _⟩, htab1, hrect1, hnd1, hne1⟩ := id fl1'
  obtain ⟨⟨dx2, vc2, d2, kvs2, hob2, hvc2, _⟩, htab2, hrect2, hnd2, hne2⟩ := id fl2
  refine w_tup (w_cons (w_meth (w_var rfl ⟨F1, _, _, rfl, hob1, rfl, w_nil ?_⟩)))
  refine ⟨F1, c, np1, rs1, _, m, n, _, rfl, fl1', c1, c2, ?_⟩
  refine w_cons (w_meth (w_var rfl ⟨F2, _, _, rfl, hob2, rfl, w_nil ?_⟩))
  refine ⟨F2, c, np2, rs2, _, m, n, _, rfl, fl2, c1, c2, ?_⟩
  refine w_cons (w_fldV (w_var rfl ⟨F1, _, dx1, _, _, rfl, hob1, T.cl_Flow, T.n_Flow_numbers, rfl, ?_⟩))
  refine w_cons (w_fldV (w_var rfl ⟨F2, _, dx2, _, _, rfl, hob2, T.cl_Flow, T.n_Flow_numbers, rfl, w_nil ?_⟩))
  refine ⟨(by show 4 ≤ sizeLine; decide), fun a ha => ?_⟩
  have e4 := Same.new ha (.tup [.int (at2 (leastF m n cs t c) c.1 c.2), .int (at2 (mostF m n cs t c) c.1 c.2), V.ref np1, V.ref np2])
  have n12 : ∀ r ∈ rs1, H2 r ≠ none := fun r hr z => by
    obtain ⟨row, hrow⟩ := paired_has fl1.tab.rows hr
    have hrow : H2 r = some _ := hrow
    rw [z] at hrow
    cases hrow
  refine q cs a _ np1 rs1 np2 rs2 hcs srt ((e1.trans (e2.trans e3)).trans e4) ((e1.trans (e2.trans e3)).free ha) upd_same (htab1.same e4) hrect1 (htab2.same e4) hrect2 (e1.free np10) (fun r hr => e1.free (rs10 r hr)) ((e1.trans e2).free np20) (fun r hr => (e1.trans e2).free (rs20 r hr)) hne1 (fun z => n12 _ z np20) fun r hr z => n12 r z (rs20 r hr)
end
end K3
end F10_part
section N1_part
set_option Elab.async false
set_option linter.all false
set_option maxRecDepth 100000
set_option maxHeartbeats 1000000
set_option pp.deepTerms.threshold 5
open PySem PySem.Spec PyProof.Rows L2
/-- go on as far as nothing is open -/
local macro_rules | `(tactic| walk_at "go") => `(tactic| repeat (first
  | with_reducible refine w_seq ?_ | with_reducible refine w_next ?_ | with_reducible refine w_set ?_ | with_reducible refine w_drop ?_ | with_reducible refine w_ret ?_ | with_reducible refine w_retN ?_
  | with_reducible refine w_if ?_ | ((with_reducible refine' w_var ?hv ?_); (case hv => exact rfl)) | with_reducible refine w_c ?_ | with_reducible refine w_nil ?_ | with_reducible refine w_cons ?_ | with_reducible refine w_op ?_ | with_reducible refine w_un ?_
  | with_reducible refine w_test ?_ | with_reducible refine w_tB ?_ | with_reducible refine w_not ?_ | with_reducible refine w_and ?_ | with_reducible refine w_or ?_ | with_reducible refine w_bl ?_
  | with_reducible refine w_andV ?_ | with_reducible refine w_orV ?_ | with_reducible refine w_notV ?_ | with_reducible refine w_ifE ?_ | with_reducible refine w_chain ?_ | with_reducible refine w_i0 ?_
  | with_reducible refine w_call ?_ | with_reducible refine w_callS ?_ | with_reducible refine w_cB ?_ | with_reducible refine w_tup ?_ | with_reducible refine w_lst ?_ | with_reducible refine w_fldV ?_
  | with_reducible refine w_neF ?_ | with_reducible refine w_neT ?_ | with_reducible refine w_notN ?_ | with_reducible refine w_isN ?_ | with_reducible refine w_gname ?_ | with_reducible refine w_gsub ?_ | with_reducible refine w_asg ?_ | with_reducible refine w_sl ?_ | with_reducible refine w_noP ?_ | with_reducible refine w_int1 ?_ | with_reducible refine w_part ?_ | with_reducible refine w_yes ?_ | with_reducible refine w_nT ?_ | with_reducible refine w_nF ?_ | with_reducible refine w_iteT ?_ | with_reducible refine w_iteF ?_))
namespace K3
/-! ### sums -/
def S (n : Nat) (f : Nat → Int) : Int := ((List.range n).map f).sum
theorem S_zero (f : Nat → Int) : S 0 f = 0 := rfl
theorem S_succ (n : Nat) (f : Nat → Int) : S (n + 1) f = S n f + f n := by
  unfold S
  rw [List.range_succ, List.map_append, List.sum_append]
  simp
theorem S_congr {n : Nat} {f g : Nat → Int} (h : ∀ i < n, f i = g i) : S n f = S n g := by
  induction n with
  | zero => rfl
  | succ n ih => rw [S_succ, S_succ, ih fun i hi => h i (by omega), h n (by omega)]
theorem S_add (n : Nat) (f g : Nat → Int) : S n (fun i => f i + g i) = S n f + S n g := by
  induction n with
  | zero => rfl
  | succ n ih => rw [S_succ, S_succ, S_succ, ih]; omega
theorem S_mul (n : Nat) (a : Int) (f : Nat → Int) : S n (fun i => a * f i) = a * S n f := by
  induction n with
  | zero => rw [S_zero, S_zero, Int.mul_zero]
  | succ n ih => rw [S_succ, S_succ, ih, Int.mul_add]
theorem S_nul {n : Nat} {f : Nat → Int} (h : ∀ i < n, f i = 0) : S n f = 0 := by
  induction n with
  | zero => rfl
  | succ n ih => rw [S_succ, ih fun i hi => h i (by omega), h n (by omega)]; rfl
theorem S_swap (m n : Nat) (f : Nat → Nat → Int) : S m (fun i => S n fun j => f i j) = S n fun j => S m fun i => f i j := by
  induction m with
  | zero => rw [S_zero]; exact (S_nul fun j _ => rfl).symm
  | succ m ih =>
    rw [S_succ, ih, ← S_add]
    exact S_congr fun j _ => (S_succ m fun i => f i j).symm
theorem S_le {n : Nat} {f : Nat → Int} (h : ∀ i < n, f i ≤ 0) : S n f ≤ 0 := by
  induction n with
  | zero => exact Int.le_refl 0
  | succ n ih =>
    rw [S_succ]
    have := ih fun i hi => h i (by omega)
    have := h n (by omega)
    omega
theorem S_one {n k : Nat} {f : Nat → Int} (hk : k < n) (h : ∀ i < n, i ≠ k → f i ≤ 0) : S n f ≤ f k := by
  induction n with
  | zero => omega
  | succ n ih =>
    rw [S_succ]
    by_cases c : k = n
    · subst c
      have := S_le (n := k) (f := f) fun i hi => h i (by omega) (by omega)
      omega
    · have := ih (by omega) fun i hi ne => h i (by omega) ne
      have := h n (by omega) (fun z => c z.symm)
      omega
/-! ### what comes in and goes out -/
def sg (m n i j : Nat) : Int := if decide (i = m - 1) = decide (j = n - 1) then 1 else -1
def chi (a b : Pl) : Int := if a = b then 1 else 0
def net (m n : Nat) (d : Nat → Nat → Int) (p : Pl) : Int := if p.1 then S n fun j => sg m n p.2 j * d p.2 j else -(S m fun i => sg m n i p.2 * d i p.2)
theorem arc_sg (m n : Nat) (c : Nat × Nat) (q : Pl → Int) : q (arcF m n c).1 - q (arcF m n c).2 = sg m n c.1 c.2 * (q (true, c.1) - q (false, c.2)) := by
  unfold arcF sg
  split
  · show q (true, c.1) - q (false, c.2) = _
    omega
  · show q (false, c.2) - q (true, c.1) = _
    omega
/-- nothing is left over at any cut -/
theorem cut_zero {m n : Nat} {d : Nat → Nat → Int} (h : ∀ p : Pl, p.2 < (if p.1 then m else n) → net m n d p = 0) (q : Pl → Int) : S m (fun i => S n fun j => d i j * (q (arcF m n (i, j)).1 - q (arcF m n (i, j)).2)) = 0 := by
  have e : S m (fun i => S n fun j => d i j * (q (arcF m n (i, j)).1 - q (arcF m n (i, j)).2)) = S m (fun i => q (true, i) * S n fun j => sg m n i j * d i j) + S m (fun i => S n fun j => -(q (false, j)) * (sg m n i j * d i j)) := by
    rw [← S_add]
    refine S_congr fun i _ => ?_
    rw [← S_mul, ← S_add]
    refine S_congr fun j _ => ?_
    rw [arc_sg]
    show d i j * (sg m n i j * (q (true, i) - q (false, j))) = q (true, i) * (sg m n i j * d i j) + -(q (false, j)) * (sg m n i j * d i j)
    generalize sg m n i j = s
    generalize q (true, i) = a
    generalize q (false, j) = b
    rw [Int.mul_sub, Int.mul_sub, Int.neg_mul, ← Int.sub_eq_add_neg]
    rw [show d i j * (s * a) = a * (s * d i j) by rw [Int.mul_comm s a, ← Int.mul_assoc, Int.mul_comm (d i j) a, Int.mul_assoc, Int.mul_comm (d i j) s]]
    rw [show d i j * (s * b) = b * (s * d i j) by rw [Int.mul_comm s b, ← Int.mul_assoc, Int.mul_comm (d i j) b, Int.mul_assoc, Int.mul_comm (d i j) s]]
  rw [e, S_swap m n]
  have r1 : S m (fun i => q (true, i) * S n fun j => sg m n i j * d i j) = 0 := S_nul fun i hi => by
    have := h (true, i) (by simpa using hi)
    have : S n (fun j => sg m n i j * d i j) = 0 := this
    rw [this, Int.mul_zero]
  have r2 : S n (fun j => S m fun i => -(q (false, j)) * (sg m n i j * d i j)) = 0 := S_nul fun j hj => by
    rw [S_mul]
    have := h (false, j) (by simpa using hj)
    have : -(S m fun i => sg m n i j * d i j) = 0 := this
    rw [show S m (fun i => sg m n i j * d i j) = 0 by omega, Int.mul_zero]
  rw [r1, r2]
  rfl
/-- if all but one arc that cross go the one way with nothing, the one does not go the other -/
theorem cut_sign {m n : Nat} {d : Nat → Nat → Int} (h : ∀ p : Pl, p.2 < (if p.1 then m else n) → net m n d p = 0) (q : Pl → Int) {c : Nat × Nat} (c1 : c.1 < m) (c2 : c.2 < n)
    (ho : ∀ i < m, ∀ j < n, (i, j) ≠ c → d i j * (q (arcF m n (i, j)).1 - q (arcF m n (i, j)).2) ≤ 0) : 0 ≤ d c.1 c.2 * (q (arcF m n c).1 - q (arcF m n c).2) := by
  have z := cut_zero h q
  have one := S_one (n := m) (k := c.1) (f := fun i => S n fun j => d i j * (q (arcF m n (i, j)).1 - q (arcF m n (i, j)).2)) c1 fun i hi ne => S_le fun j hj => ho i hi j hj fun e => ne (by rw [← e])
  have two := S_one (n := n) (k := c.2) (f := fun j => d c.1 j * (q (arcF m n (c.1, j)).1 - q (arcF m n (c.1, j)).2)) c2 fun j hj ne => ho c.1 c1 j hj fun e => ne (by rw [← e])
  rw [z] at one
  have two' : S n (fun j => d c.1 j * (q (arcF m n (c.1, j)).1 - q (arcF m n (c.1, j)).2)) ≤ d c.1 c.2 * (q (arcF m n c).1 - q (arcF m n c).2) := two
  exact Int.le_trans one two'
end K3
end N1_part
section N2_part
set_option Elab.async false
set_option linter.all false
set_option maxRecDepth 100000
set_option maxHeartbeats 1000000
set_option pp.deepTerms.threshold 5
open PySem PySem.Spec PyProof.Rows L2
/-- go on as far as nothing is open -/
local macro_rules | `(tactic| walk_at "go") => `(tactic| repeat (first
  | with_reducible refine w_seq ?_ | with_reducible refine w_next ?_ | with_reducible refine w_set ?_ | with_reducible refine w_drop ?_ | with_reducible refine w_ret ?_ | with_reducible refine w_retN ?_
  | with_reducible refine w_if ?_ | ((with_reducible refine' w_var ?hv ?_); (case hv => exact rfl)) | with_reducible refine w_c ?_ | with_reducible refine w_nil ?_ | with_reducible refine w_cons ?_ | with_reducible refine w_op ?_ | with_reducible refine w_un ?_
  | with_reducible refine w_test ?_ | with_reducible refine w_tB ?_ | with_reducible refine w_not ?_ | with_reducible refine w_and ?_ | with_reducible refine w_or ?_ | with_reducible refine w_bl ?_
  | with_reducible refine w_andV ?_ | with_reducible refine w_orV ?_ | with_reducible refine w_notV ?_ | with_reducible refine w_ifE ?_ | with_reducible refine w_chain ?_ | with_reducible refine w_i0 ?_
  | with_reducible refine w_call ?_ | with_reducible refine w_callS ?_ | with_reducible refine w_cB ?_ | with_reducible refine w_tup ?_ | with_reducible refine w_lst ?_ | with_reducible refine w_fldV ?_
  | with_reducible refine w_neF ?_ | with_reducible refine w_neT ?_ | with_reducible refine w_notN ?_ | with_reducible refine w_isN ?_ | with_reducible refine w_gname ?_ | with_reducible refine w_gsub ?_ | with_reducible refine w_asg ?_ | with_reducible refine w_sl ?_ | with_reducible refine w_noP ?_ | with_reducible refine w_int1 ?_ | with_reducible refine w_part ?_ | with_reducible refine w_yes ?_ | with_reducible refine w_nT ?_ | with_reducible refine w_nF ?_ | with_reducible refine w_iteT ?_ | with_reducible refine w_iteF ?_))
namespace K3
abbrev inPl (m n : Nat) (p : Pl) : Prop := p.2 < (if p.1 then m else n)
theorem S_delta {n k : Nat} (a : Int) (hk : k < n) : S n (fun j => if j = k then a else 0) = a := by
  induction n with
  | zero => omega
  | succ n ih =>
    rw [S_succ]
    by_cases c : k = n
    · subst c
      rw [if_pos rfl, S_nul fun i hi => if_neg (by omega)]
      omega
    · rw [ih (by omega), if_neg (fun z => c z.symm)]
      omega
theorem net_delta {m n : Nat} {c : Nat × Nat} (c1 : c.1 < m) (c2 : c.2 < n) (x : Int) (p : Pl) : net m n (fun i j => if (i, j) = c then x else 0) p = x * (chi (arcF m n c).1 p - chi (arcF m n c).2 p) := by
  obtain ⟨b, k⟩ := p
  obtain ⟨i, j⟩ := c
  rw [arc_sg m n (i, j) fun r => chi r (b, k)]
  cases b with
  | true =>
    show S n (fun j' => sg m n k j' * (if (k, j') = (i, j) then x else 0)) = x * (sg m n i j * (chi (true, i) (true, k) - chi (false, j) (true, k)))
    have h0 : chi (false, j) (true, k) = 0 := if_neg (by simp)
    rw [h0]
    by_cases e : k = i
    · subst e
      have h1 : chi (true, k) (true, k) = 1 := if_pos rfl
      rw [h1, S_congr (g := fun j' => if j' = j then sg m n k j * x else 0) fun j' _ => ?_, S_delta _ c2]
      · rw [Int.sub_zero, Int.mul_one, Int.mul_comm]
      · by_cases z : j' = j
        · subst z
          rw [if_pos rfl, if_pos rfl]
        · rw [if_neg z, if_neg (fun w => z (by injection w)), Int.mul_zero]
    · have h1 : chi (true, i) (true, k) = 0 := if_neg (fun w => e (by injection w with _ w; exact w.symm))
      rw [h1, S_nul fun j' _ => by rw [if_neg (fun w => e (by injection w)), Int.mul_zero]]
      simp
  | false =>
    show -(S m fun i' => sg m n i' k * (if (i', k) = (i, j) then x else 0)) = x * (sg m n i j * (chi (true, i) (false, k) - chi (false, j) (false, k)))
    have h0 : chi (true, i) (false, k) = 0 := if_neg (by simp)
    rw [h0]
    by_cases e : k = j
    · subst e
      have h1 : chi (false, k) (false, k) = 1 := if_pos rfl
      rw [h1, S_congr (g := fun i' => if i' = i then sg m n i k * x else 0) fun i' _ => ?_, S_delta _ c1]
      · rw [show (0 : Int) - 1 = -1 from rfl, Int.mul_neg, Int.mul_neg, Int.mul_one, Int.mul_comm]
      · by_cases z : i' = i
        · subst z
          rw [if_pos rfl, if_pos rfl]
        · rw [if_neg z, if_neg (fun w => z (by injection w)), Int.mul_zero]
    · have h1 : chi (false, j) (false, k) = 0 := if_neg (fun w => e (by injection w with _ w; exact w.symm))
      rw [h1, S_nul fun i' _ => by rw [if_neg (fun w => e (by injection w)), Int.mul_zero]]
      simp
theorem net_sum (m n : Nat) (d e : Nat → Nat → Int) (p : Pl) : net m n (fun i j => d i j + e i j) p = net m n d p + net m n e p := by
  unfold net
  split
  · rw [← S_add]
    exact S_congr fun j _ => Int.mul_add ..
  · rw [S_congr (g := fun i => sg m n i p.2 * d i p.2 + sg m n i p.2 * e i p.2) fun i _ => Int.mul_add .., S_add]
    omega
theorem net_congr {m n : Nat} {d e : Nat → Nat → Int} (h : ∀ i < m, ∀ j < n, d i j = e i j) {p : Pl} (hp : inPl m n p) : net m n d p = net m n e p := by
  unfold net
  split
  · rename_i c
    rw [S_congr fun j hj => by rw [h p.2 (by simpa [inPl, c] using hp) j hj]]
  · rename_i c
    rw [S_congr fun i hi => by rw [h i hi p.2 (by simpa [inPl, c] using hp)]]
theorem at2_add {m n : Nat} {u : List (List Int)} (hu : Rect u m n) {c : Nat × Nat} (c1 : c.1 < m) (c2 : c.2 < n) (x : Int) {i j : Nat} (hi : i < m) (hj : j < n) : at2 (addAt u c x) i j = at2 u i j + (if (i, j) = c then x else 0) := by
  obtain ⟨a, b⟩ := c
  have la : a < u.length := by rw [hu.1]; exact c1
  unfold addAt
  by_cases e : i = a
  · subst e
    have e1 : at2 (u.set i ((u.getD i []).set b (at2 u i b + x))) i j = ((u.getD i []).set b (at2 u i b + x)).getD j 0 := at2_of (by rw [List.getElem?_set_self la])
    show at2 (u.set i ((u.getD i []).set b (at2 u i b + x))) i j = _
    rw [e1]
    have lr : (u.getD i []).length = n := by
      rw [List.getD_eq_getElem?_getD, List.getElem?_eq_getElem la]
      exact hu.2 _ (List.getElem_mem la)
    by_cases z : j = b
    · subst z
      rw [if_pos rfl, List.getD_eq_getElem?_getD, List.getElem?_set_self (by omega)]
      rfl
    · rw [if_neg (fun w => z (by injection w)), List.getD_eq_getElem?_getD, List.getElem?_set_ne (fun w => z w.symm), Int.add_zero]
      rfl
  · rw [if_neg (fun w => e (by injection w)), Int.add_zero]
    have e2 : ∀ r : List Int, (u.set a r).getD i [] = u.getD i [] := fun r => by
      rw [List.getD_eq_getElem?_getD, List.getElem?_set_ne (fun w => e w.symm), ← List.getD_eq_getElem?_getD]
    unfold at2
    show ((u.set a _).getD i []).getD j 0 = _
    rw [e2]
theorem net_addAt {m n : Nat} {u : List (List Int)} (hu : Rect u m n) {c : Nat × Nat} (c1 : c.1 < m) (c2 : c.2 < n) (x : Int) {p : Pl} (hp : inPl m n p) : net m n (at2 (addAt u c x)) p = net m n (at2 u) p + x * (chi (arcF m n c).1 p - chi (arcF m n c).2 p) := by
  rw [net_congr (e := fun i j => at2 u i j + (if (i, j) = c then x else 0)) (fun i hi j hj => at2_add hu c1 c2 x hi hj) hp, net_sum, net_delta c1 c2]
/-! ### ways, with the places that they come to -/
inductive PathP (f : Pl → List Stp) (start : Pl) : Pl → Way → List Pl → Prop
  | nil : PathP f start start [] []
  | step {p : Pl} {s : Stp} {w : Way} {ps : List Pl} : s ∈ f p → PathP f start p w ps → PathP f start s.to ((s.c, s.up) :: w) (s.to :: ps)
theorem way_pathP {m n : Nat} {u : List (List Int)} {f : Pl → List Stp} {start : Pl} {came : Came} (h : WOk m n u f start came) : ∀ (i k : Nat) (p : Pl) (o : Option Stp), came[i]? = some (p, o) → i < k →
    ∃ ps, PathP f start p (wayI came k o) ps ∧ ps.Nodup ∧ ∀ q ∈ ps, ∃ j o', j ≤ i ∧ came[j]? = some (q, o') := by
  intro i
  induction i using Nat.strongRecOn with
  | _ i ih =>
    intro k p o hi hk
    obtain ⟨k, rfl⟩ : ∃ j, k = j + 1 := ⟨k - 1, by omega⟩
    cases o with
    | none =>
      have := h.first i p hi
      subst this
      rw [h.zero] at hi
      cases hi
      exact ⟨[], .nil, List.nodup_nil, fun q hq => (by cases hq)⟩
    | some s =>
      obtain ⟨⟨j, o', hj, hj2⟩, hr, hm⟩ := h.step i p s hi
      obtain ⟨ps, h1, h2, h3⟩ := ih j hj k s.to o' hj2 (by omega)
      refine ⟨p :: ps, ?_, List.nodup_cons.mpr ⟨fun z => ?_, h2⟩, fun q hq => ?_⟩
      · show PathP f start p ((s.c, s.up) :: wayI came k (lookC came s.to)) (p :: ps)
        rw [look_at h.ok.nd hj2]
        exact PathP.step (s := ⟨p, s.c, s.up⟩) hm h1
      · obtain ⟨j', o2, hj', hj3⟩ := h3 p z
        have e1 : (keysOf came)[i]? = some p := by unfold keysOf; rw [List.getElem?_map, hi]; rfl
        have e2 : (keysOf came)[j']? = some p := by unfold keysOf; rw [List.getElem?_map, hj3]; rfl
        have := nodup_at h.ok.nd e1 e2
        omega
      · rcases List.mem_cons.mp hq with rfl | hq
        · exact ⟨i, _, Nat.le_refl _, hi⟩
        · obtain ⟨j', o2, hj', hj3⟩ := h3 q hq
          exact ⟨j', o2, by omega, hj3⟩
theorem wayF_pathP {m n : Nat} {u : List (List Int)} {f : Pl → List Stp} {start g : Pl} {came : Came} (h : WOk m n u f start came) (hg : g ∈ keysOf came) : ∃ ps, PathP f start g (wayF came g) ps ∧ ps.Nodup := by
  obtain ⟨⟨p, o⟩, hq, rfl⟩ := List.mem_map.mp hg
  obtain ⟨i, hi⟩ := List.getElem?_of_mem hq
  unfold wayF
  rw [look_at h.ok.nd hi]
  have := (List.getElem?_eq_some_iff.mp hi).1
  obtain ⟨ps, h1, h2, _⟩ := way_pathP h i (came.length + 1) p o hi (by omega)
  exact ⟨ps, h1, h2⟩
theorem stepsF_mem {m n : Nat} {cs : List (Nat × Nat)} {p : Pl} {s : Stp} (h : s ∈ stepsF m n cs p) : s.c ∈ cs ∧ ((s.up = true ∧ arcF m n s.c = (p, s.to)) ∨ (s.up = false ∧ arcF m n s.c = (s.to, p))) := by
  unfold stepsF at h
  obtain ⟨c, hc, e⟩ := List.mem_filterMap.mp h
  split at e
  · rename_i k
    cases e
    exact ⟨hc, .inl ⟨rfl, by rw [← k]⟩⟩
  · split at e
    · rename_i k
      cases e
      exact ⟨hc, .inr ⟨rfl, by rw [← k]⟩⟩
    · cases e
theorem stepsF_up {m n : Nat} {cs : List (Nat × Nat)} {c : Nat × Nat} (hc : c ∈ cs) : (⟨(arcF m n c).2, c, true⟩ : Stp) ∈ stepsF m n cs (arcF m n c).1 ∧ (⟨(arcF m n c).1, c, false⟩ : Stp) ∈ stepsF m n cs (arcF m n c).2 := by
  unfold stepsF
  refine ⟨List.mem_filterMap.mpr ⟨c, hc, if_pos rfl⟩, List.mem_filterMap.mpr ⟨c, hc, ?_⟩⟩
  rw [if_neg (arc_ne m n c), if_pos rfl]
/-- how often a way goes through a cell forward less backward -/
def cnt (w : Way) (c : Nat × Nat) : Int := (w.map fun q => if q.1 = c then sgn q.2 else 0).sum
theorem applyF_cons (u : List (List Int)) (q : (Nat × Nat) × Bool) (w : Way) (a : Int) : applyF u (q :: w) a = applyF (addAt u q.1 (sgn q.2 * a)) w a := rfl
theorem apply_at {m n : Nat} {a : Int} {i j : Nat} (hi : i < m) (hj : j < n) : ∀ {w : Way} {u : List (List Int)}, Rect u m n → (∀ q ∈ w, q.1.1 < m ∧ q.1.2 < n) → at2 (applyF u w a) i j = at2 u i j + cnt w (i, j) * a
  | [], u, _, _ => by show _ = _ + (0 : Int) * a; rw [Int.zero_mul, Int.add_zero]; rfl
  | q :: w, u, hu, hw => by
    obtain ⟨c1, c2⟩ := hw q (List.mem_cons_self ..)
    rw [applyF_cons, apply_at hi hj (addAt_len hu) fun r hr => hw r (List.mem_cons_of_mem _ hr), at2_add hu c1 c2 _ hi hj]
    have e : cnt (q :: w) (i, j) = (if q.1 = (i, j) then sgn q.2 else 0) + cnt w (i, j) := rfl
    rw [e, Int.add_mul, Int.add_assoc]
    congr 2
    by_cases z : q.1 = (i, j)
    · rw [if_pos z, if_pos z.symm]
    · rw [if_neg z, if_neg (fun w => z w.symm), Int.zero_mul]
theorem apply_net {m n : Nat} {cs : List (Nat × Nat)} {start : Pl} {a : Int} (hb : ∀ c ∈ cs, c.1 < m ∧ c.2 < n) {q : Pl} (hq : inPl m n q) : ∀ {p : Pl} {w : Way} {ps : List Pl}, PathP (stepsF m n cs) start p w ps → ∀ {u : List (List Int)}, Rect u m n →
    net m n (at2 (applyF u w a)) q = net m n (at2 u) q + a * (chi start q - chi p q) := by
  intro p w ps h
  induction h with
  | nil => intro u hu; show net m n (at2 u) q = _; rw [Int.sub_self, Int.mul_zero, Int.add_zero]
  | @step p0 s w ps hs _ ih =>
    intro u hu
    obtain ⟨hc, ho⟩ := stepsF_mem hs
    obtain ⟨c1, c2⟩ := hb _ hc
    rw [applyF_cons, ih (addAt_len hu), net_addAt hu c1 c2 _ hq]
    show net m n (at2 u) q + sgn s.up * a * (chi (arcF m n s.c).1 q - chi (arcF m n s.c).2 q) + a * (chi start q - chi p0 q) = net m n (at2 u) q + a * (chi start q - chi s.to q)
    have e : sgn s.up * a * (chi (arcF m n s.c).1 q - chi (arcF m n s.c).2 q) = a * (chi p0 q - chi s.to q) := by
      rcases ho with ⟨h1, h2⟩ | ⟨h1, h2⟩
      · rw [h1, h2]
        show 1 * a * (chi p0 q - chi s.to q) = _
        rw [Int.one_mul]
      · rw [h1, h2]
        show -1 * a * (chi s.to q - chi p0 q) = _
        rw [Int.mul_sub, Int.mul_sub]
        simp only [Int.neg_mul, Int.one_mul]
        omega
    rw [e, Int.add_assoc, ← Int.mul_add]
    congr 2
    omega
theorem path_down {m n : Nat} {cs : List (Nat × Nat)} {start : Pl} {c : Nat × Nat} : ∀ {p : Pl} {w : Way} {ps : List Pl}, PathP (stepsF m n cs) start p w ps → (c, false) ∈ w → (arcF m n c).1 ∈ ps := by
  intro p w ps h
  induction h with
  | nil => intro z; cases z
  | @step p0 s w ps hs _ ih =>
    intro z
    rcases List.mem_cons.mp z with e | z
    · obtain ⟨hc, ⟨h1, h2⟩ | ⟨h1, h2⟩⟩ := stepsF_mem hs
      · injection e with e1 e2
        rw [← e2] at h1
        cases h1
      · injection e with e1 e2
        rw [e1, h2]
        exact List.mem_cons_self ..
    · exact List.mem_cons_of_mem _ (ih z)
theorem cnt_up {c : Nat × Nat} : ∀ {w : Way}, (c, false) ∉ w → 0 ≤ cnt w c
  | [], _ => Int.le_refl 0
  | q :: w, h => by
    have ih := cnt_up (w := w) fun z => h (List.mem_cons_of_mem _ z)
    have e : cnt (q :: w) c = (if q.1 = c then sgn q.2 else 0) + cnt w c := rfl
    rw [e]
    split
    · rename_i k
      cases hb : q.2 with
      | true => show 0 ≤ 1 + cnt w c; omega
      | false =>
        refine absurd (List.mem_cons.mpr (.inl ?_)) h
        rw [← k, ← hb]
    · omega
theorem cnt_low {m n : Nat} {cs : List (Nat × Nat)} {start : Pl} {c : Nat × Nat} : ∀ {p : Pl} {w : Way} {ps : List Pl}, PathP (stepsF m n cs) start p w ps → ps.Nodup → -1 ≤ cnt w c := by
  intro p w ps h
  induction h with
  | nil => intro _; show (-1 : Int) ≤ 0; decide
  | @step p0 s w ps hs hp ih =>
    intro nd
    obtain ⟨n1, n2⟩ := List.nodup_cons.mp nd
    have i := ih n2
    have e : cnt ((s.c, s.up) :: w) c = (if s.c = c then sgn s.up else 0) + cnt w c := rfl
    rw [e]
    split
    · rename_i k
      cases hb : s.up with
      | true => show -1 ≤ 1 + cnt w c; omega
      | false =>
        show -1 ≤ -1 + cnt w c
        have : (c, false) ∉ w := fun z => by
          have h1 := path_down hp z
          obtain ⟨hc, ⟨k1, k2⟩ | ⟨k1, k2⟩⟩ := stepsF_mem hs
          · rw [hb] at k1; cases k1
          · rw [← k, k2] at h1
            exact n1 h1
        have := cnt_up this
        omega
    · omega
theorem cnt_out {m n : Nat} {cs : List (Nat × Nat)} {start : Pl} {c : Nat × Nat} (hc : c ∉ cs) : ∀ {p : Pl} {w : Way} {ps : List Pl}, PathP (stepsF m n cs) start p w ps → cnt w c = 0 := by
  intro p w ps h
  induction h with
  | nil => rfl
  | @step p0 s w ps hs hp ih =>
    have e : cnt ((s.c, s.up) :: w) c = (if s.c = c then sgn s.up else 0) + cnt w c := rfl
    rw [e, ih, if_neg fun z => hc (by rw [← z]; exact (stepsF_mem hs).1)]
    rfl
theorem path_cells {m n : Nat} {cs : List (Nat × Nat)} {start : Pl} (hb : ∀ c ∈ cs, c.1 < m ∧ c.2 < n) : ∀ {p : Pl} {w : Way} {ps : List Pl}, PathP (stepsF m n cs) start p w ps → ∀ q ∈ w, q.1.1 < m ∧ q.1.2 < n := by
  intro p w ps h
  induction h with
  | nil => intro q hq; cases hq
  | @step p0 s w ps hs hp ih =>
    intro q hq
    rcases List.mem_cons.mp hq with rfl | hq
    · exact hb _ (stepsF_mem hs).1
    · exact ih q hq
end K3
end N2_part
section N3_part
set_option Elab.async false
set_option linter.all false
set_option maxRecDepth 100000
set_option maxHeartbeats 1000000
set_option pp.deepTerms.threshold 5
open PySem PySem.Spec PyProof.Rows L2
/-- go on as far as nothing is open -/
local macro_rules | `(tactic| walk_at "go") => `(tactic| repeat (first
  | with_reducible refine w_seq ?_ | with_reducible refine w_next ?_ | with_reducible refine w_set ?_ | with_reducible refine w_drop ?_ | with_reducible refine w_ret ?_ | with_reducible refine w_retN ?_
  | with_reducible refine w_if ?_ | ((with_reducible refine' w_var ?hv ?_); (case hv => exact rfl)) | with_reducible refine w_c ?_ | with_reducible refine w_nil ?_ | with_reducible refine w_cons ?_ | with_reducible refine w_op ?_ | with_reducible refine w_un ?_
  | with_reducible refine w_test ?_ | with_reducible refine w_tB ?_ | with_reducible refine w_not ?_ | with_reducible refine w_and ?_ | with_reducible refine w_or ?_ | with_reducible refine w_bl ?_
  | with_reducible refine w_andV ?_ | with_reducible refine w_orV ?_ | with_reducible refine w_notV ?_ | with_reducible refine w_ifE ?_ | with_reducible refine w_chain ?_ | with_reducible refine w_i0 ?_
  | with_reducible refine w_call ?_ | with_reducible refine w_callS ?_ | with_reducible refine w_cB ?_ | with_reducible refine w_tup ?_ | with_reducible refine w_lst ?_ | with_reducible refine w_fldV ?_
  | with_reducible refine w_neF ?_ | with_reducible refine w_neT ?_ | with_reducible refine w_notN ?_ | with_reducible refine w_isN ?_ | with_reducible refine w_gname ?_ | with_reducible refine w_gsub ?_ | with_reducible refine w_asg ?_ | with_reducible refine w_sl ?_ | with_reducible refine w_noP ?_ | with_reducible refine w_int1 ?_ | with_reducible refine w_part ?_ | with_reducible refine w_yes ?_ | with_reducible refine w_nT ?_ | with_reducible refine w_nF ?_ | with_reducible refine w_iteT ?_ | with_reducible refine w_iteF ?_))
namespace K3
theorem list_S {l : List Int} : ∀ {k : Nat}, l.length = k + 1 → l.dropLast.sum = S k (fun i => l.getD i 0) ∧ l.getLastD 0 = l.getD k 0 := by
  intro k h
  have ne : l ≠ [] := fun z => by rw [z] at h; cases h
  obtain ⟨xs, x, rfl⟩ : ∃ xs x, l = xs ++ [x] := ⟨l.dropLast, l.getLast ne, (List.dropLast_concat_getLast ne).symm⟩
  have lx : xs.length = k := by simpa using h
  rw [List.dropLast_concat, List.getLastD_concat]
  constructor
  · have e : S k (fun i => (xs ++ [x]).getD i 0) = S k fun i => xs.getD i 0 := S_congr fun i hi => by
      rw [List.getD_eq_getElem?_getD, List.getD_eq_getElem?_getD, List.getElem?_append_left (by omega)]
    rw [e, ← lx]
    exact (sum_getD xs).symm
  · rw [List.getD_eq_getElem?_getD, List.getElem?_append_right (by omega), lx]
    simp
theorem nn_iff {u : List (List Int)} {m n : Nat} (hu : Rect u m n) : (∀ r ∈ u, ∀ x ∈ r, 0 ≤ x) ↔ ∀ i < m, ∀ j < n, 0 ≤ at2 u i j := by
  constructor
  · intro h i hi j hj
    have li : i < u.length := by rw [hu.1]; exact hi
    have e := at2_of (t := u) (i := i) (j := j) (List.getElem?_eq_getElem li)
    rw [e]
    have lj : j < (u[i]).length := by rw [hu.2 _ (List.getElem_mem li)]; exact hj
    rw [List.getD_eq_getElem?_getD, List.getElem?_eq_getElem lj]
    exact h _ (List.getElem_mem li) _ (List.getElem_mem lj)
  · intro h r hr x hx
    obtain ⟨i, hi⟩ := List.getElem?_of_mem hr
    obtain ⟨j, hj⟩ := List.getElem?_of_mem hx
    have li := (List.getElem?_eq_some_iff.mp hi).1
    have lj := (List.getElem?_eq_some_iff.mp hj).1
    have := h i (by rw [← hu.1]; exact li) j (by rw [← hu.2 r hr]; exact lj)
    rw [at2_of hi, List.getD_eq_getElem?_getD, hj] at this
    exact this
theorem line_zero {k : Nat} {l : List Int} {s : Nat → Int} {e : Int} (hl : l.length = k + 1) (he : e = 1 ∨ e = -1) (h1 : ∀ i < k, s i = e) (h2 : s k = -e) : S (k + 1) (fun i => s i * l.getD i 0) = 0 ↔ l.getLastD 0 = l.dropLast.sum := by
  obtain ⟨a, b⟩ := list_S hl
  rw [S_succ, S_congr (g := fun i => e * l.getD i 0) fun i hi => by rw [h1 i hi], S_mul, h2, ← a, ← b]
  generalize l.dropLast.sum = x
  generalize l.getLastD 0 = y
  rcases he with rfl | rfl
  · constructor <;> intro h <;> omega
  · constructor <;> intro h <;> omega
theorem right_net {u : List (List Int)} {m n : Nat} (hu : Rect u m n) (m1 : 1 ≤ m) (n1 : 1 ≤ n) : Right u n ↔ ∀ p, inPl m n p → net m n (at2 u) p = 0 := by
  obtain ⟨m, rfl⟩ : ∃ k, m = k + 1 := ⟨m - 1, by omega⟩
  obtain ⟨n, rfl⟩ : ∃ k, n = k + 1 := ⟨n - 1, by omega⟩
  have rows : ∀ i (r : List Int), u[i]? = some r → (net (m + 1) (n + 1) (at2 u) (true, i) = 0 ↔ r.getLastD 0 = r.dropLast.sum) := by
    intro i r hr
    have lr : r.length = n + 1 := hu.2 r (List.mem_of_getElem? hr)
    show S (n + 1) (fun j => sg (m + 1) (n + 1) i j * at2 u i j) = 0 ↔ _
    rw [S_congr (g := fun j => sg (m + 1) (n + 1) i j * r.getD j 0) fun j _ => by rw [at2_of hr]]
    by_cases c : i = m
    · exact line_zero (e := -1) lr (.inr rfl) (fun j hj => by unfold sg; rw [if_neg]; simp [c]; omega) (by unfold sg; rw [if_pos (by simp [c])]; rfl)
    · exact line_zero (e := 1) lr (.inl rfl) (fun j hj => by unfold sg; rw [if_pos]; simp [c]; omega) (by unfold sg; rw [if_neg (by simp [c])])
  have cols : ∀ j < n + 1, (net (m + 1) (n + 1) (at2 u) (false, j) = 0 ↔ RightCol u j) := by
    intro j hj
    have lc : (colOf u j).length = m + 1 := by unfold colOf; rw [List.length_map, hu.1]
    have e : ∀ i < m + 1, at2 u i j = (colOf u j).getD i 0 := fun i hi => by
      have li : i < u.length := by rw [hu.1]; exact hi
      rw [at2_of (List.getElem?_eq_getElem li)]
      unfold colOf
      rw [List.getD_eq_getElem?_getD, List.getD_eq_getElem?_getD, List.getElem?_map, List.getElem?_eq_getElem li]
      rw [← List.getD_eq_getElem?_getD]
      rfl
    show -(S (m + 1) fun i => sg (m + 1) (n + 1) i j * at2 u i j) = 0 ↔ _
    rw [S_congr (g := fun i => sg (m + 1) (n + 1) i j * (colOf u j).getD i 0) fun i hi => by rw [e i hi]]
    unfold RightCol
    have z : ∀ x : Int, -x = 0 ↔ x = 0 := fun x => by omega
    rw [z]
    by_cases c : j = n
    · exact line_zero (e := -1) lc (.inr rfl) (fun i hi => by unfold sg; rw [if_neg]; simp [c]; omega) (by unfold sg; rw [if_pos (by simp [c])]; rfl)
    · exact line_zero (e := 1) lc (.inl rfl) (fun i hi => by unfold sg; rw [if_pos]; simp [c]; omega) (by unfold sg; rw [if_neg (by simp [c])])
  constructor
  · rintro ⟨h1, h2⟩ ⟨b, k⟩ hp
    cases b with
    | true =>
      have hk : k < u.length := by rw [hu.1]; simpa [inPl] using hp
      exact (rows k _ (List.getElem?_eq_getElem hk)).mpr (h1 _ (List.getElem_mem hk))
    | false =>
      have hk : k < n + 1 := by simpa [inPl] using hp
      exact (cols k hk).mpr (h2 k hk)
  · intro h
    refine ⟨fun r hr => ?_, fun c hc => (cols c hc).mp (h (false, c) (by simpa [inPl] using hc))⟩
    obtain ⟨i, hi⟩ := List.getElem?_of_mem hr
    have li := (List.getElem?_eq_some_iff.mp hi).1
    exact (rows i r hi).mp (h (true, i) (by have := hu.1; simp [inPl]; omega))
theorem push_ok {m n : Nat} {cs : List (Nat × Nat)} {start goal : Pl} (hb : ∀ c ∈ cs, c.1 < m ∧ c.2 < n) (hS : StepsOk m n (stepsF m n cs)) (hst : inPl m n start) : ∀ (k : Nat) (left : Int) (u : List (List Int)), Rect u m n → (∀ i < m, ∀ j < n, 0 ≤ at2 u i j) → 0 ≤ left → left.toNat < k →
    ∀ R, R = pushF (stepsF m n cs) (m + n + 1) start goal k left u → Rect R.1 m n ∧ (∀ i < m, ∀ j < n, 0 ≤ at2 R.1 i j) ∧ (∀ p, inPl m n p → net m n (at2 R.1) p = net m n (at2 u) p + (left - R.2) * (chi start p - chi goal p)) ∧
      (∀ i < m, ∀ j < n, (i, j) ∉ cs → at2 R.1 i j = at2 u i j) ∧ 0 ≤ R.2 ∧ R.2 ≤ left ∧ (R.2 = 0 ∨ goal ∉ keysOf (waysF R.1 (stepsF m n cs) (m + n + 1) start)) := by
  intro k
  induction k with
  | zero => intro left u _ _ _ h; omega
  | succ k ih =>
    intro left u hu hn h0 hk R hR
    unfold pushF at hR
    have self : ∀ left : Int, ∀ p, net m n (at2 u) p = net m n (at2 u) p + (left - left) * (chi start p - chi goal p) := fun left p => by rw [Int.sub_self, Int.zero_mul, Int.add_zero]
    by_cases c : left ≤ 0
    · rw [if_pos c] at hR
      subst hR
      exact ⟨hu, hn, fun p _ => self left p, fun i _ j _ _ => rfl, h0, Int.le_refl _, .inl (show left = 0 by omega)⟩
    · rw [if_neg c] at hR
      simp only at hR
      by_cases g : goal ∈ keysOf (waysF u (stepsF m n cs) (m + n + 1) start)
      · rw [if_pos g] at hR
        obtain ⟨w1, _⟩ := ways_ok (u := u) hS hst
        have pr := path_res (wayF_path w1 g)
        obtain ⟨ps, pp, nd⟩ := wayF_pathP w1 g
        obtain ⟨a1, a2⟩ := amount_pos (left := left) (by omega) (lent_pos pr)
        obtain ⟨_, a3⟩ := amount_min (lentF u (wayF (waysF u (stepsF m n cs) (m + n + 1) start) goal)) left
        generalize wayF (waysF u (stepsF m n cs) (m + n + 1) start) goal = w at hR pr pp a1 a2 a3
        have pc := path_cells hb pp
        have hu2 : Rect (applyF u w (amountF left (lentF u w))) m n := applyF_rect hu
        have hat : ∀ i < m, ∀ j < n, at2 (applyF u w (amountF left (lentF u w))) i j = at2 u i j + cnt w (i, j) * amountF left (lentF u w) := fun i hi j hj => apply_at hi hj hu pc
        have hn2 : ∀ i < m, ∀ j < n, 0 ≤ at2 (applyF u w (amountF left (lentF u w))) i j := fun i hi j hj => by
          rw [hat i hi j hj]
          have h1 := hn i hi j hj
          have h2 := cnt_low (c := (i, j)) pp nd
          by_cases z : 0 ≤ cnt w (i, j)
          · have := Int.mul_nonneg z (Int.le_of_lt a1)
            omega
          · have e : cnt w (i, j) = -1 := by omega
            have hm : ((i, j), false) ∈ w := by
              by_cases y : ((i, j), false) ∈ w
              · exact y
              · exact absurd (cnt_up y) z
            have : at2 u i j ∈ lentF u w := List.mem_map.mpr ⟨((i, j), false), List.mem_filter.mpr ⟨hm, rfl⟩, rfl⟩
            have := a3 _ (List.mem_cons_of_mem _ this)
            rw [e]
            omega
        obtain ⟨r1, r2, r3, r4, r5, r6, r7⟩ := ih (left - amountF left (lentF u w)) (applyF u w (amountF left (lentF u w))) hu2 hn2 (by omega) (by omega) R hR
        refine ⟨r1, r2, fun p hp => ?_, fun i hi j hj hc => ?_, r5, by omega, r7⟩
        · rw [r3 p hp, apply_net hb hp pp hu, Int.add_assoc, ← Int.add_mul]
          congr 2
          omega
        · rw [r4 i hi j hj hc, hat i hi j hj, cnt_out hc pp, Int.zero_mul, Int.add_zero]
      · rw [if_neg g] at hR
        subst hR
        exact ⟨hu, hn, fun p _ => self left p, fun i _ j _ _ => rfl, h0, Int.le_refl _, .inr g⟩
end K3
end N3_part
section N4_part
set_option Elab.async false
set_option linter.all false
set_option maxRecDepth 100000
set_option maxHeartbeats 1000000
set_option pp.deepTerms.threshold 5
open PySem PySem.Spec PyProof.Rows L2
/-- go on as far as nothing is open -/
local macro_rules | `(tactic| walk_at "go") => `(tactic| repeat (first
  | with_reducible refine w_seq ?_ | with_reducible refine w_next ?_ | with_reducible refine w_set ?_ | with_reducible refine w_drop ?_ | with_reducible refine w_ret ?_ | with_reducible refine w_retN ?_
  | with_reducible refine w_if ?_ | ((with_reducible refine' w_var ?hv ?_); (case hv => exact rfl)) | with_reducible refine w_c ?_ | with_reducible refine w_nil ?_ | with_reducible refine w_cons ?_ | with_reducible refine w_op ?_ | with_reducible refine w_un ?_
  | with_reducible refine w_test ?_ | with_reducible refine w_tB ?_ | with_reducible refine w_not ?_ | with_reducible refine w_and ?_ | with_reducible refine w_or ?_ | with_reducible refine w_bl ?_
  | with_reducible refine w_andV ?_ | with_reducible refine w_orV ?_ | with_reducible refine w_notV ?_ | with_reducible refine w_ifE ?_ | with_reducible refine w_chain ?_ | with_reducible refine w_i0 ?_
  | with_reducible refine w_call ?_ | with_reducible refine w_callS ?_ | with_reducible refine w_cB ?_ | with_reducible refine w_tup ?_ | with_reducible refine w_lst ?_ | with_reducible refine w_fldV ?_
  | with_reducible refine w_neF ?_ | with_reducible refine w_neT ?_ | with_reducible refine w_notN ?_ | with_reducible refine w_isN ?_ | with_reducible refine w_gname ?_ | with_reducible refine w_gsub ?_ | with_reducible refine w_asg ?_ | with_reducible refine w_sl ?_ | with_reducible refine w_noP ?_ | with_reducible refine w_int1 ?_ | with_reducible refine w_part ?_ | with_reducible refine w_yes ?_ | with_reducible refine w_nT ?_ | with_reducible refine w_nF ?_ | with_reducible refine w_iteT ?_ | with_reducible refine w_iteF ?_))
namespace K3
/-- what a grid is like -/
structure Grid (t : List (List Int)) (m n : Nat) : Prop where
  rect : Rect t m n
  m1 : 1 ≤ m
  n1 : 1 ≤ n
  nn : ∀ i < m, ∀ j < n, 0 ≤ at2 t i j
  bal : ∀ p, inPl m n p → net m n (at2 t) p = 0
theorem Grid.of {t : List (List Int)} {m n : Nat} (h : Rect t m n) (m1 : 1 ≤ m) (n1 : 1 ≤ n) (nn : ∀ r ∈ t, ∀ x ∈ r, 0 ≤ x) (r : Right t n) : Grid t m n := ⟨h, m1, n1, (nn_iff h).mp nn, (right_net h m1 n1).mp r⟩
theorem fit_grid {t u : List (List Int)} {hs : List (Nat × Nat)} {m n : Nat} (m1 : 1 ≤ m) (n1 : 1 ≤ n) (h : Fit t hs u m n) : Grid u m n := .of h.1 m1 n1 h.2.1 h.2.2.1
theorem S_mono {n k : Nat} {f : Nat → Int} (hk : k < n) (h : ∀ i < n, 0 ≤ f i) : f k ≤ S n f ∧ 0 ≤ S n f := by
  have a := S_one (n := n) (k := k) (f := fun i => if i = k then f i else -(f i)) hk fun i hi ne => by
    rw [if_neg ne]
    have := h i hi
    omega
  have e : S n f + S n (fun i => if i = k then f i else -(f i)) = 2 * f k := by
    rw [← S_add, S_congr (g := fun i => if i = k then 2 * f k else 0) fun i hi => ?_, S_delta _ hk]
    by_cases c : i = k
    · rw [if_pos c, if_pos c, c]
      omega
    · rw [if_neg c, if_neg c]
      omega
  rw [if_pos rfl] at a
  have := h k hk
  exact ⟨by omega, by omega⟩
/-- no number is above the number of all -/
theorem Grid.le_last {t : List (List Int)} {m n : Nat} (h : Grid t m n) {i j : Nat} (hi : i < m) (hj : j < n) : at2 t i j ≤ at2 t (m - 1) (n - 1) := by
  obtain ⟨hr, m1, n1, nn, bal⟩ := h
  obtain ⟨m, rfl⟩ : ∃ k, m = k + 1 := ⟨m - 1, by omega⟩
  obtain ⟨n, rfl⟩ : ∃ k, n = k + 1 := ⟨n - 1, by omega⟩
  rw [Nat.add_sub_cancel, Nat.add_sub_cancel]
  -- the last of a row
  have row : ∀ i < m + 1, at2 t i n = S n fun j => at2 t i j := fun i hi => by
    have b := bal (true, i) (by simpa [inPl] using hi)
    have b : S (n + 1) (fun j => sg (m + 1) (n + 1) i j * at2 t i j) = 0 := b
    rw [S_succ] at b
    by_cases c : i = m
    · have b2 : S n (fun j => sg (m + 1) (n + 1) i j * at2 t i j) = -1 * S n fun j => at2 t i j := (S_congr fun j hj => by (unfold sg; rw [if_neg]; simp [c]; omega)).trans (S_mul n (-1) fun j => at2 t i j)
      rw [b2, show sg (m + 1) (n + 1) i n = 1 by unfold sg; rw [if_pos (by simp [c])]] at b
      omega
    · have b2 : S n (fun j => sg (m + 1) (n + 1) i j * at2 t i j) = 1 * S n fun j => at2 t i j := (S_congr fun j hj => by (unfold sg; rw [if_pos]; simp [c]; omega)).trans (S_mul n 1 fun j => at2 t i j)
      rw [b2, show sg (m + 1) (n + 1) i n = -1 by unfold sg; rw [if_neg (by simp [c])]] at b
      omega
  have last : at2 t m n = S m fun i => at2 t i n := by
    have b := bal (false, n) (by simp [inPl])
    have b : -(S (m + 1) fun i => sg (m + 1) (n + 1) i n * at2 t i n) = 0 := b
    rw [S_succ] at b
    rw [S_congr (g := fun i => -1 * at2 t i n) fun i hi => by (unfold sg; rw [if_neg]; simp; omega), S_mul] at b
    rw [show sg (m + 1) (n + 1) m n = 1 by unfold sg; rw [if_pos (by simp)]] at b
    omega
  have h1 : at2 t i j ≤ at2 t i n := by
    by_cases c : j = n
    · rw [c]; exact Int.le_refl _
    · rw [row i hi]
      exact (S_mono (by omega) fun j' hj' => nn i hi j' (by omega)).1
  have h2 : at2 t i n ≤ at2 t m n := by
    by_cases c : i = m
    · rw [c]; exact Int.le_refl _
    · rw [last]
      exact (S_mono (f := fun i => at2 t i n) (by omega) fun i' hi' => nn i' (by omega) n (by omega)).1
  omega
theorem Grid.room {t : List (List Int)} {m n : Nat} (h : Grid t m n) {c : Nat × Nat} (c1 : c.1 < m) (c2 : c.2 < n) : 0 ≤ roomF m n t c := by
  have := h.le_last c1 c2
  unfold roomF
  omega
theorem others_mem {cs : List (Nat × Nat)} {c k : Nat × Nat} : k ∈ othersF cs c ↔ k ∈ cs ∧ k ≠ c := by
  unfold othersF
  rw [List.mem_filter]
  simp
/-- the end of a flow: what is left over lies at the cell alone -/
theorem end_fit {t : List (List Int)} {cs : List (Nat × Nat)} {m n : Nat} {c : Nat × Nat} {start goal : Pl} {most x : Int} (g : Grid t m n) (hb : ∀ k ∈ cs, k.1 < m ∧ k.2 < n) (hl : cs.length ≤ 100) (hc : c ∈ cs) (hst : inPl m n start) (h0 : 0 ≤ most)
    (R : List (List Int) × Int) (hR : R = runF m n cs t c start goal most) (hx : ∀ p, x * (chi (arcF m n c).1 p - chi (arcF m n c).2 p) = -((most - R.2) * (chi start p - chi goal p))) (hnn : 0 ≤ at2 t c.1 c.2 + x) :
    Fit t cs (addAt R.1 c x) m n ∧ at2 (addAt R.1 c x) c.1 c.2 = at2 t c.1 c.2 + x ∧ (∀ i < m, ∀ j < n, (i, j) ≠ c → at2 (addAt R.1 c x) i j = at2 R.1 i j) ∧ 0 ≤ R.2 ∧ R.2 ≤ most ∧ (R.2 = 0 ∨ goal ∉ keysOf (waysF R.1 (stepsF m n (othersF cs c)) (m + n + 1) start)) := by
  have hb2 : ∀ k ∈ othersF cs c, k.1 < m ∧ k.2 < n := fun k hk => hb k (others_mem.mp hk).1
  have hS : StepsOk m n (stepsF m n (othersF cs c)) := steps_ok g.m1 g.n1 hb2 (Nat.le_trans (List.length_filter_le _ _) hl)
  obtain ⟨c1, c2⟩ := hb c hc
  obtain ⟨r1, r2, r3, r4, r5, r6, r7⟩ := push_ok hb2 hS hst (most.toNat + 1) most t g.rect g.nn h0 (Nat.lt_succ_self _) R hR
  have nc : c ∉ othersF cs c := fun z => (others_mem.mp z).2 rfl
  have rc : at2 R.1 c.1 c.2 = at2 t c.1 c.2 := r4 c.1 c1 c.2 c2 nc
  have hat : ∀ i < m, ∀ j < n, at2 (addAt R.1 c x) i j = at2 R.1 i j + (if (i, j) = c then x else 0) := fun i hi j hj => at2_add r1 c1 c2 x hi hj
  have ac : at2 (addAt R.1 c x) c.1 c.2 = at2 t c.1 c.2 + x := by rw [hat c.1 c1 c.2 c2, if_pos rfl, rc]
  have off : ∀ i < m, ∀ j < n, (i, j) ≠ c → at2 (addAt R.1 c x) i j = at2 R.1 i j := fun i hi j hj ne => by rw [hat i hi j hj, if_neg ne, Int.add_zero]
  have rect := addAt_len (c := c) (x := x) r1
  refine ⟨⟨rect, (nn_iff rect).mpr fun i hi j hj => ?_, (right_net rect g.m1 g.n1).mpr fun p hp => ?_, fun i hi j hj hn => ?_⟩, ac, off, r5, r6, r7⟩
  · by_cases e : (i, j) = c
    · subst e
      rw [ac]
      exact hnn
    · rw [off i hi j hj e]
      exact r2 i hi j hj
  · rw [net_addAt r1 c1 c2 x hp, r3 p hp, g.bal p hp, hx p]
    omega
  · have e : (i, j) ≠ c := fun z => hn (by rw [z]; exact hc)
    rw [off i hi j hj e]
    exact r4 i hi j hj fun z => hn (others_mem.mp z).1
/-- where the goal is not come to, a table that fits has no other way either -/
theorem end_opt {t u v : List (List Int)} {cs : List (Nat × Nat)} {m n : Nat} {c : Nat × Nat} {start goal : Pl} {w : List (List Int)} (m1 : 1 ≤ m) (n1 : 1 ≤ n) (hb : ∀ k ∈ cs, k.1 < m ∧ k.2 < n) (hl : cs.length ≤ 100) (hc : c ∈ cs) (hst : inPl m n start)
    (hu : Fit t cs u m n) (hv : Fit t cs v m n) (off : ∀ i < m, ∀ j < n, (i, j) ≠ c → at2 u i j = at2 w i j) (hg : goal ∉ keysOf (waysF w (stepsF m n (othersF cs c)) (m + n + 1) start)) :
    ∃ q : Pl → Int, q start = 1 ∧ q goal = 0 ∧ 0 ≤ (at2 v c.1 c.2 - at2 u c.1 c.2) * (q (arcF m n c).1 - q (arcF m n c).2) := by
  have hb2 : ∀ k ∈ othersF cs c, k.1 < m ∧ k.2 < n := fun k hk => hb k (others_mem.mp hk).1
  have hS : StepsOk m n (stepsF m n (othersF cs c)) := steps_ok m1 n1 hb2 (Nat.le_trans (List.length_filter_le _ _) hl)
  obtain ⟨w1, w2⟩ := ways_ok (u := w) hS hst
  obtain ⟨c1, c2⟩ := hb c hc
  have gu := fit_grid m1 n1 hu
  have gv := fit_grid m1 n1 hv
  have hs : start ∈ keysOf (waysF w (stepsF m n (othersF cs c)) (m + n + 1) start) := List.mem_map.mpr ⟨_, List.mem_of_getElem? w1.zero, rfl⟩
  generalize keysOf (waysF w (stepsF m n (othersF cs c)) (m + n + 1) start) = ks at hg hs w2
  refine ⟨fun p => if p ∈ ks then 1 else 0, if_pos hs, if_neg hg, ?_⟩
  have bal : ∀ p : Pl, p.2 < (if p.1 then m else n) → net m n (fun i j => at2 v i j - at2 u i j) p = 0 := fun p hp => by
    have a := gu.bal p hp
    have b := gv.bal p hp
    have e := net_sum m n (fun i j => at2 v i j - at2 u i j) (at2 u) p
    have f : net m n (fun i j => at2 v i j - at2 u i j + at2 u i j) p = net m n (at2 v) p := net_congr (fun i _ j _ => by omega) hp
    rw [f, a, b] at e
    omega
  refine cut_sign (d := fun i j => at2 v i j - at2 u i j) bal (fun p => if p ∈ ks then 1 else 0) c1 c2 fun i hi j hj ne => ?_
  by_cases hm : (i, j) ∈ cs
  · have ho : (i, j) ∈ othersF cs c := others_mem.mpr ⟨hm, ne⟩
    obtain ⟨s1, s2⟩ := stepsF_up (m := m) (n := n) ho
    have k1 : (arcF m n (i, j)).1 ∈ ks → (arcF m n (i, j)).2 ∈ ks := fun z => w2 _ z _ s1 (.inl rfl)
    have k2 : (arcF m n (i, j)).2 ∈ ks → 0 < at2 w i j → (arcF m n (i, j)).1 ∈ ks := fun z y => w2 _ z _ s2 (.inr y)
    show (at2 v i j - at2 u i j) * ((if (arcF m n (i, j)).1 ∈ ks then 1 else 0) - (if (arcF m n (i, j)).2 ∈ ks then 1 else 0)) ≤ 0
    by_cases z1 : (arcF m n (i, j)).1 ∈ ks
    · rw [if_pos z1, if_pos (k1 z1)]
      simp
    · rw [if_neg z1]
      by_cases z2 : (arcF m n (i, j)).2 ∈ ks
      · rw [if_pos z2]
        have a : ¬ 0 < at2 w i j := fun y => z1 (k2 z2 y)
        have b := gu.nn i hi j hj
        have d := gv.nn i hi j hj
        rw [off i hi j hj ne] at b ⊢
        omega
      · rw [if_neg z2]
        simp
  · rw [hv.2.2.2 i hi j hj hm, hu.2.2.2 i hi j hj hm, Int.sub_self, Int.zero_mul]
    exact Int.le_refl 0
theorem least_ok {t : List (List Int)} {cs : List (Nat × Nat)} {m n : Nat} {c : Nat × Nat} (g : Grid t m n) (hb : ∀ k ∈ cs, k.1 < m ∧ k.2 < n) (hl : cs.length ≤ 100) (hc : c ∈ cs) :
    Fit t cs (leastF m n cs t c) m n ∧ ∀ v, Fit t cs v m n → at2 (leastF m n cs t c) c.1 c.2 ≤ at2 v c.1 c.2 := by
  obtain ⟨c1, c2⟩ := hb c hc
  obtain ⟨p1, p2⟩ := arc_place c1 c2
  have h0 := g.nn c.1 c1 c.2 c2
  unfold leastF
  generalize hR : runF m n cs t c (arcF m n c).1 (arcF m n c).2 (at2 t c.1 c.2) = R
  have z := push_ok (cs := othersF cs c) (goal := (arcF m n c).2) (fun k hk => hb k (others_mem.mp hk).1) (steps_ok g.m1 g.n1 (fun k hk => hb k (others_mem.mp hk).1) (Nat.le_trans (List.length_filter_le _ _) hl)) p1 ((at2 t c.1 c.2).toNat + 1) (at2 t c.1 c.2) t g.rect g.nn h0 (Nat.lt_succ_self _) R hR.symm
  obtain ⟨f1, f2, f3, f4, f5, f6⟩ := end_fit (x := -(at2 t c.1 c.2 - R.2)) g hb hl hc p1 h0 R hR.symm (fun p => Int.neg_mul ..) (by have := z.2.2.2.2.1; omega)
  refine ⟨f1, fun v hv => ?_⟩
  rw [f2]
  have vn := (fit_grid g.m1 g.n1 hv).nn c.1 c1 c.2 c2
  rcases f6 with e | e
  · omega
  · obtain ⟨q, q1, q2, q3⟩ := end_opt g.m1 g.n1 hb hl hc p1 f1 hv f3 e
    rw [q1, q2, f2] at q3
    omega
theorem most_ok {t : List (List Int)} {cs : List (Nat × Nat)} {m n : Nat} {c : Nat × Nat} (g : Grid t m n) (hb : ∀ k ∈ cs, k.1 < m ∧ k.2 < n) (hl : cs.length ≤ 100) (hc : c ∈ cs) (hlast : (m - 1, n - 1) ∉ cs) :
    Fit t cs (mostF m n cs t c) m n ∧ ∀ v, Fit t cs v m n → at2 v c.1 c.2 ≤ at2 (mostF m n cs t c) c.1 c.2 := by
  obtain ⟨c1, c2⟩ := hb c hc
  obtain ⟨p1, p2⟩ := arc_place c1 c2
  have h0 := g.nn c.1 c1 c.2 c2
  have hr := g.room c1 c2
  unfold mostF
  generalize hR : runF m n cs t c (arcF m n c).2 (arcF m n c).1 (roomF m n t c) = R
  have z := push_ok (cs := othersF cs c) (goal := (arcF m n c).1) (fun k hk => hb k (others_mem.mp hk).1) (steps_ok g.m1 g.n1 (fun k hk => hb k (others_mem.mp hk).1) (Nat.le_trans (List.length_filter_le _ _) hl)) p2 ((roomF m n t c).toNat + 1) (roomF m n t c) t g.rect g.nn hr (Nat.lt_succ_self _) R hR.symm
  obtain ⟨f1, f2, f3, f4, f5, f6⟩ := end_fit (x := roomF m n t c - R.2) g hb hl hc p2 hr R hR.symm (fun p => by
    generalize roomF m n t c - R.2 = x
    rw [Int.mul_sub, Int.mul_sub]
    omega) (by have := z.2.2.2.2.2.1; omega)
  refine ⟨f1, fun v hv => ?_⟩
  rw [f2]
  have gv := fit_grid g.m1 g.n1 hv
  rcases f6 with e | e
  · have a := gv.le_last c1 c2
    have b := hv.2.2.2 (m - 1) (by have := g.m1; omega) (n - 1) (by have := g.n1; omega) hlast
    rw [b] at a
    unfold roomF
    omega
  · obtain ⟨q, q1, q2, q3⟩ := end_opt g.m1 g.n1 hb hl hc p2 f1 hv f3 e
    rw [q1, q2, f2] at q3
    omega
end K3
end N4_part
section N6_part
set_option Elab.async false
set_option linter.all false
set_option maxRecDepth 100000
set_option maxHeartbeats 1000000
set_option pp.deepTerms.threshold 5
open PySem PySem.Spec PyProof.Rows L2
/-- go on as far as nothing is open -/
local macro_rules | `(tactic| walk_at "go") => `(tactic| repeat (first
  | with_reducible refine w_seq ?_ | with_reducible refine w_next ?_ | with_reducible refine w_set ?_ | with_reducible refine w_drop ?_ | with_reducible refine w_ret ?_ | with_reducible refine w_retN ?_
  | with_reducible refine w_if ?_ | ((with_reducible refine' w_var ?hv ?_); (case hv => exact rfl)) | with_reducible refine w_c ?_ | with_reducible refine w_nil ?_ | with_reducible refine w_cons ?_ | with_reducible refine w_op ?_ | with_reducible refine w_un ?_
  | with_reducible refine w_test ?_ | with_reducible refine w_tB ?_ | with_reducible refine w_not ?_ | with_reducible refine w_and ?_ | with_reducible refine w_or ?_ | with_reducible refine w_bl ?_
  | with_reducible refine w_andV ?_ | with_reducible refine w_orV ?_ | with_reducible refine w_notV ?_ | with_reducible refine w_ifE ?_ | with_reducible refine w_chain ?_ | with_reducible refine w_i0 ?_
  | with_reducible refine w_call ?_ | with_reducible refine w_callS ?_ | with_reducible refine w_cB ?_ | with_reducible refine w_tup ?_ | with_reducible refine w_lst ?_ | with_reducible refine w_fldV ?_
  | with_reducible refine w_neF ?_ | with_reducible refine w_neT ?_ | with_reducible refine w_notN ?_ | with_reducible refine w_isN ?_ | with_reducible refine w_gname ?_ | with_reducible refine w_gsub ?_ | with_reducible refine w_asg ?_ | with_reducible refine w_sl ?_ | with_reducible refine w_noP ?_ | with_reducible refine w_int1 ?_ | with_reducible refine w_part ?_ | with_reducible refine w_yes ?_ | with_reducible refine w_nT ?_ | with_reducible refine w_nF ?_ | with_reducible refine w_iteT ?_ | with_reducible refine w_iteF ?_))
namespace K3
/-! ### ways depend on the cells that steps speak of alone -/
theorem visit_same {u w : List (List Int)} {p : Pl} : ∀ {ss : List Stp} {came : Came}, (∀ s ∈ ss, at2 u s.c.1 s.c.2 = at2 w s.c.1 s.c.2) → visit u p came ss = visit w p came ss
  | [], _, _ => rfl
  | s :: ss, came, h => by
    have e : visit1 u p came s = visit1 w p came s := by unfold visit1; rw [h s (List.mem_cons_self ..)]
    show visit u p (visit1 u p came s) ss = visit w p (visit1 w p came s) ss
    rw [e]
    exact visit_same fun s hs => h s (List.mem_cons_of_mem _ hs)
theorem bfs_same {u w : List (List Int)} {f : Pl → List Stp} (h : ∀ p, ∀ s ∈ f p, at2 u s.c.1 s.c.2 = at2 w s.c.1 s.c.2) : ∀ (k i : Nat) (came : Came), bfs u f k i came = bfs w f k i came
  | 0, _, _ => rfl
  | k + 1, i, came => by
    unfold bfs
    cases came[i]? with
    | none => rfl
    | some q =>
      show bfs u f k (i + 1) (visit u q.1 came (f q.1)) = bfs w f k (i + 1) (visit w q.1 came (f q.1))
      rw [visit_same (h q.1)]
      exact bfs_same h k (i + 1) _
theorem ways_same {u w : List (List Int)} {f : Pl → List Stp} (h : ∀ p, ∀ s ∈ f p, at2 u s.c.1 s.c.2 = at2 w s.c.1 s.c.2) (N : Nat) (st : Pl) : waysF u f N st = waysF w f N st := bfs_same h N 0 _
theorem ways_off {m n : Nat} {u w : List (List Int)} {cs : List (Nat × Nat)} {c : Nat × Nat} (hb : ∀ k ∈ cs, k.1 < m ∧ k.2 < n) (off : ∀ i < m, ∀ j < n, (i, j) ≠ c → at2 u i j = at2 w i j) (N : Nat) (st : Pl) : waysF u (stepsF m n (othersF cs c)) N st = waysF w (stepsF m n (othersF cs c)) N st :=
  ways_same (fun p s hs => by
    obtain ⟨h1, _⟩ := stepsF_mem hs
    obtain ⟨h2, h3⟩ := others_mem.mp h1
    exact off _ (hb _ h2).1 _ (hb _ h2).2 h3) N st
/-! ### where the flows end -/
theorem least_cut {t : List (List Int)} {cs : List (Nat × Nat)} {m n : Nat} {c : Nat × Nat} (g : Grid t m n) (hb : ∀ k ∈ cs, k.1 < m ∧ k.2 < n) (hl : cs.length ≤ 100) (hc : c ∈ cs) (pos : 0 < at2 (leastF m n cs t c) c.1 c.2) :
    (arcF m n c).2 ∉ keysOf (waysF (leastF m n cs t c) (stepsF m n (othersF cs c)) (m + n + 1) (arcF m n c).1) := by
  obtain ⟨c1, c2⟩ := hb c hc
  obtain ⟨p1, p2⟩ := arc_place c1 c2
  have h0 := g.nn c.1 c1 c.2 c2
  unfold leastF at pos ⊢
  generalize hR : runF m n cs t c (arcF m n c).1 (arcF m n c).2 (at2 t c.1 c.2) = R at pos ⊢
  have z := push_ok (cs := othersF cs c) (goal := (arcF m n c).2) (fun k hk => hb k (others_mem.mp hk).1) (steps_ok g.m1 g.n1 (fun k hk => hb k (others_mem.mp hk).1) (Nat.le_trans (List.length_filter_le _ _) hl)) p1 ((at2 t c.1 c.2).toNat + 1) (at2 t c.1 c.2) t g.rect g.nn h0 (Nat.lt_succ_self _) R hR.symm
  obtain ⟨_, f2, f3, _, _, f6⟩ := end_fit (x := -(at2 t c.1 c.2 - R.2)) g hb hl hc p1 h0 R hR.symm (fun p => Int.neg_mul ..) (by have := z.2.2.2.2.1; omega)
  rw [ways_off hb f3]
  rcases f6 with e | e
  · rw [f2] at pos
    omega
  · exact e
theorem more_way {t M : List (List Int)} {cs : List (Nat × Nat)} {m n : Nat} {c : Nat × Nat} (g : Grid t m n) (hM : Fit t cs M m n) (hb : ∀ k ∈ cs, k.1 < m ∧ k.2 < n) (hl : cs.length ≤ 100) (hc : c ∈ cs) (hk : (arcF m n c).1 ∈ keysOf (waysF M (stepsF m n (othersF cs c)) (m + n + 1) (arcF m n c).2)) :
    ∃ v, Fit t cs v m n ∧ at2 v c.1 c.2 = at2 M c.1 c.2 + 1 := by
  obtain ⟨c1, c2⟩ := hb c hc
  obtain ⟨p1, p2⟩ := arc_place c1 c2
  have gM := fit_grid g.m1 g.n1 hM
  have hb2 : ∀ k ∈ othersF cs c, k.1 < m ∧ k.2 < n := fun k hk => hb k (others_mem.mp hk).1
  have hS : StepsOk m n (stepsF m n (othersF cs c)) := steps_ok g.m1 g.n1 hb2 (Nat.le_trans (List.length_filter_le _ _) hl)
  have run : (runF m n cs M c (arcF m n c).2 (arcF m n c).1 1).2 = 0 := by
    unfold runF
    show (pushF _ _ _ _ 2 1 M).2 = 0
    unfold pushF
    rw [if_neg (by decide)]
    simp only
    rw [if_pos hk]
    obtain ⟨w1, _⟩ := ways_ok (u := M) hS p2
    obtain ⟨a1, a2⟩ := amount_pos (left := 1) (by decide) (lent_pos (path_res (wayF_path w1 hk)))
    generalize amountF 1 _ = a at a1 a2 ⊢
    unfold pushF
    rw [if_pos (by omega)]
    show 1 - a = 0
    omega
  have n0 := gM.nn c.1 c1 c.2 c2
  obtain ⟨f1, f2, _⟩ := end_fit (x := 1) (most := 1) gM hb hl hc p2 (by decide) _ rfl (fun p => by rw [run]; omega) (by omega)
  refine ⟨_, ⟨f1.1, f1.2.1, f1.2.2.1, fun i hi j hj hn => ?_⟩, f2⟩
  rw [f1.2.2.2 i hi j hj hn, hM.2.2.2 i hi j hj hn]
theorem most_cut {t : List (List Int)} {cs : List (Nat × Nat)} {m n : Nat} {c : Nat × Nat} (g : Grid t m n) (hb : ∀ k ∈ cs, k.1 < m ∧ k.2 < n) (hl : cs.length ≤ 100) (hc : c ∈ cs) (hlast : (m - 1, n - 1) ∉ cs) :
    (arcF m n c).1 ∉ keysOf (waysF (mostF m n cs t c) (stepsF m n (othersF cs c)) (m + n + 1) (arcF m n c).2) := fun z => by
  obtain ⟨f1, f2⟩ := most_ok g hb hl hc hlast
  obtain ⟨v, v1, v2⟩ := more_way g f1 hb hl hc z
  have := f2 v v1
  omega
/-! ### sums over cells -/
theorem sum_cells (f : Nat × Nat → Int) (n : Nat) : ∀ m : Nat, ((cellsOf m n).map f).sum = S m fun i => S n fun j => f (i, j)
  | 0 => rfl
  | m + 1 => by
    have e : cellsOf (m + 1) n = cellsOf m n ++ rowCells n m := by
      unfold cellsOf
      rw [List.range_succ, List.flatMap_append]
      simp
    rw [e, List.map_append, List.sum_append, sum_cells f n m, S_succ]
    congr 1
    unfold rowCells S
    rw [List.map_map]
    rfl
theorem filter_sum {α : Type} (p : α → Bool) (f : α → Int) : ∀ l : List α, ((l.filter p).map f).sum = (l.map fun x => if p x = true then f x else 0).sum
  | [] => rfl
  | x :: l => by
    rw [List.filter_cons]
    by_cases h : p x = true
    · rw [if_pos h, List.map_cons, List.map_cons, List.sum_cons, List.sum_cons, filter_sum p f l, if_pos h]
    · rw [if_neg h, List.map_cons, List.sum_cons, filter_sum p f l, if_neg h, Int.zero_add]
theorem SS_one {m n : Nat} {f : Nat → Nat → Int} {c : Nat × Nat} (c1 : c.1 < m) (c2 : c.2 < n) (h : ∀ i < m, ∀ j < n, (i, j) ≠ c → f i j ≤ 0) : S m (fun i => S n fun j => f i j) ≤ f c.1 c.2 := by
  have one := S_one (n := m) (k := c.1) (f := fun i => S n fun j => f i j) c1 fun i hi ne => S_le fun j hj => h i hi j hj fun e => ne (by rw [← e])
  have two := S_one (n := n) (k := c.2) (f := fun j => f c.1 j) c2 fun j hj ne => h c.1 c1 j hj fun e => ne (by rw [← e])
  exact Int.le_trans one two
theorem SS_neg (m n : Nat) (f : Nat → Nat → Int) : S m (fun i => S n fun j => -(f i j)) = -(S m fun i => S n fun j => f i j) := by
  have h : ∀ (k : Nat) (f : Nat → Int), S k (fun i => -(f i)) = -(S k f) := fun k f => by
    have := S_mul k (-1) f
    rw [Int.neg_one_mul] at this
    rw [← this]
    exact S_congr fun i _ => (Int.neg_one_mul _).symm
  rw [← h m]
  exact S_congr fun i _ => h n _
theorem SS_add (m n : Nat) (f g : Nat → Nat → Int) : S m (fun i => S n fun j => f i j + g i j) = (S m fun i => S n fun j => f i j) + S m fun i => S n fun j => g i j := by
  rw [← S_add]
  exact S_congr fun i _ => S_add n _ _
theorem SS_congr {m n : Nat} {f g : Nat → Nat → Int} (h : ∀ i < m, ∀ j < n, f i j = g i j) : S m (fun i => S n fun j => f i j) = S m fun i => S n fun j => g i j := S_congr fun i hi => S_congr fun j hj => h i hi j hj
/-! ### fences -/
def comesF (m n : Nat) (F : Pl → Bool) (c : Nat × Nat) : Bool := F (arcF m n c).2 && !F (arcF m n c).1
def goesF (m n : Nat) (F : Pl → Bool) (c : Nat × Nat) : Bool := F (arcF m n c).1 && !F (arcF m n c).2
def comeL (m n : Nat) (F : Pl → Bool) : List (Nat × Nat) := (cellsOf m n).filter (comesF m n F)
def goL (m n : Nat) (F : Pl → Bool) : List (Nat × Nat) := (cellsOf m n).filter (goesF m n F)
def shownS (t : List (List Int)) (hs l : List (Nat × Nat)) : Int := ((l.filter fun k => !decide (k ∈ hs)).map fun k => at2 t k.1 k.2).sum
def restF (t : List (List Int)) (hs : List (Nat × Nat)) (m n : Nat) (F : Pl → Bool) : Int := shownS t hs (goL m n F) - shownS t hs (comeL m n F)
def wF (m n : Nat) (F : Pl → Bool) (c : Nat × Nat) : Int := (if F (arcF m n c).1 = true then 1 else 0) - (if F (arcF m n c).2 = true then 1 else 0)
theorem w_comes {m n : Nat} {F : Pl → Bool} {c : Nat × Nat} : wF m n F c = (if goesF m n F c = true then 1 else 0) - (if comesF m n F c = true then 1 else 0) := by
  unfold wF goesF comesF
  cases F (arcF m n c).1 <;> cases F (arcF m n c).2 <;> rfl
theorem rest_eq (t : List (List Int)) (hs : List (Nat × Nat)) (m n : Nat) (F : Pl → Bool) : restF t hs m n F = S m fun i => S n fun j => if (i, j) ∈ hs then 0 else at2 t i j * wF m n F (i, j) := by
  have one : ∀ p : Nat × Nat → Bool, shownS t hs ((cellsOf m n).filter p) = S m fun i => S n fun j => if p (i, j) = true then (if (i, j) ∈ hs then 0 else at2 t i j) else 0 := fun p => by
    unfold shownS
    rw [List.filter_filter, filter_sum, sum_cells]
    refine SS_congr fun i hi j hj => ?_
    by_cases h1 : p (i, j) = true <;> by_cases h2 : (i, j) ∈ hs <;> simp [h1, h2]
  unfold restF goL comeL
  rw [one, one, Int.sub_eq_add_neg, ← SS_neg, ← SS_add]
  refine SS_congr fun i hi j hj => ?_
  rw [w_comes]
  by_cases h2 : (i, j) ∈ hs
  · simp [h2]
  · by_cases h1 : goesF m n F (i, j) = true <;> by_cases h3 : comesF m n F (i, j) = true <;> simp [h1, h2, h3]
    omega
/-- what a fence shows by any table that fits -/
theorem fit_rest {t u : List (List Int)} {hs : List (Nat × Nat)} {m n : Nat} (m1 : 1 ≤ m) (n1 : 1 ≤ n) (hu : Fit t hs u m n) (F : Pl → Bool) : restF t hs m n F = S m fun i => S n fun j => if (i, j) ∈ hs then -(at2 u i j * wF m n F (i, j)) else 0 := by
  have g := fit_grid m1 n1 hu
  have z := cut_zero (d := at2 u) g.bal (fun p => if F p = true then 1 else 0)
  rw [rest_eq]
  have e : (S m fun i => S n fun j => at2 u i j * wF m n F (i, j)) = (S m fun i => S n fun j => if (i, j) ∈ hs then 0 else at2 t i j * wF m n F (i, j)) + S m fun i => S n fun j => if (i, j) ∈ hs then at2 u i j * wF m n F (i, j) else 0 := by
    rw [← SS_add]
    refine SS_congr fun i hi j hj => ?_
    by_cases h : (i, j) ∈ hs
    · rw [if_pos h, if_pos h, Int.zero_add]
    · rw [if_neg h, if_neg h, Int.add_zero, hu.2.2.2 i hi j hj h]
  have z' : (S m fun i => S n fun j => at2 u i j * wF m n F (i, j)) = 0 := z
  have e2 : (S m fun i => S n fun j => if (i, j) ∈ hs then -(at2 u i j * wF m n F (i, j)) else 0) = -(S m fun i => S n fun j => if (i, j) ∈ hs then at2 u i j * wF m n F (i, j) else 0) := by
    rw [← SS_neg]
    refine SS_congr fun i hi j hj => ?_
    by_cases h : (i, j) ∈ hs
    · rw [if_pos h, if_pos h]
    · rw [if_neg h, if_neg h, Int.neg_zero]
  omega
theorem rest_low {t u : List (List Int)} {hs : List (Nat × Nat)} {m n : Nat} {c : Nat × Nat} {F : Pl → Bool} (m1 : 1 ≤ m) (n1 : 1 ≤ n) (hu : Fit t hs u m n) (c1 : c.1 < m) (c2 : c.2 < n) (hc : c ∈ hs) (cc : comesF m n F c = true) (ho : ∀ k ∈ hs, k ≠ c → k.1 < m → k.2 < n → comesF m n F k = false) : restF t hs m n F ≤ at2 u c.1 c.2 := by
  have g := fit_grid m1 n1 hu
  rw [fit_rest m1 n1 hu]
  refine Int.le_trans (SS_one c1 c2 fun i hi j hj ne => ?_) ?_
  · by_cases h : (i, j) ∈ hs
    · rw [if_pos h, w_comes, ho _ h ne hi hj]
      have := g.nn i hi j hj
      by_cases k : goesF m n F (i, j) = true
      · simp [k]; omega
      · simp [k]
    · rw [if_neg h]
      exact Int.le_refl 0
  · have g0 : goesF m n F c = false := by
      unfold comesF at cc
      unfold goesF
      revert cc
      cases F (arcF m n c).1 <;> cases F (arcF m n c).2 <;> decide
    rw [if_pos (show (c.1, c.2) ∈ hs from hc), show wF m n F (c.1, c.2) = wF m n F c from rfl, w_comes, cc, g0]
    simp
theorem rest_high {t u : List (List Int)} {hs : List (Nat × Nat)} {m n : Nat} {c : Nat × Nat} {F : Pl → Bool} (m1 : 1 ≤ m) (n1 : 1 ≤ n) (hu : Fit t hs u m n) (c1 : c.1 < m) (c2 : c.2 < n) (hc : c ∈ hs) (cc : comesF m n F c = true) (ho : ∀ k ∈ hs, k.1 < m → k.2 < n → goesF m n F k = false) : at2 u c.1 c.2 ≤ restF t hs m n F := by
  have g := fit_grid m1 n1 hu
  have e := fit_rest m1 n1 hu F
  have h1 : S m (fun i => S n fun j => -(if (i, j) ∈ hs then -(at2 u i j * wF m n F (i, j)) else 0)) ≤ -(at2 u c.1 c.2) := by
    refine Int.le_trans (SS_one c1 c2 fun i hi j hj ne => ?_) ?_
    · by_cases h : (i, j) ∈ hs
      · rw [if_pos h, w_comes, ho _ h hi hj]
        have := g.nn i hi j hj
        by_cases k : comesF m n F (i, j) = true
        · simp [k]; omega
        · simp [k]
      · rw [if_neg h]
        decide
    · rw [if_pos (show (c.1, c.2) ∈ hs from hc), show wF m n F (c.1, c.2) = wF m n F c from rfl, w_comes, cc, ho c hc c1 c2]
      simp
  rw [SS_neg, ← e] at h1
  omega
/-- .. and where the hidden ones that go the other way hold nothing, the very number -/
theorem rest_is {t u : List (List Int)} {hs : List (Nat × Nat)} {m n : Nat} {c : Nat × Nat} {F : Pl → Bool} (m1 : 1 ≤ m) (n1 : 1 ≤ n) (hu : Fit t hs u m n) (c1 : c.1 < m) (c2 : c.2 < n) (hc : c ∈ hs) (cc : comesF m n F c = true) (ho : ∀ k ∈ hs, k ≠ c → k.1 < m → k.2 < n → wF m n F k ≠ 0 → at2 u k.1 k.2 = 0) : restF t hs m n F = at2 u c.1 c.2 := by
  have e := fit_rest m1 n1 hu F
  have g0 : goesF m n F c = false := by
    unfold comesF at cc
    unfold goesF
    revert cc
    cases F (arcF m n c).1 <;> cases F (arcF m n c).2 <;> decide
  have z : ∀ i < m, ∀ j < n, (i, j) ≠ c → (if (i, j) ∈ hs then -(at2 u i j * wF m n F (i, j)) else 0) = 0 := fun i hi j hj ne => by
    by_cases h : (i, j) ∈ hs
    · rw [if_pos h]
      by_cases k : wF m n F (i, j) = 0
      · rw [k, Int.mul_zero, Int.neg_zero]
      · have : at2 u i j = 0 := ho _ h ne hi hj k
        rw [this, Int.zero_mul, Int.neg_zero]
    · exact if_neg h
  have at_c : (if (c.1, c.2) ∈ hs then -(at2 u c.1 c.2 * wF m n F (c.1, c.2)) else 0) = at2 u c.1 c.2 := by
    rw [if_pos (show (c.1, c.2) ∈ hs from hc), show wF m n F (c.1, c.2) = wF m n F c from rfl, w_comes, cc, g0]
    simp
  have a := SS_one (f := fun i j => if (i, j) ∈ hs then -(at2 u i j * wF m n F (i, j)) else 0) c1 c2 fun i hi j hj ne => Int.le_of_eq (z i hi j hj ne)
  have b := SS_one (f := fun i j => -(if (i, j) ∈ hs then -(at2 u i j * wF m n F (i, j)) else 0)) c1 c2 fun i hi j hj ne => by
    show -(if (i, j) ∈ hs then -(at2 u i j * wF m n F (i, j)) else 0) ≤ 0
    rw [z i hi j hj ne]
    decide
  rw [SS_neg] at b
  rw [← e, at_c] at a
  rw [← e, at_c] at b
  omega
end K3
end N6_part
section N7_part
set_option Elab.async false
set_option linter.all false
set_option maxRecDepth 100000
set_option maxHeartbeats 1000000
set_option pp.deepTerms.threshold 5
open PySem PySem.Spec PyProof.Rows L2
/-- go on as far as nothing is open -/
local macro_rules | `(tactic| walk_at "go") => `(tactic| repeat (first
  | with_reducible refine w_seq ?_ | with_reducible refine w_next ?_ | with_reducible refine w_set ?_ | with_reducible refine w_drop ?_ | with_reducible refine w_ret ?_ | with_reducible refine w_retN ?_
  | with_reducible refine w_if ?_ | ((with_reducible refine' w_var ?hv ?_); (case hv => exact rfl)) | with_reducible refine w_c ?_ | with_reducible refine w_nil ?_ | with_reducible refine w_cons ?_ | with_reducible refine w_op ?_ | with_reducible refine w_un ?_
  | with_reducible refine w_test ?_ | with_reducible refine w_tB ?_ | with_reducible refine w_not ?_ | with_reducible refine w_and ?_ | with_reducible refine w_or ?_ | with_reducible refine w_bl ?_
  | with_reducible refine w_andV ?_ | with_reducible refine w_orV ?_ | with_reducible refine w_notV ?_ | with_reducible refine w_ifE ?_ | with_reducible refine w_chain ?_ | with_reducible refine w_i0 ?_
  | with_reducible refine w_call ?_ | with_reducible refine w_callS ?_ | with_reducible refine w_cB ?_ | with_reducible refine w_tup ?_ | with_reducible refine w_lst ?_ | with_reducible refine w_fldV ?_
  | with_reducible refine w_neF ?_ | with_reducible refine w_neT ?_ | with_reducible refine w_notN ?_ | with_reducible refine w_isN ?_ | with_reducible refine w_gname ?_ | with_reducible refine w_gsub ?_ | with_reducible refine w_asg ?_ | with_reducible refine w_sl ?_ | with_reducible refine w_noP ?_ | with_reducible refine w_int1 ?_ | with_reducible refine w_part ?_ | with_reducible refine w_yes ?_ | with_reducible refine w_nT ?_ | with_reducible refine w_nF ?_ | with_reducible refine w_iteT ?_ | with_reducible refine w_iteF ?_))
namespace K3
abbrev stF (m n : Nat) (cs : List (Nat × Nat)) (c : Nat × Nat) := stepsF m n (othersF cs c)
def firstF (m n : Nat) (cs : List (Nat × Nat)) (t : List (List Int)) (c : Nat × Nat) : Pl → Bool := fun p => decide (0 < at2 (leastF m n cs t c) c.1 c.2) && !decide (p ∈ keysOf (waysF (leastF m n cs t c) (stF m n cs c) (m + n + 1) (arcF m n c).1))
def secondF (m n : Nat) (cs : List (Nat × Nat)) (t : List (List Int)) (c : Nat × Nat) : Pl → Bool := fun p => decide (p ∈ keysOf (waysF (mostF m n cs t c) (stF m n cs c) (m + n + 1) (arcF m n c).2))
def boundF (t : List (List Int)) (hs : List (Nat × Nat)) (m n : Nat) (F : Pl → Bool) (c : Nat × Nat) : Option Int × Option Int :=
  if comesF m n F c = true then (if ((comeL m n F).any fun k => decide (k ≠ c) && decide (k ∈ hs)) = true then none else some (restF t hs m n F), if ((goL m n F).any fun k => decide (k ∈ hs)) = true then none else some (restF t hs m n F)) else (none, none)
theorem come_mem {m n : Nat} {F : Pl → Bool} {k : Nat × Nat} : k ∈ comeL m n F ↔ (k.1 < m ∧ k.2 < n) ∧ comesF m n F k = true := by
  unfold comeL
  rw [List.mem_filter, cells_mem]
theorem go_mem {m n : Nat} {F : Pl → Bool} {k : Nat × Nat} : k ∈ goL m n F ↔ (k.1 < m ∧ k.2 < n) ∧ goesF m n F k = true := by
  unfold goL
  rw [List.mem_filter, cells_mem]
section
variable {t : List (List Int)} {cs : List (Nat × Nat)} {m n : Nat} {c : Nat × Nat}
theorem start_in (g : Grid t m n) (hb : ∀ k ∈ cs, k.1 < m ∧ k.2 < n) (hl : cs.length ≤ 100) (u : List (List Int)) {p : Pl} (hp : inPl m n p) :
    p ∈ keysOf (waysF u (stF m n cs c) (m + n + 1) p) ∧ ∀ x ∈ keysOf (waysF u (stF m n cs c) (m + n + 1) p), ∀ s ∈ stF m n cs c x, res u s → s.to ∈ keysOf (waysF u (stF m n cs c) (m + n + 1) p) := by
  obtain ⟨w1, w2⟩ := ways_ok (u := u) (steps_ok g.m1 g.n1 (fun k hk => hb k (others_mem.mp hk).1) (Nat.le_trans (List.length_filter_le _ _) hl) : StepsOk m n (stF m n cs c)) hp
  exact ⟨List.mem_map.mpr ⟨_, List.mem_of_getElem? w1.zero, rfl⟩, w2⟩
/-- hidden ways: up always, down where there is something -/
theorem ways_arc (g : Grid t m n) (hb : ∀ k ∈ cs, k.1 < m ∧ k.2 < n) (hl : cs.length ≤ 100) (u : List (List Int)) {p : Pl} (hp : inPl m n p) {k : Nat × Nat} (hk : k ∈ cs) (ne : k ≠ c) :
    ((arcF m n k).1 ∈ keysOf (waysF u (stF m n cs c) (m + n + 1) p) → (arcF m n k).2 ∈ keysOf (waysF u (stF m n cs c) (m + n + 1) p)) ∧
    ((arcF m n k).2 ∈ keysOf (waysF u (stF m n cs c) (m + n + 1) p) → 0 < at2 u k.1 k.2 → (arcF m n k).1 ∈ keysOf (waysF u (stF m n cs c) (m + n + 1) p)) := by
  obtain ⟨_, w⟩ := start_in g hb hl u hp (c := c)
  obtain ⟨s1, s2⟩ := stepsF_up (m := m) (n := n) (others_mem.mpr ⟨hk, ne⟩)
  exact ⟨fun z => w _ z _ s1 (.inl rfl), fun z y => w _ z _ s2 (.inr y)⟩
theorem first_ok (g : Grid t m n) (hb : ∀ k ∈ cs, k.1 < m ∧ k.2 < n) (hl : cs.length ≤ 100) (hc : c ∈ cs) (pos : 0 < at2 (leastF m n cs t c) c.1 c.2) :
    comesF m n (firstF m n cs t c) c = true ∧ (∀ k ∈ cs, k ≠ c → comesF m n (firstF m n cs t c) k = false) ∧ restF t cs m n (firstF m n cs t c) = at2 (leastF m n cs t c) c.1 c.2 := by
  obtain ⟨c1, c2⟩ := hb c hc
  obtain ⟨p1, p2⟩ := arc_place c1 c2
  obtain ⟨lf, _⟩ := least_ok g hb hl hc
  have cut := least_cut g hb hl hc pos
  have st := (start_in g hb hl (leastF m n cs t c) p1 (c := c)).1
  have fe : ∀ p, firstF m n cs t c p = !decide (p ∈ keysOf (waysF (leastF m n cs t c) (stF m n cs c) (m + n + 1) (arcF m n c).1)) := fun p => by
    unfold firstF
    rw [decide_eq_true pos, Bool.true_and]
  have gL := fit_grid g.m1 g.n1 lf
  have ar := fun k hk ne => ways_arc g hb hl (leastF m n cs t c) p1 (k := k) (c := c) hk ne
  have co : comesF m n (firstF m n cs t c) c = true := by
    unfold comesF
    rw [fe, fe, decide_eq_true st, decide_eq_false cut]
    rfl
  have oth : ∀ k ∈ cs, k ≠ c → comesF m n (firstF m n cs t c) k = false := fun k hk ne => by
    have := (ar k hk ne).1
    unfold comesF
    rw [fe, fe]
    by_cases z : (arcF m n k).1 ∈ keysOf (waysF (leastF m n cs t c) (stF m n cs c) (m + n + 1) (arcF m n c).1)
    · rw [decide_eq_true z, decide_eq_true (this z)]
      rfl
    · rw [decide_eq_false z]
      simp
  refine ⟨co, oth, rest_is g.m1 g.n1 lf c1 c2 hc co fun k hk ne k1 k2 hw => ?_⟩
  have a2 := (ar k hk ne).2
  have n0 := gL.nn k.1 k1 k.2 k2
  by_cases z : 0 < at2 (leastF m n cs t c) k.1 k.2
  · refine absurd ?_ hw
    unfold wF
    rw [fe, fe]
    by_cases z1 : (arcF m n k).1 ∈ keysOf (waysF (leastF m n cs t c) (stF m n cs c) (m + n + 1) (arcF m n c).1)
    · rw [decide_eq_true z1, decide_eq_true ((ar k hk ne).1 z1)]
      rfl
    · rw [decide_eq_false z1, decide_eq_false (fun z2 => z1 (a2 z2 z))]
      rfl
  · omega
theorem second_ok (g : Grid t m n) (hb : ∀ k ∈ cs, k.1 < m ∧ k.2 < n) (hl : cs.length ≤ 100) (hc : c ∈ cs) (hlast : (m - 1, n - 1) ∉ cs) :
    comesF m n (secondF m n cs t c) c = true ∧ (∀ k ∈ cs, goesF m n (secondF m n cs t c) k = false) ∧ restF t cs m n (secondF m n cs t c) = at2 (mostF m n cs t c) c.1 c.2 := by
  obtain ⟨c1, c2⟩ := hb c hc
  obtain ⟨p1, p2⟩ := arc_place c1 c2
  obtain ⟨mf, _⟩ := most_ok g hb hl hc hlast
  have cut := most_cut g hb hl hc hlast
  have st := (start_in g hb hl (mostF m n cs t c) p2 (c := c)).1
  have fe : ∀ p, secondF m n cs t c p = decide (p ∈ keysOf (waysF (mostF m n cs t c) (stF m n cs c) (m + n + 1) (arcF m n c).2)) := fun p => rfl
  have gM := fit_grid g.m1 g.n1 mf
  have ar := fun k hk ne => ways_arc g hb hl (mostF m n cs t c) p2 (k := k) (c := c) hk ne
  have co : comesF m n (secondF m n cs t c) c = true := by
    unfold comesF
    rw [fe, fe, decide_eq_true st, decide_eq_false cut]
    rfl
  have oth : ∀ k ∈ cs, goesF m n (secondF m n cs t c) k = false := fun k hk => by
    unfold goesF
    rw [fe, fe]
    by_cases ne : k = c
    · subst ne
      rw [decide_eq_false cut]
      rfl
    · by_cases z : (arcF m n k).1 ∈ keysOf (waysF (mostF m n cs t c) (stF m n cs c) (m + n + 1) (arcF m n c).2)
      · rw [decide_eq_true z, decide_eq_true ((ar k hk ne).1 z)]
        rfl
      · rw [decide_eq_false z]
        rfl
  refine ⟨co, oth, rest_is g.m1 g.n1 mf c1 c2 hc co fun k hk ne k1 k2 hw => ?_⟩
  have n0 := gM.nn k.1 k1 k.2 k2
  by_cases z : 0 < at2 (mostF m n cs t c) k.1 k.2
  · refine absurd ?_ hw
    unfold wF
    rw [fe, fe]
    by_cases z1 : (arcF m n k).1 ∈ keysOf (waysF (mostF m n cs t c) (stF m n cs c) (m + n + 1) (arcF m n c).2)
    · rw [decide_eq_true z1, decide_eq_true ((ar k hk ne).1 z1)]
      rfl
    · rw [decide_eq_false z1, decide_eq_false (fun z2 => z1 ((ar k hk ne).2 z2 z))]
      rfl
  · omega
theorem any_come {hs : List (Nat × Nat)} {F : Pl → Bool} : ((comeL m n F).any fun k => decide (k ≠ c) && decide (k ∈ hs)) = true ↔ ∃ k, k ∈ comeL m n F ∧ k ≠ c ∧ k ∈ hs := by
  rw [List.any_eq_true]
  simp
theorem any_go {hs : List (Nat × Nat)} {F : Pl → Bool} : ((goL m n F).any fun k => decide (k ∈ hs)) = true ↔ ∃ k, k ∈ goL m n F ∧ k ∈ hs := by
  rw [List.any_eq_true]
  simp
theorem bound_first (g : Grid t m n) (hb : ∀ k ∈ cs, k.1 < m ∧ k.2 < n) (hl : cs.length ≤ 100) (hc : c ∈ cs) :
    (boundF t cs m n (firstF m n cs t c) c).1 = if 0 < at2 (leastF m n cs t c) c.1 c.2 then some (at2 (leastF m n cs t c) c.1 c.2) else none := by
  by_cases pos : 0 < at2 (leastF m n cs t c) c.1 c.2
  · obtain ⟨a, b, d⟩ := first_ok g hb hl hc pos
    unfold boundF
    rw [if_pos a, if_pos pos]
    show (if _ then none else some (restF t cs m n (firstF m n cs t c))) = _
    rw [if_neg (fun z => ?_), d]
    obtain ⟨k, h1, h2, h3⟩ := any_come.mp z
    have := (come_mem.mp h1).2
    rw [b k h3 h2] at this
    cases this
  · unfold boundF
    have : comesF m n (firstF m n cs t c) c = false := by
      unfold comesF firstF
      rw [decide_eq_false pos]
      rfl
    rw [this, if_neg pos]
    rfl
theorem bound_second (g : Grid t m n) (hb : ∀ k ∈ cs, k.1 < m ∧ k.2 < n) (hl : cs.length ≤ 100) (hc : c ∈ cs) (hlast : (m - 1, n - 1) ∉ cs) :
    (boundF t cs m n (secondF m n cs t c) c).2 = some (at2 (mostF m n cs t c) c.1 c.2) := by
  obtain ⟨a, b, d⟩ := second_ok g hb hl hc hlast
  unfold boundF
  rw [if_pos a]
  show (if _ then none else some (restF t cs m n (secondF m n cs t c))) = _
  rw [if_neg (fun z => ?_), d]
  obtain ⟨k, h1, h2⟩ := any_go.mp z
  have := (go_mem.mp h1).2
  rw [b k h2] at this
  cases this
theorem bound_low {F : Pl → Bool} {x : Int} (g : Grid t m n) (hb : ∀ k ∈ cs, k.1 < m ∧ k.2 < n) (hc : c ∈ cs) (h : (boundF t cs m n F c).1 = some x) {u : List (List Int)} (hu : Fit t cs u m n) : x ≤ at2 u c.1 c.2 := by
  obtain ⟨c1, c2⟩ := hb c hc
  unfold boundF at h
  by_cases a : comesF m n F c = true
  · rw [if_pos a] at h
    have h : (if _ then none else some (restF t cs m n F)) = some x := h
    by_cases z : ((comeL m n F).any fun k => decide (k ≠ c) && decide (k ∈ cs)) = true
    · rw [if_pos z] at h
      cases h
    · rw [if_neg z] at h
      cases h
      refine rest_low g.m1 g.n1 hu c1 c2 hc a fun k hk ne k1 k2 => ?_
      by_cases y : comesF m n F k = true
      · exact absurd (any_come.mpr ⟨k, come_mem.mpr ⟨⟨k1, k2⟩, y⟩, ne, hk⟩) z
      · exact Bool.eq_false_iff.mpr y
  · rw [if_neg a] at h
    cases h
theorem bound_high {F : Pl → Bool} {x : Int} (g : Grid t m n) (hb : ∀ k ∈ cs, k.1 < m ∧ k.2 < n) (hc : c ∈ cs) (h : (boundF t cs m n F c).2 = some x) {u : List (List Int)} (hu : Fit t cs u m n) : at2 u c.1 c.2 ≤ x := by
  obtain ⟨c1, c2⟩ := hb c hc
  unfold boundF at h
  by_cases a : comesF m n F c = true
  · rw [if_pos a] at h
    have h : (if _ then none else some (restF t cs m n F)) = some x := h
    by_cases z : ((goL m n F).any fun k => decide (k ∈ cs)) = true
    · rw [if_pos z] at h
      cases h
    · rw [if_neg z] at h
      cases h
      refine rest_high g.m1 g.n1 hu c1 c2 hc a fun k hk k1 k2 => ?_
      by_cases y : goesF m n F k = true
      · exact absurd (any_go.mpr ⟨k, go_mem.mpr ⟨⟨k1, k2⟩, y⟩, hk⟩) z
      · exact Bool.eq_false_iff.mpr y
  · rw [if_neg a] at h
    cases h
end
/-! ### fences by their rows and columns -/
def inF (R C : List Int) (p : Pl) : Bool := decide ((p.2 : Int) ∈ if p.1 then R else C)
def rowsOf (m : Nat) (F : Pl → Bool) : List Int := ((List.range m).filter fun i => F (true, i)).map fun (i : Nat) => (i : Int)
def colsOf (n : Nat) (F : Pl → Bool) : List Int := ((List.range n).filter fun i => F (false, i)).map fun (i : Nat) => (i : Int)
theorem in_of {m n : Nat} {F : Pl → Bool} {p : Pl} (hp : inPl m n p) : inF (rowsOf m F) (colsOf n F) p = F p := by
  obtain ⟨k, i⟩ := p
  unfold inF
  have key : ∀ (N : Nat) (G : Nat → Bool), i < N → decide ((i : Int) ∈ ((List.range N).filter G).map fun (i : Nat) => (i : Int)) = G i := fun N G hi => by
    by_cases z : G i = true
    · rw [z]
      exact decide_eq_true (List.mem_map.mpr ⟨i, List.mem_filter.mpr ⟨List.mem_range.mpr hi, z⟩, rfl⟩)
    · rw [Bool.eq_false_iff.mpr z]
      refine decide_eq_false fun y => ?_
      obtain ⟨j, hj, e⟩ := List.mem_map.mp y
      have : j = i := by omega
      subst this
      exact z (List.mem_filter.mp hj).2
  cases k with
  | true => exact key m (fun i => F (true, i)) hp
  | false => exact key n (fun i => F (false, i)) hp
theorem come_congr {m n : Nat} {F G : Pl → Bool} (h : ∀ p, inPl m n p → F p = G p) : (∀ k : Nat × Nat, k.1 < m → k.2 < n → comesF m n F k = comesF m n G k ∧ goesF m n F k = goesF m n G k) ∧ comeL m n F = comeL m n G ∧ goL m n F = goL m n G := by
  have one : ∀ k : Nat × Nat, k.1 < m → k.2 < n → comesF m n F k = comesF m n G k ∧ goesF m n F k = goesF m n G k := fun k k1 k2 => by
    obtain ⟨p1, p2⟩ := arc_place k1 k2
    unfold comesF goesF
    rw [h _ p1, h _ p2]
    exact ⟨rfl, rfl⟩
  refine ⟨one, ?_, ?_⟩
  · exact List.filter_congr fun k hk => (one k (cells_mem.mp hk).1 (cells_mem.mp hk).2).1
  · exact List.filter_congr fun k hk => (one k (cells_mem.mp hk).1 (cells_mem.mp hk).2).2
theorem bound_congr {t : List (List Int)} {hs : List (Nat × Nat)} {m n : Nat} {c : Nat × Nat} {F G : Pl → Bool} (h : ∀ p, inPl m n p → F p = G p) (c1 : c.1 < m) (c2 : c.2 < n) : boundF t hs m n F c = boundF t hs m n G c := by
  obtain ⟨a, b, d⟩ := come_congr h
  unfold boundF restF
  rw [(a c c1 c2).1, b, d]
theorem bound_mem {t : List (List Int)} {hs cs : List (Nat × Nat)} {m n : Nat} {c : Nat × Nat} {F : Pl → Bool} (h : ∀ k, k ∈ hs ↔ k ∈ cs) : boundF t hs m n F c = boundF t cs m n F c := by
  unfold boundF restF shownS
  simp only [h]
end K3
end N7_part
section E3_part
set_option Elab.async false
set_option linter.all false
set_option maxRecDepth 100000
set_option maxHeartbeats 1000000
set_option pp.deepTerms.threshold 5
open PySem PySem.Spec PyProof.Rows L2
/-- go on as far as nothing is open -/
local macro_rules | `(tactic| walk_at "go") => `(tactic| repeat (first
  | with_reducible refine w_seq ?_ | with_reducible refine w_next ?_ | with_reducible refine w_set ?_ | with_reducible refine w_drop ?_ | with_reducible refine w_ret ?_ | with_reducible refine w_retN ?_
  | with_reducible refine w_if ?_ | ((with_reducible refine' w_var ?hv ?_); (case hv => exact rfl)) | with_reducible refine w_c ?_ | with_reducible refine w_nil ?_ | with_reducible refine w_cons ?_ | with_reducible refine w_op ?_ | with_reducible refine w_un ?_
  | with_reducible refine w_test ?_ | with_reducible refine w_tB ?_ | with_reducible refine w_not ?_ | with_reducible refine w_and ?_ | with_reducible refine w_or ?_ | with_reducible refine w_bl ?_
  | with_reducible refine w_andV ?_ | with_reducible refine w_orV ?_ | with_reducible refine w_notV ?_ | with_reducible refine w_ifE ?_ | with_reducible refine w_chain ?_ | with_reducible refine w_i0 ?_
  | with_reducible refine w_call ?_ | with_reducible refine w_callS ?_ | with_reducible refine w_cB ?_ | with_reducible refine w_tup ?_ | with_reducible refine w_lst ?_ | with_reducible refine w_fldV ?_
  | with_reducible refine w_neF ?_ | with_reducible refine w_neT ?_ | with_reducible refine w_notN ?_ | with_reducible refine w_isN ?_ | with_reducible refine w_gname ?_ | with_reducible refine w_gsub ?_ | with_reducible refine w_asg ?_ | with_reducible refine w_sl ?_ | with_reducible refine w_noP ?_ | with_reducible refine w_int1 ?_ | with_reducible refine w_part ?_ | with_reducible refine w_yes ?_ | with_reducible refine w_nT ?_ | with_reducible refine w_nF ?_ | with_reducible refine w_iteT ?_ | with_reducible refine w_iteF ?_))
namespace L2
open PySem PySem.Spec PyProof.Rows
/-- a comprehension over items, some kept, each giving something of which something is known -/
theorem items_gen {K : PySem.W.Frag} {α β : Type} {F : Hp → V → α → Prop} {G : Hp → V → β → Prop} (mF : ∀ {H H' : Hp} {v : V} {y : α}, Same H H' → F H v y → F H' v y) (mG : ∀ {H H' : Hp} {v : V} {y : β}, K3.Tk H H' → G H v y → G H' v y)
    {a D : Addr} {xs : List V} {ys : List α} {g : TG} {tt : TT} {te : TE} {vs : List Nat} {σ : L2.St} {H1 : Hp} {Qd : Hp → Prop} (bb : α → Bool) (o : α → β) (hs : SqL K H1 a xs) (hp : Paired (F H1) xs ys) (hD : H1 D = none) (hlen : xs.length ≤ 10000)
    (step : ∀ (v : V) (y : α) (H' : Hp), Same H1 H' → y ∈ ys → F H' v y → ∀ R : Option V → Hp → Prop, (∀ H'', Same H' H'' → bb y = false → R none H'') → (∀ z H'', Same H' H'' → bb y = true → G H'' z (o y) → R (some z) H'') →
      g v (wipe σ vs) H' fun σ2 H2 => wipe σ2 vs = wipe σ vs ∧ tt σ2 H2 fun b H3 => if b = true then te σ2 H3 (fun z H4 => R (some z) H4) else R none H3)
    (hd : ∀ H' zs, Same H1 H' → H' D = some (.lst zs) → Paired (G H') zs ((ys.filter bb).map o) → Qd H') : LcAt (Itl K a) D g tt te vs σ H1 Qd := by
  refine lc_list (xs := xs) (fun i H' => Same H1 H' ∧ ∃ zs, H' D = some (.lst zs) ∧ Paired (G H') zs (((ys.take i).filter bb).map o)) ⟨Same.new hD _, [], upd_same, .nil⟩ (fun i H' _ z => z.1.seq hs) ?_ ?_
  · rintro i x H2 hx ⟨e2, zs, hD2, hp2⟩
    obtain ⟨y, hy, hF⟩ := K3.Paired.get hp hx
    have hl : (ys.take (i + 1)).filter bb = (ys.take i).filter bb ++ (if bb y = true then [y] else []) := by
      rw [List.take_add_one, hy, List.filter_append]
      congr 1
      cases hb : bb y <;> simp [hb]
    refine step x y H2 e2 (List.mem_of_getElem? hy) (mF e2 hF) (fun oz H4 => match oz with
      | none => Same H1 H4 ∧ ∃ zs, H4 D = some (.lst zs) ∧ Paired (G H4) zs (((ys.take (i + 1)).filter bb).map o)
      | some z => ∃ acc, H4 D = some (.lst acc) ∧ acc.length < sizeLine ∧ (Same H1 (upd H4 D (.lst (acc ++ [z]))) ∧ ∃ zs, (upd H4 D (.lst (acc ++ [z]))) D = some (.lst zs) ∧ Paired (G (upd H4 D (.lst (acc ++ [z])))) zs (((ys.take (i + 1)).filter bb).map o))) (fun H3 e3 hb => ?_) (fun z H3 e3 hb hG => ?_)
    · rw [hb] at hl
      refine ⟨e2.trans e3, zs, e3 _ _ hD2, ?_⟩
      rw [hl, if_neg (by decide), List.append_nil]
      exact L2.Paired.mapP hp2 fun _ _ y => mG (K3.Tk.of e3) y
    · rw [hb] at hl
      have hD3 := e3 _ _ hD2
      have tk : K3.Tk H3 (upd H3 D (.lst (zs ++ [z]))) := K3.Tk.upd hD3 fun _ e => by cases e
      refine ⟨zs, hD3, ?_, (e2.trans e3).mut hD, zs ++ [z], upd_same, ?_⟩
      · refine Nat.lt_of_le_of_lt (show _ ≤ 10000 from ?_) (by decide)
        rw [hp2.length, List.length_map]
        refine Nat.le_trans (List.length_filter_le _ _) ?_
        rw [List.length_take, ← hp.length]
        omega
      · rw [hl, if_pos rfl, List.map_append]
        exact K3.Paired.app (L2.Paired.mapP hp2 fun _ _ y => mG ((K3.Tk.of e3).trans tk) y) (.cons (mG tk hG) .nil)
  · rintro H2 ⟨e2, zs, hD2, hp2⟩
    rw [hp.length, List.take_length] at hp2
    exact hd H2 zs e2 hD2 hp2
/-- .. over a range, all kept -/
theorem range_gen {β : Type} {G : Hp → V → β → Prop} (mG : ∀ {H H' : Hp} {v : V} {y : β}, K3.Tk H H' → G H v y → G H' v y) {D : Addr} {n : Nat} {g : TG} {te : TE} {vs : List Nat} {σ : L2.St} {H1 : Hp} {Qd : Hp → Prop} (o : Nat → β) (hD : H1 D = none) (hn : n ≤ 10000)
    (step : ∀ (i : Nat) (H' : Hp), Same H1 H' → i < n → ∀ R : V → Hp → Prop, (∀ z H'', Same H' H'' → G H'' z (o i) → R z H'') → g (.int (i : Int)) (wipe σ vs) H' fun σ2 H2 => wipe σ2 vs = wipe σ vs ∧ te σ2 H2 R)
    (gmono : ∀ (x : V) (H' : Hp) (A B : L2.St → Hp → Prop), (∀ σ2 H2, A σ2 H2 → B σ2 H2) → g x (wipe σ vs) H' A → g x (wipe σ vs) H' B)
    (hd : ∀ H' zs, Same H1 H' → H' D = some (.lst zs) → Paired (G H') zs ((List.range n).map o) → Qd H') : LcAt (Itr 0 n) D g tYes te vs σ H1 Qd := by
  refine lc_range (lo := 0) (n := n) (fun i H' => Same H1 H' ∧ ∃ zs, H' D = some (.lst zs) ∧ Paired (G H') zs ((List.range i).map o)) ⟨Same.new hD _, [], upd_same, .nil⟩ ?_ ?_
  · rintro i H2 hi ⟨e2, zs, hD2, hp2⟩
    rw [show (0 : Int) + (i : Int) = (i : Int) by omega]
    refine gmono _ _ _ _ ?_ (step i H2 e2 hi (fun z H4 => ∃ acc, H4 D = some (.lst acc) ∧ acc.length < sizeLine ∧ (Same H1 (upd H4 D (.lst (acc ++ [z]))) ∧ ∃ zs, (upd H4 D (.lst (acc ++ [z]))) D = some (.lst zs) ∧ Paired (G (upd H4 D (.lst (acc ++ [z])))) zs ((List.range (i + 1)).map o))) fun z H3 e3 hG => ?_)
    · rintro σ2 H3 ⟨h1, h2⟩
      exact ⟨h1, w_yes (iteT h2)⟩
    · have hD3 := e3 _ _ hD2
      have tk : K3.Tk H3 (upd H3 D (.lst (zs ++ [z]))) := K3.Tk.upd hD3 fun _ e => by cases e
      refine ⟨zs, hD3, ?_, (e2.trans e3).mut hD, zs ++ [z], upd_same, ?_⟩
      · refine Nat.lt_of_le_of_lt (show _ ≤ 10000 from ?_) (by decide)
        rw [hp2.length, List.length_map, List.length_range]
        omega
      · rw [List.range_succ, List.map_append]
        exact K3.Paired.app (L2.Paired.mapP hp2 fun _ _ y => mG ((K3.Tk.of e3).trans tk) y) (.cons (mG tk hG) .nil)
  · rintro H2 ⟨e2, zs, hD2, hp2⟩
    exact hd H2 zs e2 hD2 hp2
end L2
namespace K3
theorem paired_val {β : Type} {f : β → V} : ∀ {zs : List V} {l : List β}, Paired (fun v x => v = f x) zs l → zs = l.map f
  | _, _, .nil => rfl
  | _, _, .cons h t => by rw [h, paired_val t]; rfl
def ArcAt (m n : Nat) (H : Hp) (v : V) (c : Nat × Nat) : Prop := ∃ a vc va p1 p2, v = .ref a ∧ H a = some (.tup [vc, .ref va]) ∧ CellAt H vc c ∧ H va = some (.tup [p1, p2]) ∧ PlAt H p1 (arcF m n c).1 ∧ PlAt H p2 (arcF m n c).2
theorem ArcAt.tk {m n : Nat} {H H' : Hp} (e : Tk H H') {v : V} {c : Nat × Nat} (h : ArcAt m n H v c) : ArcAt m n H' v c := let ⟨a, vc, va, p1, p2, h1, h2, h3, h4, h5, h6⟩ := h; ⟨a, vc, va, p1, p2, h1, e _ _ h2, h3.tk e, e _ _ h4, h5.tk e, h6.tk e⟩
def FenceAt (K : PySem.W.Frag) (H : Hp) (v : V) (R C : List Int) : Prop := ∃ p a b, v = .ref p ∧ SqT K H p [.ref a, .ref b] ∧ SqE K H a (R.map V.int) ∧ SqE K H b (C.map V.int)
theorem FenceAt.same {K : PySem.W.Frag} {H H' : Hp} (e : Same H H') {v : V} {R C : List Int} (h : FenceAt K H v R C) : FenceAt K H' v R C := let ⟨p, a, b, h1, h2, h3, h4⟩ := h; ⟨p, a, b, h1, e.sqt h2, h3.same e, h4.same e⟩
/-- a fence of tuples -/
def FenceT (K : PySem.W.Frag) (H : Hp) (v : V) (R C : List Int) : Prop := ∃ p a b, v = .ref p ∧ SqT K H p [.ref a, .ref b] ∧ SqT K H a (R.map V.int) ∧ SqT K H b (C.map V.int)
theorem FenceT.same {K : PySem.W.Frag} {H H' : Hp} (e : Same H H') {v : V} {R C : List Int} (h : FenceT K H v R C) : FenceT K H' v R C := let ⟨p, a, b, h1, h2, h3, h4⟩ := h; ⟨p, a, b, h1, e.sqt h2, e.sqt h3, e.sqt h4⟩
theorem FenceT.at {K : PySem.W.Frag} {H : Hp} {v : V} {R C : List Int} (h : FenceT K H v R C) : FenceAt K H v R C := let ⟨p, a, b, h1, h2, h3, h4⟩ := h; ⟨p, a, b, h1, h2, ⟨true, h3⟩, ⟨true, h4⟩⟩
theorem in_ints (i : Int) : ∀ R : List Int, inV (.int i) (R.map V.int) = decide (i ∈ R)
  | [] => rfl
  | x :: R => by
    have ih := in_ints i R
    unfold inV at ih ⊢
    rw [List.map_cons, List.any_cons, ih]
    show ((x == i) || decide (i ∈ R)) = _
    by_cases h : x = i
    · subst h
      simp
    · have : ¬ i = x := fun z => h z.symm
      simp [h, this]
theorem flat_ints (R : List Int) : (R.map V.int).all flatV = true := by
  rw [List.all_eq_true]
  intro x hx
  obtain ⟨i, _, rfl⟩ := List.mem_map.mp hx
  rfl
theorem sorted_one : ∀ {a b : List Int}, a.Pairwise (· < ·) → b.Pairwise (· < ·) → (∀ x, x ∈ a ↔ x ∈ b) → a = b
  | [], [], _, _, _ => rfl
  | [], y :: b, _, _, h => absurd ((h y).mpr (List.mem_cons_self ..)) (by simp)
  | x :: a, [], _, _, h => absurd ((h x).mp (List.mem_cons_self ..)) (by simp)
  | x :: a, y :: b, h1, h2, h => by
    obtain ⟨p1, p2⟩ := List.pairwise_cons.mp h1
    obtain ⟨q1, q2⟩ := List.pairwise_cons.mp h2
    have xy : x = y := by
      rcases List.mem_cons.mp ((h x).mp (List.mem_cons_self ..)) with z | z
      · exact z
      rcases List.mem_cons.mp ((h y).mpr (List.mem_cons_self ..)) with z2 | z2
      · exact z2.symm
      have := q1 x z
      have := p1 y z2
      omega
    subst xy
    rw [sorted_one p2 q2 fun c => ?_]
    constructor
    · intro hc
      rcases List.mem_cons.mp ((h c).mp (List.mem_cons_of_mem _ hc)) with z | z
      · have := p1 c hc
        omega
      · exact z
    · intro hc
      rcases List.mem_cons.mp ((h c).mpr (List.mem_cons_of_mem _ hc)) with z | z
      · have := q1 c hc
        omega
      · exact z
theorem rows_sorted (m : Nat) (G : Nat → Bool) : (((List.range m).filter G).map fun (i : Nat) => (i : Int)).Pairwise (· < ·) := by
  rw [List.pairwise_map]
  have : (List.range m).Pairwise (· < ·) := List.pairwise_lt_range
  exact (this.sublist List.filter_sublist).imp fun h => by omega
/-- sorted numbers of the places of one kind -/
theorem kind_sorted {m : Nat} {k : Bool} {ps : List Pl} {ns : List Int} (nd : ps.Nodup) (hb : ∀ p ∈ ps, p.1 = k → p.2 < m) (pm : ns.Perm ((ps.filter fun p => decide (p.1 = k)).map fun p => (p.2 : Int))) (sr : ns.Pairwise (· ≤ ·)) :
    ns = ((List.range m).filter fun i => decide ((k, i) ∈ ps)).map fun (i : Nat) => (i : Int) := by
  have ndn : ns.Nodup := by
    refine pm.nodup_iff.mpr ?_
    unfold List.Nodup
    rw [List.pairwise_map]
    refine List.Pairwise.imp_of_mem ?_ (List.Pairwise.sublist List.filter_sublist nd)
    intro a b ha hb' ne z
    have h1 := of_decide_eq_true (List.mem_filter.mp ha).2
    have h2 := of_decide_eq_true (List.mem_filter.mp hb').2
    exact ne (Prod.ext (h1.trans h2.symm) (by omega))
  have lt : ns.Pairwise (· < ·) := (sr.and ndn).imp fun h => by omega
  refine sorted_one lt (rows_sorted m _) fun x => ?_
  rw [pm.mem_iff, List.mem_map, List.mem_map]
  constructor
  · rintro ⟨p, hp, rfl⟩
    obtain ⟨h1, h2⟩ := List.mem_filter.mp hp
    have h2 := of_decide_eq_true h2
    refine ⟨p.2, List.mem_filter.mpr ⟨List.mem_range.mpr (hb p h1 h2), ?_⟩, rfl⟩
    rw [← h2]
    exact decide_eq_true h1
  · rintro ⟨i, hi, rfl⟩
    have h2 := of_decide_eq_true (List.mem_filter.mp hi).2
    exact ⟨(k, i), List.mem_filter.mpr ⟨h2, decide_eq_true rfl⟩, rfl⟩
theorem w_gnn {i j : Nat} {v1 v2 : V} {σ : L2.St} {H : Hp} {Q : L2.St → Hp → Prop} (h : Q ((σ.set i (some v1)).set j (some v2)) H) : gCons (gName i) (gCons (gName j) gNil) [v1, v2] σ H Q := ⟨_, _, rfl, _, _, rfl, rfl, h⟩
theorem w_g4 {i j k l : Nat} {v1 v2 v3 v4 : V} {σ : L2.St} {H : Hp} {Q : L2.St → Hp → Prop} (h : Q ((((σ.set i (some v1)).set j (some v2)).set k (some v3)).set l (some v4)) H) : gCons (gName i) (gCons (gName j) (gCons (gName k) (gCons (gName l) gNil))) [v1, v2, v3, v4] σ H Q := ⟨_, _, rfl, _, _, rfl, _, _, rfl, _, _, rfl, rfl, h⟩
end K3
end E3_part
section F11_part
set_option Elab.async false
set_option linter.all false
set_option maxRecDepth 100000
set_option maxHeartbeats 1000000
set_option pp.deepTerms.threshold 5
open PySem PySem.Spec PyProof.Rows L2
/-- go on as far as nothing is open -/
local macro_rules | `(tactic| walk_at "go") => `(tactic| repeat (first
  | with_reducible refine w_seq ?_ | with_reducible refine w_next ?_ | with_reducible refine w_set ?_ | with_reducible refine w_drop ?_ | with_reducible refine w_ret ?_ | with_reducible refine w_retN ?_
  | with_reducible refine w_if ?_ | ((with_reducible refine' w_var ?hv ?_); (case hv => exact rfl)) | with_reducible refine w_c ?_ | with_reducible refine w_nil ?_ | with_reducible refine w_cons ?_ | with_reducible refine w_op ?_ | with_reducible refine w_un ?_
  | with_reducible refine w_test ?_ | with_reducible refine w_tB ?_ | with_reducible refine w_not ?_ | with_reducible refine w_and ?_ | with_reducible refine w_or ?_ | with_reducible refine w_bl ?_
  | with_reducible refine w_andV ?_ | with_reducible refine w_orV ?_ | with_reducible refine w_notV ?_ | with_reducible refine w_ifE ?_ | with_reducible refine w_chain ?_ | with_reducible refine w_i0 ?_
  | with_reducible refine w_call ?_ | with_reducible refine w_callS ?_ | with_reducible refine w_cB ?_ | with_reducible refine w_tup ?_ | with_reducible refine w_lst ?_ | with_reducible refine w_fldV ?_
  | with_reducible refine w_neF ?_ | with_reducible refine w_neT ?_ | with_reducible refine w_notN ?_ | with_reducible refine w_isN ?_ | with_reducible refine w_gname ?_ | with_reducible refine w_gsub ?_ | with_reducible refine w_asg ?_ | with_reducible refine w_sl ?_ | with_reducible refine w_noP ?_ | with_reducible refine w_int1 ?_ | with_reducible refine w_part ?_ | with_reducible refine w_yes ?_ | with_reducible refine w_nT ?_ | with_reducible refine w_nF ?_ | with_reducible refine w_iteT ?_ | with_reducible refine w_iteF ?_))
namespace K3
def optV : Option Int → V
  | none => .non
  | some x => .int x
def spIsIn (K : PySem.W.Frag) : Sp := fun vs H Q _ => ∃ (v w : V) (R C : List Int) (p : Pl), vs = [v, w] ∧ FenceAt K H v R C ∧ PlAt H w p ∧ Q (.bl (inF R C p)) H
def spCome (f : Nat → Nat → (Pl → Bool) → List (Nat × Nat)) (K : PySem.W.Frag) : Sp := fun vs H Q _ => ∃ (g : Addr) (v : V) (rs : List Addr) (t : List (List Int)) (m n : Nat) (R C : List Int), vs = [.ref g, v] ∧ GT K H g rs t ∧ Rect t m n ∧ 1 ≤ m ∧ 1 ≤ n ∧ m ≤ 30 ∧ n ≤ 30 ∧ FenceAt K H v R C ∧
  ∀ p H' ws, Same H H' → H p = none → H' p = some (.lst ws) → Paired (CellAt H') ws (f m n (inF R C)) → Q (.ref p) H'
abbrev spComing := spCome comeL
abbrev spGoing := spCome goL
def spSumS (K : PySem.W.Frag) : Sp := fun vs H Q _ => ∃ (g h l : Addr) (rs : List Addr) (t : List (List Int)) (m n : Nat) (ws ls : List V) (hs lc : List (Nat × Nat)), vs = [.ref g, .ref h, .ref l] ∧ GT K H g rs t ∧ Rect t m n ∧ m ≤ 30 ∧ n ≤ 30 ∧ H h = some (.lst ws) ∧ Paired (CellAt H) ws hs ∧ hs.length ≤ 100 ∧ (∀ k ∈ hs, k.1 < 60 ∧ k.2 < 60) ∧
  H l = some (.lst ls) ∧ Paired (CellAt H) ls lc ∧ lc.length ≤ 900 ∧ (∀ k ∈ lc, k.1 < m ∧ k.2 < n) ∧ ∀ H', Same H H' → Q (.int (shownS t hs lc)) H'
def spPlaces (K : PySem.W.Frag) : Sp := fun vs H Q _ => ∃ (g : Addr) (rs : List Addr) (t : List (List Int)) (m n : Nat), vs = [.ref g] ∧ GT K H g rs t ∧ Rect t m n ∧ 1 ≤ m ∧ m ≤ 60 ∧ n ≤ 60 ∧ ∀ p H' ws, Same H H' → H p = none → H' p = some (.lst ws) → Paired (PlAt H') ws (allPl m n) → Q (.ref p) H'
def spFenceOf (K : PySem.W.Frag) : Sp := fun vs H Q _ => ∃ (l : Addr) (ws : List V) (ps : List Pl) (m n : Nat), vs = [.ref l] ∧ H l = some (.lst ws) ∧ Paired (PlAt H) ws ps ∧ ps.Nodup ∧ (∀ p ∈ ps, inPl m n p) ∧ m ≤ 60 ∧ n ≤ 60 ∧ ∀ v H', Same H H' → FenceT K H' v (rowsOf m fun p => decide (p ∈ ps)) (colsOf n fun p => decide (p ∈ ps)) → Q v H'
section
variable {P : Program} {w : World} {K : PySem.W.Frag} {mg : Str → Option Value} {base : Heap}
theorem sc_is_in : FnScope ["fence", "place", "rows", "columns", "kind", "number"] ["fence", "place"] (defScope s_is_in) := ⟨rfl, rfl, rfl, by decide +kernel, rfl, by decide +kernel, by decide +kernel⟩
theorem ok_is_in (T : Tx K mg) : Ok P w K mg base 1 (He.ga K "is_in") ["fence", "place"] (spIsIn K) := by
  obtain ⟨fd, F⟩ := T.f_is_in
  refine ⟨fd, F.ok (k := 0) sc_is_in (fun vs H Q E h => ?_) (fun cdv A outer s_ H vs Q E hr h => ?_), F.bindsN fun _ _ _ _ _ _ us hl => match us, hl with | [_, _], _ => rfl, F.kp⟩
  · obtain ⟨v, w, R, C, ⟨k, i⟩, rfl, ⟨f, a, b, rfl, hf, ha, hb⟩, ⟨x, rfl, hx⟩, q⟩ := h
    rfl
  obtain ⟨v, w, R, C, ⟨k, i⟩, rfl, ⟨f, a, b, rfl, hf, ha, hb⟩, ⟨x, rfl, hx⟩, q⟩ := h
  have hu65 := K3.Room.units65 hr
  have hu64 := Nat.lt_of_succ_lt hu65
  have hu0 := Nat.lt_of_le_of_lt (Nat.le_add_right _ 65) hu65
  have hu1 := Nat.lt_of_le_of_lt (Nat.add_le_add_left (show 1 ≤ 65 by decide) _) hu65
  refine ⟨_, pss_cons (ps_asg (pv 0) (pg_tup (by rfl) (pgs_cons (pg_name (i := 2) sc_is_in.nd rfl (Or.inl rfl)) (pgs_cons (pg_name (i := 3) sc_is_in.nd rfl (Or.inl rfl)) pgs_nil))))
      (pss_cons (ps_asg (pv 1) (pg_tup (by rfl) (pgs_cons (pg_name (i := 4) sc_is_in.nd rfl (Or.inl rfl)) (pgs_cons (pg_name (i := 5) sc_is_in.nd rfl (Or.inl rfl)) pgs_nil))))
      (pss_one (ps_ret (pe_cmpR op_in_seq (pv 5) (pe_ifExp (pt_cmpR op_eq (pv 4) pe_str (nomark _)) (pv 2) (pv 3)) rfl)))), ?_⟩
  walk_at "go"
  refine w_gtup hf rfl (w_gnn ?_)
  dsimp only
  walk_at "go"
  cases k with
  | true =>
    have hx : H x = some (.tup [V.str ("row" : Str), V.int (i : Int)]) := hx
    refine w_gtup (SqT.of hx) rfl (w_gnn ?_)
    dsimp only
    walk_at "go"
    refine ⟨rfl, ?_⟩
    rw [decide_eq_true rfl]
    walk_at "go"
    refine ⟨a, _, rfl, ha.either, rfl, flat_ints R, ?_⟩
    rw [in_ints]
    exact q
  | false =>
    have hx : H x = some (.tup [V.str ("column" : Str), V.int (i : Int)]) := hx
    refine w_gtup (SqT.of hx) rfl (w_gnn ?_)
    dsimp only
    walk_at "go"
    refine ⟨rfl, ?_⟩
    rw [show decide (V.str ("column" : Str) = V.str ("row" : Str)) = false by decide]
    walk_at "go"
    refine ⟨b, _, rfl, hb.either, rfl, flat_ints C, ?_⟩
    rw [in_ints]
    exact q
theorem sc_coming_in : FnScope ["grid", "fence", "arcs", "cell", "start", "goal"] ["grid", "fence"] (defScope s_coming_in) := ⟨rfl, rfl, rfl, by decide +kernel, rfl, by decide +kernel, by decide +kernel⟩
theorem ok_coming_in (T : Tx K mg) : Ok P w K mg base 3 (He.ga K "coming_in") ["grid", "fence"] (spComing K) := by
  obtain ⟨fd, F⟩ := T.f_coming_in
  have Ois_in := ok_is_in (P := P) (w := w) (base := base) T
  have Ocells_of := ok_cells_of (P := P) (w := w) (base := base) T
  have Oarc_of := ok_arc_of (P := P) (w := w) (base := base) T
  refine ⟨fd, F.ok (k := 2) sc_coming_in (fun vs H Q E h => ?_) (fun cdv A outer s_ H vs Q E hr h => ?_), F.bindsN fun _ _ _ _ _ _ us hl => match us, hl with | [_, _], _ => rfl, F.kp⟩
  · obtain ⟨g, v, rs, t, m, n, R, C, rfl, ht, hR, m1, n1, m30, n30, hF, q⟩ := h
    rfl
  obtain ⟨g, v, rs, t, m, n, R, C, rfl, ht, hR, m1, n1, m30, n30, hF, q⟩ := h
  have hu65 := K3.Room.units65 hr
  have hu64 := Nat.lt_of_succ_lt hu65
  have hu0 := Nat.lt_of_le_of_lt (Nat.le_add_right _ 65) hu65
  have hu1 := Nat.lt_of_le_of_lt (Nat.add_le_add_left (show 1 ≤ 65 by decide) _) hu65
  have ris_in : Room 1 _ := hr.mono (by decide)
  have rcells_of : Room 1 _ := hr.mono (by decide)
  have rarc_of : Room 2 _ := hr.mono (by decide)
  refine ⟨_, pss_cons (by exact ps_setLc (i := 2) (own := [("cell", 3)]) (g := gName 3) (tt := tYes) (te := (tTup (tCons (tVar 3) (tCons (tCall (spArc K) [] E0 (tCons (tVar 0) (tCons (tVar 3) tNil))) tNil)))) (by rfl) sc_coming_in.nd rfl rfl (by rfl) (pi_list (pe_f Ocells_of rcells_of T.g_cells_of (pa_cons (pv 0) pa_nil))) (blkOk_by (own := [("cell", 3)]) (N := ["grid", "fence", "arcs", "cell", "start", "goal"]) (sc := defScope s_coming_in) (by decide +kernel)) (fun _ _ _ _ _ => (pg_name (i := 3) sc_coming_in.nd rfl (Or.inl rfl))) (fun _ _ _ _ _ => pts_nil) (fun _ _ _ _ _ => (pe_tup (pa_cons (pv 3) (pa_cons (pe_f Oarc_of rarc_of T.g_arc_of (pa_cons (pv 0) (pa_cons (pv 3) pa_nil))) pa_nil)))))
      (pss_one (ps_ret (by exact pe_lc (own := [("cell", 3), ("start", 4), ("goal", 5)]) (g := gTup K 2 (gCons (gName 3) (gCons (gTup K 2 (gCons (gName 4) (gCons (gName 5) gNil))) gNil))) (tt := (tAnd (tB (tCall (spIsIn K) [] E0 (tCons (tVar 1) (tCons (tVar 5) tNil)))) (tNot (tB (tCall (spIsIn K) [] E0 (tCons (tVar 1) (tCons (tVar 4) tNil))))))) (te := (tVar 3)) (by rfl) sc_coming_in.nd (pi_list (pv 2)) (blkOk_by (own := [("cell", 3), ("start", 4), ("goal", 5)]) (N := ["grid", "fence", "arcs", "cell", "start", "goal"]) (sc := defScope s_coming_in) (by decide +kernel)) (fun _ _ _ _ _ => (pg_tup (by rfl) (pgs_cons (pg_name (i := 3) sc_coming_in.nd rfl (Or.inl rfl)) (pgs_cons (pg_tup (by rfl) (pgs_cons (pg_name (i := 4) sc_coming_in.nd rfl (Or.inl rfl)) (pgs_cons (pg_name (i := 5) sc_coming_in.nd rfl (Or.inl rfl)) pgs_nil))) pgs_nil)))) (fun _ _ _ _ _ => (pts_one (pw_and (pt_val (pe_f Ois_in ris_in T.g_is_in (pa_cons (pv 1) (pa_cons (pv 5) pa_nil)))) (pw_and1 (pt_not (pt_val (pe_f Ois_in ris_in T.g_is_in (pa_cons (pv 1) (pa_cons (pv 4) pa_nil))))))).pt)) (fun _ _ _ _ _ => (pv 3))))), ?_⟩
  walk_at "go"
  refine lcAt_open (list_open ?_)
  walk_at "go"
  refine ⟨g, rs, t, m, n, rfl, ht, hR, m1, by omega, by omega, fun p1 H1 w1 e1 hp1 h1 hw1 => ?_⟩
  have l1 : w1.length ≤ 900 := by rw [hw1.length, cells_len]; exact Nat.mul_le_mul m30 n30
  refine ⟨p1, rfl, ⟨_, SqL.of h1⟩, fun D hD => ?_⟩
  refine items_gen (F := CellAt) (G := ArcAt m n) (fun e h => CellAt.same e h) (fun e h => ArcAt.tk e h) (fun _ => true) (fun c => c) (SqL.of h1) hw1 hD (by omega) ?_ ?_
  · intro v c H2 e2 hc hv R' _ r2
    walk_at "go"
    refine ⟨rfl, ?_⟩
    walk_at "go"
    refine ⟨g, v, rs, t, m, n, c, rfl, (ht.same e1).same e2, hR, m1, n1, hv, fun va H3 x1 x2 e3 ha p1' p2' => ?_⟩
    refine ⟨(by show 2 ≤ sizeLine; decide), fun b hb => ?_⟩
    have e4 := Same.new hb (.tup [v, .ref va])
    exact r2 _ _ (e3.trans e4) rfl ⟨b, v, va, x1, x2, rfl, upd_same, (hv.same e3).same e4, e4 _ _ ha, p1'.same e4, p2'.same e4⟩
  intro H2 zs e2 hD2 hz
  have hf : (cellsOf m n).filter (fun _ => true) = cellsOf m n := List.filter_eq_self.mpr fun _ _ => rfl
  rw [hf, List.map_id'] at hz
  have lz : zs.length ≤ 900 := by rw [hz.length, cells_len]; exact Nat.mul_le_mul m30 n30
  walk_at "go"
  refine lcAt_open (list_open ?_)
  walk_at "go"
  have e02 := e1.trans e2
  refine ⟨D, rfl, ⟨_, SqL.of hD2⟩, fun D3 hD3 => ?_⟩
  refine items_gen (F := ArcAt m n) (G := CellAt) (fun e h => ArcAt.tk (Tk.of e) h) (fun e h => CellAt.tk e h) (comesF m n (inF R C)) (fun c => c) (SqL.of hD2) hz hD3 (by omega) ?_ ?_
  · intro v' c H3 e3 hc hv R' r1 r2
    obtain ⟨a, vc, va, x1, x2, rfl, ha, hvc, hva, p1', p2'⟩ := hv
    refine w_gtup (SqT.of ha) rfl ⟨_, _, rfl, _, _, rfl, w_gtup (SqT.of hva) rfl (w_gnn ⟨rfl, ?_⟩)⟩
    refine ⟨rfl, ?_⟩
    have hF3 := (hF.same e02).same e3
    unfold comesF at r1 r2
    walk_at "go"
    refine ⟨v, x2, R, C, _, rfl, hF3, p2', ?_⟩
    walk_at "go"
    cases h1 : inF R C (arcF m n c).2 with
    | false =>
      walk_at "go"
      exact r1 _ (Same.refl _) (by rw [h1]; rfl)
    | true =>
      walk_at "go"
      refine ⟨v, x1, R, C, _, rfl, hF3, p1', ?_⟩
      walk_at "go"
      cases h2 : inF R C (arcF m n c).1 with
      | false =>
        walk_at "go"
        exact r2 _ _ (Same.refl _) (by rw [h1, h2]; rfl) hvc
      | true =>
        walk_at "go"
        exact r1 _ (Same.refl _) (by rw [h1, h2]; rfl)
  intro H3 ys e3 hD33 hy
  rw [List.map_id'] at hy
  exact q D3 H3 ys (e02.trans e3) (e02.free hD3) hD33 hy
theorem sc_going_out : FnScope ["grid", "fence", "arcs", "cell", "start", "goal"] ["grid", "fence"] (defScope s_going_out) := ⟨rfl, rfl, rfl, by decide +kernel, rfl, by decide +kernel, by decide +kernel⟩
theorem ok_going_out (T : Tx K mg) : Ok P w K mg base 3 (He.ga K "going_out") ["grid", "fence"] (spGoing K) := by
  obtain ⟨fd, F⟩ := T.f_going_out
  have Ois_in := ok_is_in (P := P) (w := w) (base := base) T
  have Ocells_of := ok_cells_of (P := P) (w := w) (base := base) T
  have Oarc_of := ok_arc_of (P := P) (w := w) (base := base) T
  refine ⟨fd, F.ok (k := 2) sc_going_out (fun vs H Q E h => ?_) (fun cdv A outer s_ H vs Q E hr h => ?_), F.bindsN fun _ _ _ _ _ _ us hl => match us, hl with | [_, _], _ => rfl, F.kp⟩
  · obtain ⟨g, v, rs, t, m, n, R, C, rfl, ht, hR, m1, n1, m30, n30, hF, q⟩ := h
    rfl
  obtain ⟨g, v, rs, t, m, n, R, C, rfl, ht, hR, m1, n1, m30, n30, hF, q⟩ := h
  have hu65 := K3.Room.units65 hr
  have hu64 := Nat.lt_of_succ_lt hu65
  have hu0 := Nat.lt_of_le_of_lt (Nat.le_add_right _ 65) hu65
  have hu1 := Nat.lt_of_le_of_lt (Nat.add_le_add_left (show 1 ≤ 65 by decide) _) hu65
  have ris_in : Room 1 _ := hr.mono (by decide)
  have rcells_of : Room 1 _ := hr.mono (by decide)
  have rarc_of : Room 2 _ := hr.mono (by decide)
  refine ⟨_, pss_cons (by exact ps_setLc (i := 2) (own := [("cell", 3)]) (g := gName 3) (tt := tYes) (te := (tTup (tCons (tVar 3) (tCons (tCall (spArc K) [] E0 (tCons (tVar 0) (tCons (tVar 3) tNil))) tNil)))) (by rfl) sc_going_out.nd rfl rfl (by rfl) (pi_list (pe_f Ocells_of rcells_of T.g_cells_of (pa_cons (pv 0) pa_nil))) (blkOk_by (own := [("cell", 3)]) (N := ["grid", "fence", "arcs", "cell", "start", "goal"]) (sc := defScope s_going_out) (by decide +kernel)) (fun _ _ _ _ _ => (pg_name (i := 3) sc_going_out.nd rfl (Or.inl rfl))) (fun _ _ _ _ _ => pts_nil) (fun _ _ _ _ _ => (pe_tup (pa_cons (pv 3) (pa_cons (pe_f Oarc_of rarc_of T.g_arc_of (pa_cons (pv 0) (pa_cons (pv 3) pa_nil))) pa_nil)))))
      (pss_one (ps_ret (by exact pe_lc (own := [("cell", 3), ("start", 4), ("goal", 5)]) (g := gTup K 2 (gCons (gName 3) (gCons (gTup K 2 (gCons (gName 4) (gCons (gName 5) gNil))) gNil))) (tt := (tAnd (tB (tCall (spIsIn K) [] E0 (tCons (tVar 1) (tCons (tVar 4) tNil)))) (tNot (tB (tCall (spIsIn K) [] E0 (tCons (tVar 1) (tCons (tVar 5) tNil))))))) (te := (tVar 3)) (by rfl) sc_going_out.nd (pi_list (pv 2)) (blkOk_by (own := [("cell", 3), ("start", 4), ("goal", 5)]) (N := ["grid", "fence", "arcs", "cell", "start", "goal"]) (sc := defScope s_going_out) (by decide +kernel)) (fun _ _ _ _ _ => (pg_tup (by rfl) (pgs_cons (pg_name (i := 3) sc_going_out.nd rfl (Or.inl rfl)) (pgs_cons (pg_tup (by rfl) (pgs_cons (pg_name (i := 4) sc_going_out.nd rfl (Or.inl rfl)) (pgs_cons (pg_name (i := 5) sc_going_out.nd rfl (Or.inl rfl)) pgs_nil))) pgs_nil)))) (fun _ _ _ _ _ => (pts_one (pw_and (pt_val (pe_f Ois_in ris_in T.g_is_in (pa_cons (pv 1) (pa_cons (pv 4) pa_nil)))) (pw_and1 (pt_not (pt_val (pe_f Ois_in ris_in T.g_is_in (pa_cons (pv 1) (pa_cons (pv 5) pa_nil))))))).pt)) (fun _ _ _ _ _ => (pv 3))))), ?_⟩
  walk_at "go"
  refine lcAt_open (list_open ?_)
  walk_at "go"
  refine ⟨g, rs, t, m, n, rfl, ht, hR, m1, by omega, by omega, fun p1 H1 w1 e1 hp1 h1 hw1 => ?_⟩
  have l1 : w1.length ≤ 900 := by rw [hw1.length, cells_len]; exact Nat.mul_le_mul m30 n30
  refine ⟨p1, rfl, ⟨_, SqL.of h1⟩, fun D hD => ?_⟩
  refine items_gen (F := CellAt) (G := ArcAt m n) (fun e h => CellAt.same e h) (fun e h => ArcAt.tk e h) (fun _ => true) (fun c => c) (SqL.of h1) hw1 hD (by omega) ?_ ?_
  · intro v c H2 e2 hc hv R' _ r2
    walk_at "go"
    refine ⟨rfl, ?_⟩
    walk_at "go"
    refine ⟨g, v, rs, t, m, n, c, rfl, (ht.same e1).same e2, hR, m1, n1, hv, fun va H3 x1 x2 e3 ha p1' p2' => ?_⟩
    refine ⟨(by show 2 ≤ sizeLine; decide), fun b hb => ?_⟩
    have e4 := Same.new hb (.tup [v, .ref va])
    exact r2 _ _ (e3.trans e4) rfl ⟨b, v, va, x1, x2, rfl, upd_same, (hv.same e3).same e4, e4 _ _ ha, p1'.same e4, p2'.same e4⟩
  intro H2 zs e2 hD2 hz
  have hf : (cellsOf m n).filter (fun _ => true) = cellsOf m n := List.filter_eq_self.mpr fun _ _ => rfl
  rw [hf, List.map_id'] at hz
  have lz : zs.length ≤ 900 := by rw [hz.length, cells_len]; exact Nat.mul_le_mul m30 n30
  walk_at "go"
  refine lcAt_open (list_open ?_)
  walk_at "go"
  have e02 := e1.trans e2
  refine ⟨D, rfl, ⟨_, SqL.of hD2⟩, fun D3 hD3 => ?_⟩
  refine items_gen (F := ArcAt m n) (G := CellAt) (fun e h => ArcAt.tk (Tk.of e) h) (fun e h => CellAt.tk e h) (goesF m n (inF R C)) (fun c => c) (SqL.of hD2) hz hD3 (by omega) ?_ ?_
  · intro v' c H3 e3 hc hv R' r1 r2
    obtain ⟨a, vc, va, x1, x2, rfl, ha, hvc, hva, p1', p2'⟩ := hv
    refine w_gtup (SqT.of ha) rfl ⟨_, _, rfl, _, _, rfl, w_gtup (SqT.of hva) rfl (w_gnn ⟨rfl, ?_⟩)⟩
    refine ⟨rfl, ?_⟩
    have hF3 := (hF.same e02).same e3
    unfold goesF at r1 r2
    walk_at "go"
    refine ⟨v, x1, R, C, _, rfl, hF3, p1', ?_⟩
    walk_at "go"
    cases h1 : inF R C (arcF m n c).1 with
    | false =>
      walk_at "go"
      exact r1 _ (Same.refl _) (by rw [h1]; rfl)
    | true =>
      walk_at "go"
      refine ⟨v, x2, R, C, _, rfl, hF3, p2', ?_⟩
      walk_at "go"
      cases h2 : inF R C (arcF m n c).2 with
      | false =>
        walk_at "go"
        exact r2 _ _ (Same.refl _) (by rw [h1, h2]; rfl) hvc
      | true =>
        walk_at "go"
        exact r1 _ (Same.refl _) (by rw [h1, h2]; rfl)
  intro H3 ys e3 hD33 hy
  rw [List.map_id'] at hy
  exact q D3 H3 ys (e02.trans e3) (e02.free hD3) hD33 hy
theorem sc_sum_shown : FnScope ["grid", "hidden", "cells", "cell"] ["grid", "hidden", "cells"] (defScope s_sum_shown) := ⟨rfl, rfl, rfl, by decide +kernel, rfl, by decide +kernel, by decide +kernel⟩
theorem ok_sum_shown (T : Tx K mg) : Ok P w K mg base 2 (He.ga K "sum_shown") ["grid", "hidden", "cells"] (spSumS K) := by
  obtain ⟨fd, F⟩ := T.f_sum_shown
  have Onumber_at := ok_number_at (P := P) (w := w) (base := base) T
  refine ⟨fd, F.ok (k := 1) sc_sum_shown (fun vs H Q E h => ?_) (fun cdv A outer s_ H vs Q E hr h => ?_), F.bindsN fun _ _ _ _ _ _ us hl => match us, hl with | [_, _, _], _ => rfl, F.kp⟩
  · obtain ⟨g, h, l, rs, t, m, n, ws, ls, hs, lc, rfl, ht, hR, m30, n30, hh, hw, lhs, bhs, hl, hlc, llc, blc, q⟩ := h
    rfl
  obtain ⟨g, h, l, rs, t, m, n, ws, ls, hs, lc, rfl, ht, hR, m30, n30, hh, hw, lhs, bhs, hl, hlc, llc, blc, q⟩ := h
  have hu65 := K3.Room.units65 hr
  have hu64 := Nat.lt_of_succ_lt hu65
  have hu0 := Nat.lt_of_le_of_lt (Nat.le_add_right _ 65) hu65
  have hu1 := Nat.lt_of_le_of_lt (Nat.add_le_add_left (show 1 ≤ 65 by decide) _) hu65
  have rnumber_at : Room 1 _ := hr.mono (by decide)
  refine ⟨_, pss_one (ps_ret (pe_callB (cr_sum (by rfl)) (by rfl) T.z_sum (by decide +kernel) (pa_cons (by exact pe_lc (own := [("cell", 3)]) (g := gName 3) (tt := (tTest (tOp (rNotInC K) (tVar 3) (tVar 1)))) (te := (tCall (spNum K) [] E0 (tCons (tVar 0) (tCons (tVar 3) tNil)))) (by rfl) sc_sum_shown.nd (pi_list (pv 2)) (blkOk_by (own := [("cell", 3)]) (N := ["grid", "hidden", "cells", "cell"]) (sc := defScope s_sum_shown) (by decide +kernel)) (fun _ _ _ _ _ => (pg_name (i := 3) sc_sum_shown.nd rfl (Or.inl rfl))) (fun _ _ _ _ _ => (pts_one (pt_cmpR (op_notInC hu65) (pv 3) (pv 1) (by rfl)))) (fun _ _ _ _ _ => (pe_f Onumber_at rnumber_at T.g_number_at (pa_cons (pv 0) (pa_cons (pv 3) pa_nil))))) pa_nil))), ?_⟩
  walk_at "go"
  refine lcAt_open (list_open ?_)
  walk_at "go"
  refine ⟨l, rfl, ⟨_, SqL.of hl⟩, fun D hD => ?_⟩
  refine items_gen (F := CellAt) (G := fun _ v (x : Int) => v = V.int x) (fun e h => CellAt.same e h) (fun _ h => h) (fun k => !decide (k ∈ hs)) (fun k => at2 t k.1 k.2) (SqL.of hl) hlc hD (by rw [hlc.length]; omega) ?_ ?_
  · intro v c H2 e2 hc hv R' r1 r2
    obtain ⟨c1, c2⟩ := blc c hc
    walk_at "go"
    refine ⟨rfl, ?_⟩
    walk_at "go"
    refine ⟨h, ws, hs, c, hv, rfl, .inl (SqL.of (e2 _ _ hh)), L2.Paired.mapP hw fun _ _ z => z.same e2, by omega, fun k hk => by have := bhs k hk; omega, ⟨by omega, by omega⟩, ?_⟩
    by_cases z : c ∈ hs
    · rw [decide_eq_true z]
      exact ⟨_, rfl, r1 _ (Same.refl _) (by rw [decide_eq_true z]; rfl)⟩
    · rw [decide_eq_false z]
      refine ⟨_, rfl, ?_⟩
      walk_at "go"
      refine ⟨g, v, rs, t, m, n, c.1, c.2, rfl, ht.same e2, hR, hv, c1, c2, ?_⟩
      exact r2 _ _ (Same.refl _) (by rw [decide_eq_false z]; rfl) rfl
  intro H2 zs e2 hD2 hz
  walk_at "go"
  refine ⟨D, _, rfl, SqL.of (by rw [hD2, paired_val hz]), ?_⟩
  exact q H2 e2
theorem sc_places_of : FnScope ["grid", "rows", "number"] ["grid"] (defScope s_places_of) := ⟨rfl, rfl, rfl, by decide +kernel, rfl, by decide +kernel, by decide +kernel⟩
theorem ok_places_of (T : Tx K mg) : Ok P w K mg base 1 (He.ga K "places_of") ["grid"] (spPlaces K) := by
  obtain ⟨fd, F⟩ := T.f_places_of
  refine ⟨fd, F.ok (k := 0) sc_places_of (fun vs H Q E h => ?_) (fun cdv A outer s_ H vs Q E hr h => ?_), F.bindsN fun _ _ _ _ _ _ us hl => match us, hl with | [_], _ => rfl, F.kp⟩
  · obtain ⟨g, rs, t, m, n, rfl, ht, hR, m1, m60, n60, q⟩ := h
    rfl
  obtain ⟨g, rs, t, m, n, rfl, ht, hR, m1, m60, n60, q⟩ := h
  have hu65 := K3.Room.units65 hr
  have hu64 := Nat.lt_of_succ_lt hu65
  have hu0 := Nat.lt_of_le_of_lt (Nat.le_add_right _ 65) hu65
  have hu1 := Nat.lt_of_le_of_lt (Nat.add_le_add_left (show 1 ≤ 65 by decide) _) hu65
  refine ⟨_, pss_cons (by exact ps_setLc (i := 1) (own := [("number", 2)]) (g := gName 2) (tt := tYes) (te := (tTup (tCons (tC (.str "row")) (tCons (tVar 2) tNil)))) (by rfl) sc_places_of.nd rfl rfl (by rfl) (pi_range1 rfl T.z_range (pa_cons (pe_callB call_len_seq (by rfl) T.z_len PySem.boot_len (pa_cons (pv 0) pa_nil)) pa_nil)) (blkOk_by (own := [("number", 2)]) (N := ["grid", "rows", "number"]) (sc := defScope s_places_of) (by decide +kernel)) (fun _ _ _ _ _ => (pg_name (i := 2) sc_places_of.nd rfl (Or.inl rfl))) (fun _ _ _ _ _ => pts_nil) (fun _ _ _ _ _ => (pe_tup (pa_cons pe_str (pa_cons (pv 2) pa_nil)))))
      (pss_one (ps_ret (pe_op op_cat (pv 1) (by exact pe_lc (own := [("number", 2)]) (g := gName 2) (tt := tYes) (te := (tTup (tCons (tC (.str "column")) (tCons (tVar 2) tNil)))) (by rfl) sc_places_of.nd (pi_range1 rfl T.z_range (pa_cons (pe_callB call_len_seq (by rfl) T.z_len PySem.boot_len (pa_cons (pe_ix ix_e (pv 0) pe_int (fun _ _ => rfl)) pa_nil)) pa_nil)) (blkOk_by (own := [("number", 2)]) (N := ["grid", "rows", "number"]) (sc := defScope s_places_of) (by decide +kernel)) (fun _ _ _ _ _ => (pg_name (i := 2) sc_places_of.nd rfl (Or.inl rfl))) (fun _ _ _ _ _ => pts_nil) (fun _ _ _ _ _ => (pe_tup (pa_cons pe_str (pa_cons (pv 2) pa_nil)))))))), ?_⟩
  have lr := ht.rows.length
  have lt := hR.1
  obtain ⟨a0, r0, ha0, hr0, hx0⟩ := row_ofG ht (i := 0) (by omega)
  have hl0 := hR.2 r0 (List.mem_of_getElem? hr0)
  walk_at "go"
  refine lcAt_open (rng_open ?_)
  walk_at "go"
  refine ⟨g, _, rfl, ht.at_.either, ?_⟩
  rw [List.length_map, lr, lt]
  refine ⟨_, rfl, by omega, by omega, fun D hD => ?_⟩
  rw [Int.toNat_natCast]
  refine range_gen (G := PlAt) (fun e h => PlAt.tk e h) (fun i => ((true, i) : Pl)) hD (by omega) ?_ (fun x H' A B ab h => ab _ _ h) ?_
  · intro i H1 e1 hi R' r
    refine w_gname ⟨rfl, ?_⟩
    walk_at "go"
    refine ⟨(by show 2 ≤ sizeLine; decide), fun a ha => ?_⟩
    exact r _ _ (Same.new ha _) ⟨a, rfl, upd_same⟩
  intro H1 z1 e1 hD1 hz1
  walk_at "go"
  refine lcAt_open (rng_open ?_)
  walk_at "go"
  refine w_ixE (ht.at_.same e1) (ref_at ha0) ?_
  walk_at "go"
  refine ⟨a0, _, rfl, (hx0.same e1).either, ?_⟩
  rw [List.length_map, hl0]
  refine ⟨_, rfl, by omega, by omega, fun D2 hD2 => ?_⟩
  rw [Int.toNat_natCast]
  refine range_gen (G := PlAt) (fun e h => PlAt.tk e h) (fun i => ((false, i) : Pl)) hD2 (by omega) ?_ (fun x H' A B ab h => ab _ _ h) ?_
  · intro i H2 e2 hi R' r
    refine w_gname ⟨rfl, ?_⟩
    walk_at "go"
    refine ⟨(by show 2 ≤ sizeLine; decide), fun a ha => ?_⟩
    exact r _ _ (Same.new ha _) ⟨a, rfl, upd_same⟩
  intro H2 z2 e2 hD22 hz2
  refine ⟨D, D2, _, _, rfl, rfl, e2 _ _ hD1, hD22, Nat.le_trans (show _ ≤ 200 by rw [hz1.length, hz2.length, List.length_map, List.length_map, List.length_range, List.length_range]; omega) (by decide), fun p hp => ?_⟩
  have e3 := Same.new hp (.lst (z1 ++ z2))
  refine q p _ (z1 ++ z2) (e1.trans (e2.trans e3)) (e1.free (e2.free hp)) upd_same ?_
  unfold allPl
  exact K3.Paired.app (L2.Paired.mapP hz1 fun _ _ y => y.same (e2.trans e3)) (L2.Paired.mapP hz2 fun _ _ y => y.same e3)
theorem sc_fence_of : FnScope ["places", "rows", "columns", "kind", "number"] ["places"] (defScope s_fence_of) := ⟨rfl, rfl, rfl, by decide +kernel, rfl, by decide +kernel, by decide +kernel⟩
theorem ok_fence_of (T : Tx K mg) : Ok P w K mg base 1 (He.ga K "fence_of") ["places"] (spFenceOf K) := by
  obtain ⟨fd, F⟩ := T.f_fence_of
  refine ⟨fd, F.ok (k := 0) sc_fence_of (fun vs H Q E h => ?_) (fun cdv A outer s_ H vs Q E hr h => ?_), F.bindsN fun _ _ _ _ _ _ us hl => match us, hl with | [_], _ => rfl, F.kp⟩
  · obtain ⟨l, ws, ps, m, n, rfl, hl, hw, nd, hb, m60, n60, q⟩ := h
    rfl
  obtain ⟨l, ws, ps, m, n, rfl, hl, hw, nd, hb, m60, n60, q⟩ := h
  have hu65 := K3.Room.units65 hr
  have hu64 := Nat.lt_of_succ_lt hu65
  have hu0 := Nat.lt_of_le_of_lt (Nat.le_add_right _ 65) hu65
  have hu1 := Nat.lt_of_le_of_lt (Nat.add_le_add_left (show 1 ≤ 65 by decide) _) hu65
  refine ⟨_, pss_cons (ps_set (i := 1) sc_fence_of.nd rfl (Or.inl rfl) (pe_callB cr_sorted (by rfl) T.z_sorted (by decide +kernel) (pa_cons (by exact pe_lc (own := [("kind", 3), ("number", 4)]) (g := gTup K 2 (gCons (gName 3) (gCons (gName 4) gNil))) (tt := (tTest (tOp rEq (tVar 3) (tC (.str "row"))))) (te := (tVar 4)) (by rfl) sc_fence_of.nd (pi_list (pv 0)) (blkOk_by (own := [("kind", 3), ("number", 4)]) (N := ["places", "rows", "columns", "kind", "number"]) (sc := defScope s_fence_of) (by decide +kernel)) (fun _ _ _ _ _ => (pg_tup (by rfl) (pgs_cons (pg_name (i := 3) sc_fence_of.nd rfl (Or.inl rfl)) (pgs_cons (pg_name (i := 4) sc_fence_of.nd rfl (Or.inl rfl)) pgs_nil)))) (fun _ _ _ _ _ => (pts_one (pt_cmpR op_eq (pv 3) pe_str (nomark _)))) (fun _ _ _ _ _ => (pv 4))) pa_nil)))
      (pss_cons (ps_set (i := 2) sc_fence_of.nd rfl (Or.inl rfl) (pe_callB cr_sorted (by rfl) T.z_sorted (by decide +kernel) (pa_cons (by exact pe_lc (own := [("kind", 3), ("number", 4)]) (g := gTup K 2 (gCons (gName 3) (gCons (gName 4) gNil))) (tt := (tTest (tOp rEq (tVar 3) (tC (.str "column"))))) (te := (tVar 4)) (by rfl) sc_fence_of.nd (pi_list (pv 0)) (blkOk_by (own := [("kind", 3), ("number", 4)]) (N := ["places", "rows", "columns", "kind", "number"]) (sc := defScope s_fence_of) (by decide +kernel)) (fun _ _ _ _ _ => (pg_tup (by rfl) (pgs_cons (pg_name (i := 3) sc_fence_of.nd rfl (Or.inl rfl)) (pgs_cons (pg_name (i := 4) sc_fence_of.nd rfl (Or.inl rfl)) pgs_nil)))) (fun _ _ _ _ _ => (pts_one (pt_cmpR op_eq (pv 3) pe_str (nomark _)))) (fun _ _ _ _ _ => (pv 4))) pa_nil)))
      (pss_one (ps_ret (pe_tup (pa_cons (pe_callTy call_tuple_of (by rfl) T.z_tuple (by decide +kernel) (pa_cons (pv 1) pa_nil)) (pa_cons (pe_callTy call_tuple_of (by rfl) T.z_tuple (by decide +kernel) (pa_cons (pv 2) pa_nil)) pa_nil)))))), ?_⟩
  have lp : ps.length ≤ 120 := by
    have := nodup_len nd (k := allPl m n) fun p hp => allPl_mem (hb p hp)
    unfold allPl at this
    rw [List.length_append, List.length_map, List.length_map, List.length_range, List.length_range] at this
    omega
  have kl : ∀ k : Bool, (ps.filter fun p => decide (p.1 = k)).length ≤ 60 := fun k => by
    have nd2 : (ps.filter fun p => decide (p.1 = k)).Nodup := List.Pairwise.sublist List.filter_sublist nd
    have := nodup_len nd2 (k := (List.range 60).map fun i => (k, i)) fun p hp => by
      obtain ⟨h1, h2⟩ := List.mem_filter.mp hp
      have h2 := of_decide_eq_true h2
      have h3 := hb p h1
      refine List.mem_map.mpr ⟨p.2, List.mem_range.mpr ?_, by rw [← h2]⟩
      unfold inPl at h3
      revert h3
      cases p.1 <;> intro h3 <;> simp at h3 <;> omega
    rw [List.length_map, List.length_range] at this
    exact this
  walk_at "go"
  refine lcAt_open (list_open ?_)
  walk_at "go"
  refine ⟨l, rfl, ⟨_, SqL.of hl⟩, fun D hD => ?_⟩
  refine items_gen (F := PlAt) (G := fun _ v (x : Int) => v = V.int x) (fun e h => PlAt.same e h) (fun _ h => h) (fun p => decide (p.1 = true)) (fun p => (p.2 : Int)) (SqL.of hl) hw hD (by rw [hw.length]; omega) ?_ ?_
  · rintro v ⟨k, i⟩ H2 e2 hc ⟨x, rfl, hx⟩ R' r1 r2
    cases k with
    | true =>
      have hx : H2 x = some (.tup [V.str ("row" : Str), V.int (i : Int)]) := hx
      refine w_gtup (SqT.of hx) rfl (w_gnn ⟨rfl, ?_⟩)
      walk_at "go"
      refine ⟨rfl, ?_⟩
      rw [decide_eq_true rfl]
      refine ⟨_, rfl, ?_⟩
      walk_at "go"
      exact r2 _ _ (Same.refl _) rfl rfl
    | false =>
      have hx : H2 x = some (.tup [V.str ("column" : Str), V.int (i : Int)]) := hx
      refine w_gtup (SqT.of hx) rfl (w_gnn ⟨rfl, ?_⟩)
      walk_at "go"
      refine ⟨rfl, ?_⟩
      rw [show decide (V.str ("column" : Str) = V.str ("row" : Str)) = false by decide]
      refine ⟨_, rfl, ?_⟩
      exact r1 _ (Same.refl _) rfl
  intro H2 zs e2 hD2 hz
  walk_at "go"
  refine ⟨D, _, rfl, SqL.of (by rw [hD2, paired_val hz]), by rw [List.length_map]; have := kl true; omega, fun ns p3 pm sr hp3 => ?_⟩
  have e3 := Same.new hp3 (.lst (ns.map V.int))
  have eR : ns = rowsOf m fun p => decide (p ∈ ps) := kind_sorted nd (fun p hp hk => by have := hb p hp; unfold inPl at this; rw [hk] at this; exact this) pm sr
  have h3 : (upd H2 p3 (.lst (ns.map V.int))) p3 = some (.lst (ns.map V.int)) := upd_same
  generalize upd H2 p3 (.lst (ns.map V.int)) = H3 at e3 h3 ⊢
  have e03 := e2.trans e3
  walk_at "go"
  refine lcAt_open (list_open ?_)
  walk_at "go"
  refine ⟨l, rfl, ⟨_, SqL.of (e03 _ _ hl)⟩, fun D4 hD4 => ?_⟩
  refine items_gen (F := PlAt) (G := fun _ v (x : Int) => v = V.int x) (fun e h => PlAt.same e h) (fun _ h => h) (fun p => decide (p.1 = false)) (fun p => (p.2 : Int)) (SqL.of (e03 _ _ hl)) (L2.Paired.mapP hw fun _ _ y => y.same e03) hD4 (by rw [hw.length]; omega) ?_ ?_
  · rintro v ⟨k, i⟩ H5 e5 hc ⟨x, rfl, hx⟩ R' r1 r2
    cases k with
    | true =>
      have hx : H5 x = some (.tup [V.str ("row" : Str), V.int (i : Int)]) := hx
      refine w_gtup (SqT.of hx) rfl (w_gnn ⟨rfl, ?_⟩)
      walk_at "go"
      refine ⟨rfl, ?_⟩
      rw [show decide (V.str ("row" : Str) = V.str ("column" : Str)) = false by decide]
      refine ⟨_, rfl, ?_⟩
      exact r1 _ (Same.refl _) rfl
    | false =>
      have hx : H5 x = some (.tup [V.str ("column" : Str), V.int (i : Int)]) := hx
      refine w_gtup (SqT.of hx) rfl (w_gnn ⟨rfl, ?_⟩)
      walk_at "go"
      refine ⟨rfl, ?_⟩
      rw [decide_eq_true rfl]
      refine ⟨_, rfl, ?_⟩
      walk_at "go"
      exact r2 _ _ (Same.refl _) rfl rfl
  intro H5 ys e5 hD5 hy
  walk_at "go"
  refine ⟨D4, _, rfl, SqL.of (by rw [hD5, paired_val hy]), by rw [List.length_map]; have := kl false; omega, fun ns2 p6 pm2 sr2 hp6 => ?_⟩
  have e6 := Same.new hp6 (.lst (ns2.map V.int))
  have eC : ns2 = colsOf n fun p => decide (p ∈ ps) := kind_sorted nd (fun p hp hk => by have := hb p hp; unfold inPl at this; rw [hk] at this; exact this) pm2 sr2
  have h6 : (upd H5 p6 (.lst (ns2.map V.int))) p6 = some (.lst (ns2.map V.int)) := upd_same
  generalize upd H5 p6 (.lst (ns2.map V.int)) = H6 at e6 h6 ⊢
  have h36 := e6 _ _ (e5 _ _ h3)
  walk_at "go"
  refine ⟨p3, _, rfl, .inl ⟨SqL.of h36, fun t1 ht1 => ?_⟩⟩
  have e7 := Same.new ht1 (.tup (ns.map V.int))
  have h7 : (upd H6 t1 (.tup (ns.map V.int))) t1 = some (.tup (ns.map V.int)) := upd_same
  generalize upd H6 t1 (.tup (ns.map V.int)) = H7 at e7 h7 ⊢
  walk_at "go"
  refine ⟨p6, _, rfl, .inl ⟨SqL.of (e7 _ _ h6), fun t2 ht2 => ?_⟩⟩
  have e8 := Same.new ht2 (.tup (ns2.map V.int))
  have h8 : (upd H7 t2 (.tup (ns2.map V.int))) t2 = some (.tup (ns2.map V.int)) := upd_same
  generalize upd H7 t2 (.tup (ns2.map V.int)) = H8 at e8 h8 ⊢
  walk_at "go"
  refine ⟨(by show 2 ≤ sizeLine; decide), fun a ha => ?_⟩
  have e9 := Same.new ha (.tup [V.ref t1, V.ref t2])
  refine q _ _ (e03.trans (e5.trans (e6.trans (e7.trans (e8.trans e9))))) ⟨a, t1, t2, rfl, SqT.of upd_same, ?_, ?_⟩
  · rw [← eR]
    exact SqT.of (e9 _ _ (e8 _ _ h7))
  · rw [← eC]
    exact SqT.of (e9 _ _ h8)
end
end K3
end F11_part
section F12_part
set_option Elab.async false
set_option linter.all false
set_option maxRecDepth 100000
set_option maxHeartbeats 1000000
set_option pp.deepTerms.threshold 5
open PySem PySem.Spec PyProof.Rows L2
/-- go on as far as nothing is open -/
local macro_rules | `(tactic| walk_at "go") => `(tactic| repeat (first
  | with_reducible refine w_seq ?_ | with_reducible refine w_next ?_ | with_reducible refine w_set ?_ | with_reducible refine w_drop ?_ | with_reducible refine w_ret ?_ | with_reducible refine w_retN ?_
  | with_reducible refine w_if ?_ | ((with_reducible refine' w_var ?hv ?_); (case hv => exact rfl)) | with_reducible refine w_c ?_ | with_reducible refine w_nil ?_ | with_reducible refine w_cons ?_ | with_reducible refine w_op ?_ | with_reducible refine w_un ?_
  | with_reducible refine w_test ?_ | with_reducible refine w_tB ?_ | with_reducible refine w_not ?_ | with_reducible refine w_and ?_ | with_reducible refine w_or ?_ | with_reducible refine w_bl ?_
  | with_reducible refine w_andV ?_ | with_reducible refine w_orV ?_ | with_reducible refine w_notV ?_ | with_reducible refine w_ifE ?_ | with_reducible refine w_chain ?_ | with_reducible refine w_i0 ?_
  | with_reducible refine w_call ?_ | with_reducible refine w_callS ?_ | with_reducible refine w_cB ?_ | with_reducible refine w_tup ?_ | with_reducible refine w_lst ?_ | with_reducible refine w_fldV ?_
  | with_reducible refine w_neF ?_ | with_reducible refine w_neT ?_ | with_reducible refine w_notN ?_ | with_reducible refine w_isN ?_ | with_reducible refine w_gname ?_ | with_reducible refine w_gsub ?_ | with_reducible refine w_asg ?_ | with_reducible refine w_sl ?_ | with_reducible refine w_noP ?_ | with_reducible refine w_int1 ?_ | with_reducible refine w_part ?_ | with_reducible refine w_yes ?_ | with_reducible refine w_nT ?_ | with_reducible refine w_nF ?_ | with_reducible refine w_iteT ?_ | with_reducible refine w_iteF ?_))
namespace K3
theorem any_cell (k : Nat × Nat) : ∀ cs : List (Nat × Nat), ((cs.map cellD).any fun z => PyData.eqv z (cellD k)) = decide (k ∈ cs)
  | [] => rfl
  | x :: cs => by
    rw [List.map_cons, List.any_cons, any_cell k cs, cell_eqv]
    by_cases h : x = k
    · subst h
      simp
    · have : ¬ k = x := fun z => h z.symm
      simp [h, this]
theorem cells_shaped (cs : List (Nat × Nat)) : SeqAt.shaped (.list (cs.map cellD)) = true := by
  obtain ⟨a, b⟩ := lay_cells cs
  unfold SeqAt.shaped
  rw [show (PyData.list (cs.map cellD)).canLay0 = true by simpa only [PyData.canLay0] using a, decide_eq_true (by simp only [PyData.depth]; omega : (PyData.list (cs.map cellD)).depth ≤ 64)]
  rfl
theorem rows_congr {m n : Nat} {F G : Pl → Bool} (h : ∀ p, inPl m n p → F p = G p) : rowsOf m F = rowsOf m G ∧ colsOf n F = colsOf n G := by
  unfold rowsOf colsOf
  constructor
  · congr 1
    exact List.filter_congr fun i hi => h (true, i) (List.mem_range.mp hi)
  · congr 1
    exact List.filter_congr fun i hi => h (false, i) (List.mem_range.mp hi)
theorem allPl_nodup (m n : Nat) : (allPl m n).Nodup := by
  unfold allPl
  rw [List.nodup_append]
  refine ⟨?_, ?_, fun a ha b hb z => ?_⟩
  · exact (List.pairwise_map.mpr (List.Pairwise.imp (fun h e => h (by simpa using e)) List.nodup_range))
  · exact (List.pairwise_map.mpr (List.Pairwise.imp (fun h e => h (by simpa using e)) List.nodup_range))
  · obtain ⟨i, _, rfl⟩ := List.mem_map.mp ha
    obtain ⟨j, _, rfl⟩ := List.mem_map.mp hb
    cases z
theorem allPl_in {m n : Nat} {p : Pl} (h : p ∈ allPl m n) : inPl m n p := by
  unfold allPl at h
  rcases List.mem_append.mp h with h | h
  · obtain ⟨i, hi, rfl⟩ := List.mem_map.mp h
    exact List.mem_range.mp hi
  · obtain ⟨i, hi, rfl⟩ := List.mem_map.mp h
    exact List.mem_range.mp hi
theorem keys_at {H : Hp} : ∀ {kvs : List (List L2.Key × V)} {came : Came} {bs : List Addr}, Paired (CE H) kvs came → IsKeys H kvs bs → Paired (PlAt H) (bs.map V.ref) (keysOf came)
  | _, _, _, .nil, .nil => .nil
  | _, _, _, .cons h t, .cons h' t' => .cons ⟨_, rfl, by rw [← h.1]; exact h'⟩ (keys_at t t')
def spBound (K : PySem.W.Frag) : Sp := fun vs H Q _ => ∃ (g : Addr) (hv v fv : V) (rs : List Addr) (t : List (List Int)) (m n : Nat) (hs : List (Nat × Nat)) (c : Nat × Nat) (R C : List Int), vs = [.ref g, hv, v, fv] ∧ GT K H g rs t ∧ Rect t m n ∧ 1 ≤ m ∧ 1 ≤ n ∧ m ≤ 30 ∧ n ≤ 30 ∧ HidIn K H hv hs m n ∧ CellAt H v c ∧ c ∈ hs ∧ FenceAt K H fv R C ∧
  ∀ a H', Same H H' → H' a = some (.tup [optV (boundF t hs m n (inF R C) c).1, optV (boundF t hs m n (inF R C) c).2]) → Q (.ref a) H'
def spFences (K : PySem.W.Frag) : Sp := fun vs H Q _ => ∃ (g : Addr) (hv v : V) (rs : List Addr) (t : List (List Int)) (m n : Nat) (hs : List (Nat × Nat)) (c : Nat × Nat), vs = [.ref g, hv, v] ∧ GT K H g rs t ∧ Rect t m n ∧ 1 ≤ m ∧ 1 ≤ n ∧ m ≤ 30 ∧ n ≤ 30 ∧ HidIn K H hv hs m n ∧ CellAt H v c ∧ c ∈ hs ∧ 0 ≤ at2 t c.1 c.2 ∧ 0 ≤ roomF m n t c ∧
  ∀ cs a v1 v2 H', (∀ k, k ∈ cs ↔ k ∈ hs) → Srt cs → Same H H' → H' a = some (.tup [v1, v2]) → FenceT K H' v1 (rowsOf m (firstF m n cs t c)) (colsOf n (firstF m n cs t c)) → FenceT K H' v2 (rowsOf m (secondF m n cs t c)) (colsOf n (secondF m n cs t c)) → Q (.ref a) H'
section
variable {P : Program} {w : World} {K : PySem.W.Frag} {mg : Str → Option Value} {base : Heap}
theorem sc_bound : FnScope ["grid", "hidden", "cell", "fence", "cells", "coming", "going", "rest", "other_comes", "one_goes", "other"] ["grid", "hidden", "cell", "fence"] (defScope s_bound) := ⟨rfl, rfl, rfl, by decide +kernel, rfl, by decide +kernel, by decide +kernel⟩
theorem ok_bound (T : Tx K mg) : OkK P w K mg base 5 (He.ga K "bound") ["grid", "hidden", "cell", "fence"] 2 ["cell", "fence"] (spBound K) := by
  obtain ⟨fd, F⟩ := T.f_bound
  have Osum_shown := ok_sum_shown (P := P) (w := w) (base := base) T
  have Ogoing_out := ok_going_out (P := P) (w := w) (base := base) T
  have Ocoming_in := ok_coming_in (P := P) (w := w) (base := base) T
  have Orefuse_shown := ok_refuse_shown (P := P) (w := w) (base := base) T
  have Oread_hidden := ok_read_hidden (P := P) (w := w) (base := base) T
  refine ⟨fd, F.ok (k := 4) sc_bound (fun vs H Q E h => ?_) (fun cdv A outer s_ H vs Q E hr h => ?_), kb_of F fun _ _ _ _ _ _ us ws h1 h2 => match us, ws, h1, h2 with | [_, _], [_, _], _, _ => rfl, F.kp⟩
  · obtain ⟨g, hv, v, fv, rs, t, m, n, hs, c, R, C, rfl, _⟩ := h
    rfl
  obtain ⟨g, hv, v, fv, rs, t, m, n, hs, c, R, C, rfl, ht, hR, m1, n1, m30, n30, hh, hcv, hc, hF, q⟩ := h
  have hu65 := K3.Room.units65 hr
  have hu64 := Nat.lt_of_succ_lt hu65
  have rsum_shown : Room 2 _ := hr.mono (by decide)
  have rgoing_out : Room 3 _ := hr.mono (by decide)
  have rcoming_in : Room 3 _ := hr.mono (by decide)
  have rrefuse_shown : Room 2 _ := hr.mono (by decide)
  have rread_hidden : Room 2 _ := hr.mono (by decide)
  refine ⟨_, pss_cons (ps_set (i := 4) sc_bound.nd rfl (Or.inr rfl) (pe_f Oread_hidden rread_hidden T.g_read_hidden (pa_cons (pv 0) (pa_cons (pv 1) pa_nil))))
      (pss_cons (ps_expr (pe_f Orefuse_shown rrefuse_shown T.g_refuse_shown (pa_cons (pv 0) (pa_cons (pv 4) (pa_cons (pv 2) pa_nil)))))
      (pss_cons (ps_set (i := 5) sc_bound.nd rfl (Or.inl rfl) (pe_f Ocoming_in rcoming_in T.g_coming_in (pa_cons (pv 0) (pa_cons (pv 3) pa_nil))))
      (pss_cons (ps_set (i := 6) sc_bound.nd rfl (Or.inl rfl) (pe_f Ogoing_out rgoing_out T.g_going_out (pa_cons (pv 0) (pa_cons (pv 3) pa_nil))))
      (pss_cons (ps_if (pt_cmpR (op_notInC hu65) (pv 2) (pv 5) (by rfl)) (pss_one (ps_ret (pe_tup (pa_cons pe_non (pa_cons pe_non pa_nil))))) pss_nil)
      (pss_cons (ps_set (i := 7) sc_bound.nd rfl (Or.inl rfl) (pe_op op_sub (pe_f Osum_shown rsum_shown T.g_sum_shown (pa_cons (pv 0) (pa_cons (pv 4) (pa_cons (pv 6) pa_nil)))) (pe_f Osum_shown rsum_shown T.g_sum_shown (pa_cons (pv 0) (pa_cons (pv 4) (pa_cons (pv 5) pa_nil))))))
      (pss_cons (ps_set (i := 8) sc_bound.nd rfl (Or.inl rfl) (pe_callB (cr_any (by rfl)) (by rfl) T.z_any (by decide +kernel) (pa_cons (by exact pe_lc (own := [("other", 10)]) (g := gName 10) (tt := (tTest (tOp (rNeD K) (tVar 10) (tVar 2)))) (te := (tOp (rInD K) (tVar 10) (tVar 4))) (by rfl) sc_bound.nd (pi_list (pv 5)) (blkOk_by (own := [("other", 10)]) (N := ["grid", "hidden", "cell", "fence", "cells", "coming", "going", "rest", "other_comes", "one_goes", "other"]) (sc := defScope s_bound) (by decide +kernel)) (fun _ _ _ _ _ => (pg_name (i := 10) sc_bound.nd rfl (Or.inl rfl))) (fun _ _ _ _ _ => (pts_one (pt_cmpR (op_neD hu64) (pv 10) (pv 2) (nomark _)))) (fun _ _ _ _ _ => (pe_cmpR (op_inD hu65) (pv 10) (pv 4) rfl))) pa_nil)))
      (pss_cons (ps_set (i := 9) sc_bound.nd rfl (Or.inl rfl) (pe_callB (cr_any (by rfl)) (by rfl) T.z_any (by decide +kernel) (pa_cons (by exact pe_lc (own := [("other", 10)]) (g := gName 10) (tt := tYes) (te := (tOp (rInD K) (tVar 10) (tVar 4))) (by rfl) sc_bound.nd (pi_list (pv 6)) (blkOk_by (own := [("other", 10)]) (N := ["grid", "hidden", "cell", "fence", "cells", "coming", "going", "rest", "other_comes", "one_goes", "other"]) (sc := defScope s_bound) (by decide +kernel)) (fun _ _ _ _ _ => (pg_name (i := 10) sc_bound.nd rfl (Or.inl rfl))) (fun _ _ _ _ _ => pts_nil) (fun _ _ _ _ _ => (pe_cmpR (op_inD hu65) (pv 10) (pv 4) rfl))) pa_nil)))
      (pss_one (ps_ret (pe_tup (pa_cons (pe_ifExp (pt_val (pv 8)) pe_non (pv 7)) (pa_cons (pe_ifExp (pt_val (pv 9)) pe_non (pv 7)) pa_nil)))))))))))), ?_⟩
  walk_at "go"
  refine ⟨g, hv, rs, t, m, n, hs, rfl, ht, hR, m1, n1, by omega, by omega, hh, fun l H1 ws cs e1 h1 hw1 hcs lcs srt => ?_⟩
  have inn : ∀ k ∈ cs, k.1 < m ∧ k.2 < n := fun k hk => by
    obtain ⟨p, wp, _, _, _, hmem, _⟩ := hh
    have := drop_mem m1 n1 (hmem k ((hcs k).mp hk))
    exact ⟨this.1, this.2.1⟩
  have hc' : c ∈ cs := (hcs c).mpr hc
  obtain ⟨c1, c2⟩ := inn c hc'
  rw [bound_mem fun k => (hcs k).symm] at q
  walk_at "go"
  refine ⟨g, l, v, rs, t, m, n, ws, cs, c, rfl, ht.same e1, hR, by omega, by omega, h1, hw1, lcs, inn, hcv.same e1, hc', ?_⟩
  walk_at "go"
  refine ⟨g, fv, rs, t, m, n, R, C, rfl, ht.same e1, hR, m1, n1, m30, n30, hF.same e1, fun p2 H2 w2 e2 hp2 h2 hw2 => ?_⟩
  walk_at "go"
  have e12 := e1.trans e2
  refine ⟨g, fv, rs, t, m, n, R, C, rfl, ht.same e12, hR, m1, n1, m30, n30, hF.same e12, fun p3 H3 w3 e3 hp3 h3 hw3 => ?_⟩
  have e13 := e12.trans e3
  have e23 := e2.trans e3
  have h23 := e3 _ _ h2
  have hw23 := L2.Paired.mapP hw2 fun _ _ z => z.same e3
  have hl3 := e23 _ _ h1
  have hw13 := L2.Paired.mapP hw1 fun _ _ z => z.same e23
  have ht3 := ht.same e13
  have hcv3 := hcv.same e13
  generalize hG : inF R C = G at q hw23 hw3
  have lall : ∀ p : Nat × Nat → Bool, ((cellsOf m n).filter p).length ≤ 900 := fun p => by
    refine Nat.le_trans (List.length_filter_le _ _) ?_
    rw [cells_len]
    exact Nat.mul_le_mul m30 n30
  have lco : (comeL m n G).length ≤ 900 := lall _
  have lgo : (goL m n G).length ≤ 900 := lall _
  have bco : ∀ k ∈ comeL m n G, k.1 < m ∧ k.2 < n := fun k hk => (come_mem.mp hk).1
  have bgo : ∀ k ∈ goL m n G, k.1 < m ∧ k.2 < n := fun k hk => (go_mem.mp hk).1
  walk_at "go"
  refine ⟨p2, w2, comeL m n G, c, hcv3, rfl, .inl (SqL.of h23), hw23, by omega, fun k hk => by have := bco k hk; omega, ⟨by omega, by omega⟩, ?_⟩
  walk_at "go"
  by_cases hcm : c ∈ comeL m n G
  · have hcf := (come_mem.mp hcm).2
    rw [decide_eq_true hcm]
    walk_at "go"
    refine ⟨g, l, p3, rs, t, m, n, ws, w3, cs, goL m n G, rfl, ht3, hR, m30, n30, hl3, hw13, lcs, fun k hk => by have := inn k hk; omega, h3, hw3, lgo, bgo, fun H4 e4 => ?_⟩
    walk_at "go"
    refine ⟨g, l, p2, rs, t, m, n, ws, w2, cs, comeL m n G, rfl, ht3.same e4, hR, m30, n30, e4 _ _ hl3, L2.Paired.mapP hw13 fun _ _ z => z.same e4, lcs, fun k hk => by have := inn k hk; omega, e4 _ _ h23, L2.Paired.mapP hw23 fun _ _ z => z.same e4, lco, bco, fun H5 e5 => ?_⟩
    have e45 := e4.trans e5
    walk_at "go"
    refine lcAt_open (list_open ?_)
    walk_at "go"
    refine ⟨p2, rfl, ⟨_, SqL.of (e45 _ _ h23)⟩, fun D hD => ?_⟩
    refine items_gen (F := CellAt) (G := fun _ v (x : Bool) => v = V.bl x) (fun e h => CellAt.same e h) (fun _ h => h) (fun k => !decide (k = c)) (fun k => decide (k ∈ cs)) (SqL.of (e45 _ _ h23)) (L2.Paired.mapP hw23 fun _ _ z => z.same e45) hD (by rw [hw23.length]; omega) ?_ ?_
    · intro vk k H6 e6 hk hvk R' r1 r2
      have e56 := e45.trans e6
      walk_at "go"
      refine ⟨rfl, ?_⟩
      walk_at "go"
      refine ⟨cellD k, cellD c, cell_dp hvk, cell_dp (hcv3.same e56), cell_shaped _, cell_shaped _, ?_⟩
      rw [cell_eqv]
      by_cases z : k = c
      · rw [decide_eq_true z]
        exact ⟨_, rfl, r1 _ (Same.refl _) (by rw [decide_eq_true z]; rfl)⟩
      · rw [decide_eq_false z]
        refine ⟨_, rfl, ?_⟩
        walk_at "go"
        refine ⟨cellD k, cs.map cellD, cell_dp hvk, Dp.lst (SqL.of (e56 _ _ hl3)) (cells_dp (L2.Paired.mapP hw13 fun _ _ y => y.same e56)), cell_shaped _, cells_shaped _, ?_⟩
        rw [any_cell]
        exact r2 _ _ (Same.refl _) (by rw [decide_eq_false z]; rfl) rfl
    intro H6 zs e6 hD6 hz
    walk_at "go"
    refine ⟨D, _, rfl, SqL.of (by rw [hD6, paired_val hz]), ?_⟩
    have e46 := e45.trans e6
    walk_at "go"
    refine lcAt_open (list_open ?_)
    walk_at "go"
    refine ⟨p3, rfl, ⟨_, SqL.of (e46 _ _ h3)⟩, fun D7 hD7 => ?_⟩
    refine items_gen (F := CellAt) (G := fun _ v (x : Bool) => v = V.bl x) (fun e h => CellAt.same e h) (fun _ h => h) (fun _ => true) (fun k => decide (k ∈ cs)) (SqL.of (e46 _ _ h3)) (L2.Paired.mapP hw3 fun _ _ z => z.same e46) hD7 (by rw [hw3.length]; omega) ?_ ?_
    · intro vk k H8 e8 hk hvk R' r1 r2
      have e48 := e46.trans e8
      walk_at "go"
      refine ⟨rfl, ?_⟩
      walk_at "go"
      refine ⟨cellD k, cs.map cellD, cell_dp hvk, Dp.lst (SqL.of (e48 _ _ hl3)) (cells_dp (L2.Paired.mapP hw13 fun _ _ y => y.same e48)), cell_shaped _, cells_shaped _, ?_⟩
      rw [any_cell]
      exact r2 _ _ (Same.refl _) rfl rfl
    intro H8 ys e8 hD8 hy
    walk_at "go"
    refine ⟨D7, _, rfl, SqL.of (by rw [hD8, paired_val hy]), ?_⟩
    have b1 : (((comeL m n G).filter fun k => !decide (k = c)).map fun k => decide (k ∈ cs)).any id = (comeL m n G).any fun k => decide (k ≠ c) && decide (k ∈ cs) := by
      rw [List.any_map, List.any_filter]
      congr 1
      funext k
      simp
    have b2 : (((goL m n G).filter fun _ => true).map fun k => decide (k ∈ cs)).any id = (goL m n G).any fun k => decide (k ∈ cs) := by
      rw [List.any_map, List.any_filter]
      congr 1
    rw [b1, b2]
    have bnd : boundF t cs m n G c = (if ((comeL m n G).any fun k => decide (k ≠ c) && decide (k ∈ cs)) = true then none else some (restF t cs m n G), if ((goL m n G).any fun k => decide (k ∈ cs)) = true then none else some (restF t cs m n G)) := by
      unfold boundF
      rw [if_pos hcf]
    rw [bnd] at q
    generalize ((comeL m n G).any fun k => decide (k ≠ c) && decide (k ∈ cs)) = B1 at q ⊢
    generalize ((goL m n G).any fun k => decide (k ∈ cs)) = B2 at q ⊢
    have rest : shownS t cs (goL m n G) - shownS t cs (comeL m n G) = restF t cs m n G := rfl
    rw [rest]
    have eA := e13.trans (e46.trans e8)
    walk_at "go"
    cases B1 with
    | true =>
      walk_at "go"
      cases B2 with
      | true =>
        walk_at "go"
        exact ⟨(by show 2 ≤ sizeLine; decide), fun a ha => q a _ (eA.trans (Same.new ha _)) upd_same⟩
      | false =>
        walk_at "go"
        exact ⟨(by show 2 ≤ sizeLine; decide), fun a ha => q a _ (eA.trans (Same.new ha _)) upd_same⟩
    | false =>
      walk_at "go"
      cases B2 with
      | true =>
        walk_at "go"
        exact ⟨(by show 2 ≤ sizeLine; decide), fun a ha => q a _ (eA.trans (Same.new ha _)) upd_same⟩
      | false =>
        walk_at "go"
        exact ⟨(by show 2 ≤ sizeLine; decide), fun a ha => q a _ (eA.trans (Same.new ha _)) upd_same⟩
  · rw [decide_eq_false hcm]
    walk_at "go"
    have bnd : boundF t cs m n G c = (none, none) := by
      unfold boundF
      rw [if_neg fun z => hcm (come_mem.mpr ⟨⟨c1, c2⟩, z⟩)]
    rw [bnd] at q
    exact ⟨(by show 2 ≤ sizeLine; decide), fun a ha => q a _ (e13.trans (Same.new ha _)) upd_same⟩
theorem sc_fences : FnScope ["grid", "hidden", "cell", "cells", "start", "goal", "least", "most", "first", "come_to", "place"] ["grid", "hidden", "cell"] (defScope s_fences) := ⟨rfl, rfl, rfl, by decide +kernel, rfl, by decide +kernel, by decide +kernel⟩
theorem ok_fences (T : Tx K mg) : OkK P w K mg base 8 (He.ga K "fences") ["grid", "hidden", "cell"] 2 ["cell"] (spFences K) := by
  obtain ⟨fd, F⟩ := T.f_fences
  have Oways_from := ok_ways_from (P := P) (w := w) (base := base) T
  have Ofence_of := ok_fence_of (P := P) (w := w) (base := base) T
  have Oplaces_of := ok_places_of (P := P) (w := w) (base := base) T
  have Omost_flow := ok_most_flow (P := P) (w := w) (base := base) T
  have Oleast_flow := ok_least_flow (P := P) (w := w) (base := base) T
  have Oarc_of := ok_arc_of (P := P) (w := w) (base := base) T
  have Orefuse_shown := ok_refuse_shown (P := P) (w := w) (base := base) T
  have Oread_hidden := ok_read_hidden (P := P) (w := w) (base := base) T
  refine ⟨fd, F.ok (k := 7) sc_fences (fun vs H Q E h => ?_) (fun cdv A outer s_ H vs Q E hr h => ?_), kb_of F fun _ _ _ _ _ _ us ws h1 h2 => match us, ws, h1, h2 with | [_, _], [_], _, _ => rfl, F.kp⟩
  · obtain ⟨g, hv, v, rs, t, m, n, hs, c, rfl, _⟩ := h
    rfl
  obtain ⟨g, hv, v, rs, t, m, n, hs, c, rfl, ht, hR, m1, n1, m30, n30, hh, hcv, hc, h0, hrm, q⟩ := h
  have hu65 := K3.Room.units65 hr
  have hu64 := Nat.lt_of_succ_lt hu65
  have hu1 := Nat.lt_of_le_of_lt (Nat.add_le_add_left (show 1 ≤ 65 by decide) _) hu65
  have rways_from : Room 2 _ := hr.mono (by decide)
  have rfence_of : Room 1 _ := hr.mono (by decide)
  have rplaces_of : Room 1 _ := hr.mono (by decide)
  have rmost_flow : Room 7 _ := hr.mono (by decide)
  have rleast_flow : Room 7 _ := hr.mono (by decide)
  have rarc_of : Room 2 _ := hr.mono (by decide)
  have rrefuse_shown : Room 2 _ := hr.mono (by decide)
  have rread_hidden : Room 2 _ := hr.mono (by decide)
  refine ⟨_, pss_cons (ps_set (i := 3) sc_fences.nd rfl (Or.inl rfl) (pe_f Oread_hidden rread_hidden T.g_read_hidden (pa_cons (pv 0) (pa_cons (pv 1) pa_nil))))
      (pss_cons (ps_expr (pe_f Orefuse_shown rrefuse_shown T.g_refuse_shown (pa_cons (pv 0) (pa_cons (pv 3) (pa_cons (pv 2) pa_nil)))))
      (pss_cons (ps_asg (pe_f Oarc_of rarc_of T.g_arc_of (pa_cons (pv 0) (pa_cons (pv 2) pa_nil))) (pg_tup (by rfl) (pgs_cons (pg_name (i := 4) sc_fences.nd rfl (Or.inl rfl)) (pgs_cons (pg_name (i := 5) sc_fences.nd rfl (Or.inl rfl)) pgs_nil))))
      (pss_cons (ps_set (i := 6) sc_fences.nd rfl (Or.inl rfl) (pe_f Oleast_flow rleast_flow T.g_least_flow (pa_cons (pv 0) (pa_cons (pv 3) (pa_cons (pv 2) pa_nil)))))
      (pss_cons (ps_set (i := 7) sc_fences.nd rfl (Or.inl rfl) (pe_f Omost_flow rmost_flow T.g_most_flow (pa_cons (pv 0) (pa_cons (pv 3) (pa_cons (pv 2) pa_nil)))))
      (pss_cons (ps_set (i := 8) sc_fences.nd rfl (Or.inl rfl) (pe_gref T.g_NO_FENCE))
      (pss_cons (ps_if (pt_cmpR op_gt (pe_mth0 (pv 6) T.cl_Flow (ok_now T) T.m_Flow_number_now (hr.mono (by decide))) pe_int (nomark _)) (pss_cons (ps_set (i := 9) sc_fences.nd rfl (Or.inr rfl) (pe_f Oways_from rways_from T.g_ways_from (pa_cons (pv 6) (pa_cons (pv 4) pa_nil))))
      (pss_one (ps_set (i := 8) sc_fences.nd rfl (Or.inl rfl) (pe_f Ofence_of rfence_of T.g_fence_of (pa_cons (by exact pe_lc (own := [("place", 10)]) (g := gName 10) (tt := (tTest (tDNotIn (tVar 10) (tVar 9)))) (te := (tVar 10)) (by rfl) sc_fences.nd (pi_list (pe_f Oplaces_of rplaces_of T.g_places_of (pa_cons (pv 0) pa_nil))) (blkOk_by (own := [("place", 10)]) (N := ["grid", "hidden", "cell", "cells", "start", "goal", "least", "most", "first", "come_to", "place"]) (sc := defScope s_fences) (by decide +kernel)) (fun _ _ _ _ _ => (pg_name (i := 10) sc_fences.nd rfl (Or.inl rfl))) (fun _ _ _ _ _ => (pts_one (pt_cmp (pc_dnotin hu1 (pv 10) (pv 9))))) (fun _ _ _ _ _ => (pv 10))) pa_nil))))) pss_nil)
      (pss_one (ps_ret (pe_tup (pa_cons (pv 8) (pa_cons (pe_f Ofence_of rfence_of T.g_fence_of (pa_cons (pe_callTy (call_list_dT (by rfl)) (by rfl) T.z_list (by decide +kernel) (pa_cons (pe_f Oways_from rways_from T.g_ways_from (pa_cons (pv 7) (pa_cons (pv 5) pa_nil))) pa_nil)) pa_nil)) pa_nil))))))))))), ?_⟩
  walk_at "go"
  refine ⟨g, hv, rs, t, m, n, hs, rfl, ht, hR, m1, n1, by omega, by omega, hh, fun l H1 ws cs e1 h1 hw1 hcs lcs srt => ?_⟩
  have inn : ∀ k ∈ cs, k.1 < m ∧ k.2 < n := fun k hk => by
    obtain ⟨p, wp, _, _, _, hmem, _⟩ := hh
    have := drop_mem m1 n1 (hmem k ((hcs k).mp hk))
    exact ⟨this.1, this.2.1⟩
  have hc' : c ∈ cs := (hcs c).mpr hc
  obtain ⟨c1, c2⟩ := inn c hc'
  obtain ⟨pl1, pl2⟩ := arc_place c1 c2
  have hS : StepsOk m n (stF m n cs c) := steps_ok m1 n1 (fun k hk => inn k (others_mem.mp hk).1) (Nat.le_trans (List.length_filter_le _ _) lcs)
  have A1 : Asked K H1 g l v rs t m n ws cs c := ⟨ht.same e1, hR, m1, n1, by omega, by omega, h1, hw1, lcs, inn, hcv.same e1, c1, c2, h0, hrm⟩
  walk_at "go"
  refine ⟨g, l, v, rs, t, m, n, ws, cs, c, rfl, A1.tab, hR, by omega, by omega, h1, hw1, lcs, inn, A1.cell, hc', ?_⟩
  walk_at "go"
  refine ⟨g, v, rs, t, m, n, c, rfl, A1.tab, hR, m1, n1, A1.cell, fun va H2 x1 x2 e2 ha p1 p2 => ?_⟩
  refine w_gtup (SqT.of ha) rfl (w_gnn ?_)
  dsimp only
  have A2 := A1.same e2
  walk_at "go"
  refine ⟨g, l, v, rs, t, m, n, ws, cs, c, rfl, A2, fun F1 H3 np1 rs1 e3 fl1 np10 rs10 => ?_⟩
  have A3 := A2.same e3
  walk_at "go"
  refine ⟨g, l, v, rs, t, m, n, ws, cs, c, rfl, A3, fun F2 H4 np2 rs2 e4 fl2 np20 rs20 => ?_⟩
  have e34 := e3.trans e4
  have e14 := e1.trans (e2.trans e34)
  have fl1' := fl1.same e4
  have A4 := A3.same e4
  have p14 := p1.same e34
  have p24 := p2.same e34
  have fin : ∀ (v1 : V) (o9 : Option V) (H5 : Hp), Same H4 H5 → FenceT K H5 v1 (rowsOf m (firstF m n cs t c)) (colsOf n (firstF m n cs t c)) →
      (tTup (tCons (tVar 8) (tCons (tCall (spFenceOf K) [] E0 (tCons (tCB (fun xs H Q => ∃ d kvs, xs = [V.ref d] ∧ Rd H d (.dT kvs) ∧ ∀ p bs, H p = none → IsKeys H kvs bs → Q (.ref p) (upd H p (.lst (bs.map V.ref)))) (tCons (tCall (spWays K) [] E0 (tCons (tVar 7) (tCons (tVar 5) tNil))) tNil)) tNil)) tNil))) [some (.ref g), some hv, some v, some (.ref l), some x1, some x2, some (.ref F1), some (.ref F2), some v1, o9, none] H5 Q := by
    intro v1 o9 H5 e5 hf1
    walk_at "go"
    refine ⟨F2, x2, c, np2, rs2, _, m, n, _, _, rfl, fl2.same e5, hS, by omega, by omega, p24.same e5, pl2, fun d H6 e6 hd hcame => ?_⟩
    obtain ⟨w1, _⟩ := ways_ok (u := mostF m n cs t c) hS pl2
    obtain ⟨kvs, hkv, hkp⟩ := hcame
    walk_at "go"
    refine ⟨d, kvs, rfl, Rd.of hkv, fun p bs hp hbs => ?_⟩
    have e7 := Same.new hp (.lst (bs.map V.ref))
    have kp := L2.Paired.mapP (keys_at hkp hbs) fun _ _ y => y.same e7
    have h7 : (upd H6 p (.lst (bs.map V.ref))) p = some (.lst (bs.map V.ref)) := upd_same
    generalize upd H6 p (.lst (bs.map V.ref)) = H7 at e7 kp h7 ⊢
    walk_at "go"
    refine ⟨p, _, _, m, n, rfl, h7, kp, w1.ok.nd, w1.ok.place, by omega, by omega, fun v2 H8 e8 hf2 => ?_⟩
    walk_at "go"
    have e58 := e6.trans (e7.trans e8)
    refine ⟨(by show 2 ≤ sizeLine; decide), fun a9 ha9 => ?_⟩
    have e9 := Same.new ha9 (.tup [v1, v2])
    exact q cs a9 v1 v2 _ hcs srt (e14.trans (e5.trans (e58.trans e9))) upd_same (hf1.same (e58.trans e9)) (hf2.same e9)
  obtain ⟨⟨dx1, vc1, d1, kvs1, hob1, hvc1, _⟩, htab1, hrect1, hnd1, hne1⟩ := id fl1'
  walk_at "go"
  refine w_meth (w_var rfl ⟨F1, _, _, rfl, hob1, rfl, w_nil ?_⟩)
  refine ⟨F1, c, np1, rs1, _, m, n, _, rfl, fl1', c1, c2, ?_⟩
  walk_at "go"
  by_cases pos : 0 < at2 (leastF m n cs t c) c.1 c.2
  · rw [decide_eq_true pos]
    walk_at "go"
    refine ⟨F1, x1, c, np1, rs1, _, m, n, _, _, rfl, fl1', hS, by omega, by omega, p14, pl1, fun d H5 e5 hd hcame => ?_⟩
    obtain ⟨w1, _⟩ := ways_ok (u := leastF m n cs t c) hS pl1
    have lk := w1.ok.len
    have hfe : ∀ p, firstF m n cs t c p = !decide (p ∈ keysOf (waysF (leastF m n cs t c) (stF m n cs c) (m + n + 1) (arcF m n c).1)) := fun p => by
      unfold firstF
      rw [decide_eq_true pos, Bool.true_and]
    generalize waysF (leastF m n cs t c) (stF m n cs c) (m + n + 1) (arcF m n c).1 = came at hcame w1 lk hfe
    obtain ⟨kvs, hkv, hkp⟩ := hcame
    walk_at "go"
    refine lcAt_open (list_open ?_)
    walk_at "go"
    have ht5 := A4.tab.same e5
    refine ⟨g, rs, t, m, n, rfl, ht5, hR, m1, by omega, by omega, fun p6 H6 w6 e6 hp6 h6 hw6 => ?_⟩
    have lw6 : w6.length ≤ 120 := by
      rw [hw6.length]
      unfold allPl
      rw [List.length_append, List.length_map, List.length_map, List.length_range, List.length_range]
      omega
    refine ⟨p6, rfl, ⟨_, SqL.of h6⟩, fun D hD => ?_⟩
    refine items_gen (F := PlAt) (G := PlAt) (fun e h => PlAt.same e h) (fun e h => PlAt.tk e h) (fun p => !decide (p ∈ keysOf came)) (fun p => p) (SqL.of h6) hw6 hD (by omega) ?_ ?_
    · intro vp p H7 e7 hp hvp R' r1 r2
      have hvp0 := hvp
      obtain ⟨ap, rfl, hap⟩ := hvp
      walk_at "go"
      refine ⟨rfl, ?_⟩
      walk_at "go"
      refine ⟨_, rfl, _, rfl, d, _, rfl, DGet.t (e7 _ _ (e6 _ _ hkv)) hap, ?_⟩
      rcases came_get hkp p with ⟨hn, hv0⟩ | ⟨i, o, vv, hi, _, hv1, _⟩
      · rw [hv0]
        refine ⟨_, rfl, ?_⟩
        rw [if_pos (by rfl)]
        walk_at "go"
        exact r2 _ _ (Same.refl _) (by rw [decide_eq_false hn]; rfl) hvp0
      · rw [hv1]
        have hm : p ∈ keysOf came := List.mem_map.mpr ⟨_, List.mem_of_getElem? hi, rfl⟩
        refine ⟨_, rfl, ?_⟩
        rw [if_neg (show ¬ (!(some vv : Option V).isSome) = true by simp)]
        exact r1 _ (Same.refl _) (by rw [decide_eq_true hm]; rfl)
    intro H7 zs e7 hD7 hz
    rw [List.map_id'] at hz
    walk_at "go"
    refine ⟨D, zs, _, m, n, rfl, hD7, hz, List.Pairwise.sublist List.filter_sublist (allPl_nodup m n), fun p hp => allPl_in (List.mem_filter.mp hp).1, by omega, by omega, fun v1 H8 e8 hf1 => ?_⟩
    have cg := rows_congr (m := m) (n := n) (F := fun p => decide (p ∈ (allPl m n).filter fun p => !decide (p ∈ keysOf came))) (G := firstF m n cs t c) fun p hp => by
      rw [hfe]
      by_cases z : p ∈ keysOf came
      · rw [decide_eq_true z]
        refine decide_eq_false fun y => ?_
        have := (List.mem_filter.mp y).2
        rw [decide_eq_true z] at this
        cases this
      · rw [decide_eq_false z]
        exact decide_eq_true (List.mem_filter.mpr ⟨allPl_mem hp, by rw [decide_eq_false z]; rfl⟩)
    rw [cg.1, cg.2] at hf1
    exact fin v1 _ H8 (e5.trans (e6.trans (e7.trans e8))) hf1
  · rw [decide_eq_false pos]
    refine w_iteF ?_
    obtain ⟨b1, b2, hnf⟩ := noFence_ok T.e
    have hff : ∀ p, firstF m n cs t c p = false := fun p => by
      unfold firstF
      rw [decide_eq_false pos]
      rfl
    have e1 : rowsOf m (firstF m n cs t c) = [] := by unfold rowsOf; simp [hff]
    have e2 : colsOf n (firstF m n cs t c) = [] := by unfold colsOf; simp [hff]
    refine fin _ _ H4 (Same.refl _) ⟨_, b1, b2, rfl, (hnf H4).1, ?_, ?_⟩
    · rw [e1]
      exact (hnf H4).2.1
    · rw [e2]
      exact (hnf H4).2.2
end
end K3
end F12_part
section L2_part
set_option Elab.async false
set_option linter.all false
set_option maxRecDepth 100000
set_option maxHeartbeats 1000000
set_option pp.deepTerms.threshold 5
open PySem PySem.Spec PyProof.Rows L2
/-- go on as far as nothing is open -/
local macro_rules | `(tactic| walk_at "go") => `(tactic| repeat (first
  | with_reducible refine w_seq ?_ | with_reducible refine w_next ?_ | with_reducible refine w_set ?_ | with_reducible refine w_drop ?_ | with_reducible refine w_ret ?_ | with_reducible refine w_retN ?_
  | with_reducible refine w_if ?_ | ((with_reducible refine' w_var ?hv ?_); (case hv => exact rfl)) | with_reducible refine w_c ?_ | with_reducible refine w_nil ?_ | with_reducible refine w_cons ?_ | with_reducible refine w_op ?_ | with_reducible refine w_un ?_
  | with_reducible refine w_test ?_ | with_reducible refine w_tB ?_ | with_reducible refine w_not ?_ | with_reducible refine w_and ?_ | with_reducible refine w_or ?_ | with_reducible refine w_bl ?_
  | with_reducible refine w_andV ?_ | with_reducible refine w_orV ?_ | with_reducible refine w_notV ?_ | with_reducible refine w_ifE ?_ | with_reducible refine w_chain ?_ | with_reducible refine w_i0 ?_
  | with_reducible refine w_call ?_ | with_reducible refine w_callS ?_ | with_reducible refine w_cB ?_ | with_reducible refine w_tup ?_ | with_reducible refine w_lst ?_ | with_reducible refine w_fldV ?_
  | with_reducible refine w_neF ?_ | with_reducible refine w_neT ?_ | with_reducible refine w_notN ?_ | with_reducible refine w_isN ?_ | with_reducible refine w_gname ?_ | with_reducible refine w_gsub ?_ | with_reducible refine w_asg ?_ | with_reducible refine w_sl ?_ | with_reducible refine w_noP ?_ | with_reducible refine w_int1 ?_ | with_reducible refine w_part ?_ | with_reducible refine w_yes ?_ | with_reducible refine w_nT ?_ | with_reducible refine w_nF ?_ | with_reducible refine w_iteT ?_ | with_reducible refine w_iteF ?_))
namespace K3
/-- the state that digits are taken from: the given number's rest, then two that are mixed -/
def Sd (H : Hp) (s : Addr) : Prop := ∃ a b c : Int, H s = some (.lst [.int a, .int b, .int c]) ∧ 0 ≤ b ∧ b < 4294967296 ∧ 0 ≤ c ∧ c < 4294967296
theorem Sd.same {H H' : Hp} {s : Addr} (h : Sd H s) (e : Same H H') : Sd H' s := let ⟨a, b, c, q, r⟩ := h; ⟨a, b, c, e _ _ q, r⟩
theorem Sd.src {H : Hp} {s : Addr} (h : Sd H s) : Src H s := let ⟨a, b, c, q, _⟩ := h; ⟨a, b, c, q⟩
theorem Sd.upd {H : Hp} {s p : Addr} (hs : Sd H s) (ne : p ≠ s) (o : HO) : Sd (L2.upd H p o) s := let ⟨a, b, c, h, r⟩ := hs; ⟨a, b, c, by rw [upd_ne ne.symm]; exact h, r⟩
theorem Sd.bm {H H' : Hp} {s : Addr} {M : List Addr} (h : Sd H s) (e : BM M H H') (k : s ∉ M) : Sd H' s := let ⟨a, b, c, q, r⟩ := h; ⟨a, b, c, e.at q k, r⟩
def spState (K : PySem.W.Frag) : Sp := fun vs H Q _ => ∃ c : Int, vs = [.int c] ∧ ∀ p H', H p = none → Same H H' → Sd H' p → Q (.ref p) H'
def spDigit (K : PySem.W.Frag) : Sp := fun vs H Q _ => ∃ (s : Addr) (m : Int), vs = [.ref s, .int m] ∧ Sd H s ∧ 0 < m ∧ m < 2 ^ 62 ∧ ∀ (r : Nat) H', (r : Int) < m → BM [s] H H' → Sd H' s → Q (.int (r : Int)) H'
theorem mul01 (x : Int) (z : Bool) : CMul x (if z = true then 1 else 0) := .inr (by cases z <;> decide)
section
variable {P : Program} {w : World} {K : PySem.W.Frag} {mg : Str → Option Value} {base : Heap}
theorem sc_state : FnScope ["_law_place"] ["_law_place"] (defScope s__law_state) := ⟨rfl, rfl, rfl, by decide +kernel, rfl, by decide +kernel, by decide +kernel⟩
theorem ok_state (T : Tx K mg) : Ok P w K mg base 1 (He.ga K "_law_state") ["_law_place"] (spState K) := by
  obtain ⟨fd, F⟩ := T.f__law_state
  refine ⟨fd, F.ok (k := 0) sc_state (fun vs H Q E h => ?_) (fun cdv A outer s_ H vs Q E hr h => ?_), F.bindsN fun _ _ _ _ _ _ us hl => match us, hl with | [_], _ => rfl, F.kp⟩
  · obtain ⟨c, rfl, q⟩ := h
    rfl
  obtain ⟨c, rfl, q⟩ := h
  have hu65 := K3.Room.units65 hr
  have hu64 := Nat.lt_of_succ_lt hu65
  have hu0 := Nat.lt_of_le_of_lt (Nat.le_add_right _ 65) hu65
  have hu1 := Nat.lt_of_le_of_lt (Nat.add_le_add_left (show 1 ≤ 65 by decide) _) hu65
  refine ⟨_, pss_cons (ps_set (i := 0) sc_state.nd rfl (Or.inl rfl) (pe_callB call_abs (by rfl) T.z_abs (by decide +kernel) (pa_cons (pv 0) pa_nil)))
      (pss_one (ps_ret (pe_lst (pa_cons (pe_op op_mul (pv 0) (pe_callTy call_int1 (by rfl) T.z_int (by decide +kernel) (pa_cons (pe_cmpR op_ge (pv 0) (pe_op op_pow pe_int pe_int) rfl) pa_nil))) (pa_cons (pe_op op_add (pe_op op_mod (pv 0) pe_int) pe_int) (pa_cons (pe_op op_mod (pv 0) pe_int) pa_nil)))))), ?_⟩
  walk_at "go"
  refine ⟨c, rfl, ?_⟩
  walk_at "go"
  refine w_i (by refine ⟨?_, ?_, ?_⟩ <;> decide) ?_
  walk_at "go"
  (refine .inr ⟨_, rfl, ?_⟩; walk_at "go")
  refine w_i (mul01 _ _) ?_
  walk_at "go"
  refine w_i (by decide) ?_
  walk_at "go"
  refine w_i (by decide) ?_
  walk_at "go"
  exact ⟨(by show 3 ≤ sizeLine; decide), fun p hp => q p _ hp (Same.new hp _) ⟨_, _, _, upd_same, by omega, by omega, by omega, by omega⟩⟩
theorem sc_digit : FnScope ["_law_state_here", "_law_base", "_law_found", "_law_more"] ["_law_state_here", "_law_base"] (defScope s__law_digit) := ⟨rfl, rfl, rfl, by decide +kernel, rfl, by decide +kernel, by decide +kernel⟩
theorem ok_digit (T : Tx K mg) : Ok P w K mg base 1 (He.ga K "_law_digit") ["_law_state_here", "_law_base"] (spDigit K) := by
  obtain ⟨fd, F⟩ := T.f__law_digit
  refine ⟨fd, F.ok (k := 0) sc_digit (fun vs H Q E h => ?_) (fun cdv A outer s_ H vs Q E hr h => ?_), F.bindsN fun _ _ _ _ _ _ us hl => match us, hl with | [_, _], _ => rfl, F.kp⟩
  · obtain ⟨s, m, rfl, ⟨a, b, c, hs, b0, b1, c0, c1⟩, m0, m1, q⟩ := h
    rfl
  obtain ⟨s, m, rfl, ⟨a, b, c, hs, b0, b1, c0, c1⟩, m0, m1, q⟩ := h
  have hu65 := K3.Room.units65 hr
  have hu64 := Nat.lt_of_succ_lt hu65
  have hu0 := Nat.lt_of_le_of_lt (Nat.le_add_right _ 65) hu65
  have hu1 := Nat.lt_of_le_of_lt (Nat.add_le_add_left (show 1 ≤ 65 by decide) _) hu65
  refine ⟨_, pss_cons (ps_if (pt_cmpR op_gt (pe_ix ix_list (pv 0) pe_int (fun _ _ => rfl)) pe_int (nomark _)) (pss_cons (ps_set (i := 2) sc_digit.nd rfl (Or.inl rfl) (pe_op op_mod (pe_ix ix_list (pv 0) pe_int (fun _ _ => rfl)) (pv 1)))
      (pss_cons (ps_asg (pe_op op_fdivW (pe_ix ix_list (pv 0) pe_int (fun _ _ => rfl)) (pv 1)) (pg_sub (pv 0) pe_int set_list))
      (pss_one (ps_ret (pv 2))))) pss_nil)
      (pss_cons (ps_set (i := 3) sc_digit.nd rfl (Or.inl rfl) (pe_op op_mul (pe_ix ix_list (pv 0) pe_int (fun _ _ => rfl)) (pe_op op_add (pe_op op_fdiv (pe_ix ix_list (pv 0) pe_int (fun _ _ => rfl)) pe_int) pe_int)))
      (pss_cons (ps_asg (pe_op op_add (pe_op op_mod (pe_op op_add (pv 3) (pe_ix ix_list (pv 0) pe_int (fun _ _ => rfl))) pe_int) pe_int) (pg_sub (pv 0) pe_int set_list))
      (pss_one (ps_ret (pe_op op_mod (pe_op op_fdiv (pe_ix ix_list (pv 0) pe_int (fun _ _ => rfl)) pe_int) (pv 1)))))), ?_⟩
  have dv : CDivW a m := wide_div (b := 64) m0 (by omega) (by decide) (by decide)
  have qq : ∀ {r : Int} {H' : Hp}, 0 ≤ r → r < m → BM [s] H H' → Sd H' s → Q (.int r) H' := fun {r H'} r0 r1 hb hs => by
    obtain ⟨n, rfl⟩ : ∃ n : Nat, r = (n : Int) := ⟨r.toNat, by omega⟩
    exact q n H' r1 hb hs
  walk_at "go"
  refine w_ixL hs rfl ?_
  walk_at "go"
  by_cases a0 : (0 : Int) < a
  · rw [show decide (a > 0) = true from decide_eq_true a0]
    walk_at "go"
    refine w_ixL hs rfl ?_
    walk_at "go"
    refine w_i m0 ?_
    walk_at "go"
    refine w_ixL hs rfl ?_
    walk_at "go"
    refine w_i dv ?_
    walk_at "go"
    refine w_setL hs rfl ?_
    walk_at "go"
    exact qq (Int.emod_nonneg _ (by omega)) (Int.emod_lt_of_pos _ m0) (BM.upd (List.mem_singleton.mpr rfl) _) ⟨_, _, _, upd_same, b0, b1, c0, c1⟩
  · rw [show decide (a > 0) = false from decide_eq_false a0]
    walk_at "go"
    refine w_ixL hs rfl ?_
    walk_at "go"
    refine w_ixL hs rfl ?_
    walk_at "go"
    refine w_i (by refine ⟨?_, ?_⟩ <;> decide) ?_
    walk_at "go"
    refine w_i (.inl ⟨by omega, by omega⟩) ?_
    walk_at "go"
    refine w_ixL hs rfl ?_
    walk_at "go"
    refine w_i (by decide) ?_
    walk_at "go"
    refine w_setL hs rfl ?_
    walk_at "go"
    refine w_ixL upd_same rfl ?_
    walk_at "go"
    refine w_i (by refine ⟨?_, ?_⟩ <;> decide) ?_
    walk_at "go"
    refine w_i m0 ?_
    exact qq (Int.emod_nonneg _ (by omega)) (Int.emod_lt_of_pos _ m0) (BM.upd (List.mem_singleton.mpr rfl) _) ⟨_, _, _, upd_same, by omega, by omega, c0, c1⟩
end
end K3
end L2_part
section L3_part
set_option Elab.async false
set_option linter.all false
set_option maxRecDepth 100000
set_option maxHeartbeats 1000000
set_option pp.deepTerms.threshold 5
open PySem PySem.Spec PyProof.Rows L2
/-- go on as far as nothing is open -/
local macro_rules | `(tactic| walk_at "go") => `(tactic| repeat (first
  | with_reducible refine w_seq ?_ | with_reducible refine w_next ?_ | with_reducible refine w_set ?_ | with_reducible refine w_drop ?_ | with_reducible refine w_ret ?_ | with_reducible refine w_retN ?_
  | with_reducible refine w_if ?_ | ((with_reducible refine' w_var ?hv ?_); (case hv => exact rfl)) | with_reducible refine w_c ?_ | with_reducible refine w_nil ?_ | with_reducible refine w_cons ?_ | with_reducible refine w_op ?_ | with_reducible refine w_un ?_
  | with_reducible refine w_test ?_ | with_reducible refine w_tB ?_ | with_reducible refine w_not ?_ | with_reducible refine w_and ?_ | with_reducible refine w_or ?_ | with_reducible refine w_bl ?_
  | with_reducible refine w_andV ?_ | with_reducible refine w_orV ?_ | with_reducible refine w_notV ?_ | with_reducible refine w_ifE ?_ | with_reducible refine w_chain ?_ | with_reducible refine w_i0 ?_
  | with_reducible refine w_call ?_ | with_reducible refine w_callS ?_ | with_reducible refine w_cB ?_ | with_reducible refine w_tup ?_ | with_reducible refine w_lst ?_ | with_reducible refine w_fldV ?_
  | with_reducible refine w_neF ?_ | with_reducible refine w_neT ?_ | with_reducible refine w_notN ?_ | with_reducible refine w_isN ?_ | with_reducible refine w_gname ?_ | with_reducible refine w_gsub ?_ | with_reducible refine w_asg ?_ | with_reducible refine w_sl ?_ | with_reducible refine w_noP ?_ | with_reducible refine w_int1 ?_ | with_reducible refine w_part ?_ | with_reducible refine w_yes ?_ | with_reducible refine w_nT ?_ | with_reducible refine w_nF ?_ | with_reducible refine w_iteT ?_ | with_reducible refine w_iteF ?_))
namespace K3
def spSummed (K : PySem.W.Frag) : Sp := fun vs H Q _ => ∃ (p : Addr) (rs : List Addr) (t : List (List Int)) (k : Nat), vs = [.ref p] ∧ Tab H p rs t ∧ (∀ r ∈ t, r.length = k) ∧ t ≠ [] ∧ t.length ≤ 100 ∧ k ≤ 100 ∧ ∀ p' H' rs', Same H H' → New H p' rs' → Tab H' p' rs' (withSums k t) → Q (.ref p') H'
section
variable {P : Program} {w : World} {K : PySem.W.Frag} {mg : Str → Option Value} {base : Heap}
theorem sc_summed : FnScope ["_law_inner", "_law_rows", "_law_row", "_law_k"] ["_law_inner"] (defScope s__law_summed) := ⟨rfl, rfl, rfl, by decide +kernel, rfl, by decide +kernel, by decide +kernel⟩
theorem ok_summed (T : Tx K mg) : Ok P w K mg base 1 (He.ga K "_law_summed") ["_law_inner"] (spSummed K) := by
  obtain ⟨fd, F⟩ := T.f__law_summed
  refine ⟨fd, F.ok (k := 0) sc_summed (fun vs H Q E h => ?_) (fun cdv A outer s_ H vs Q E hr h => ?_), F.bindsN fun _ _ _ _ _ _ us hl => match us, hl with | [_], _ => rfl, F.kp⟩
  · obtain ⟨p, rs, t, k, rfl, ht, hk, h0, hn, hk1, q⟩ := h
    rfl
  obtain ⟨p, rs, t, k, rfl, ht, hk, h0, hn, hk1, q⟩ := h
  have hu65 := K3.Room.units65 hr
  have hu64 := Nat.lt_of_succ_lt hu65
  have hu0 := Nat.lt_of_le_of_lt (Nat.le_add_right _ 65) hu65
  have hu1 := Nat.lt_of_le_of_lt (Nat.add_le_add_left (show 1 ≤ 65 by decide) _) hu65
  refine ⟨_, pss_cons (ps_set (i := 1) sc_summed.nd rfl (Or.inr rfl) (by exact pe_lc (own := [("_law_row", 2)]) (g := gName 2) (tt := tYes) (te := (tOp rCat (tCB (fun xs H Q => ∃ p ys, xs = [V.ref p] ∧ (SqL K H p ys ∨ SqT K H p ys) ∧ ∀ l, H l = none → Q (.ref l) (upd H l (.lst ys))) (tCons (tVar 2) tNil)) (tLst (tCons (tCB (rSum K) (tCons (tVar 2) tNil)) tNil)))) (by rfl) sc_summed.nd (pi_list (pv 0)) (blkOk_by (own := [("_law_row", 2)]) (N := ["_law_inner", "_law_rows", "_law_row", "_law_k"]) (sc := defScope s__law_summed) (by decide +kernel)) (fun _ _ _ _ _ => (pg_name (i := 2) sc_summed.nd rfl (Or.inl rfl))) (fun _ _ _ _ _ => pts_nil) (fun _ _ _ _ _ => (pe_op op_cat (pe_callTy call_list_of (by rfl) T.z_list (by decide +kernel) (pa_cons (pv 2) pa_nil)) (pe_lst (pa_cons (pe_callB (cr_sum (by rfl)) (by rfl) T.z_sum (by decide +kernel) (pa_cons (pv 2) pa_nil)) pa_nil))))))
      (pss_one (ps_ret (pe_op op_cat (pv 1) (pe_lst (pa_cons (by exact pe_lc (own := [("_law_k", 3)]) (g := gName 3) (tt := tYes) (te := (tCB (rSum K) (tCons (tLc (iList K (tVar 1)) (gName 2) tYes (tOp (rIxL K) (tVar 2) (tVar 3)) [2]) tNil))) (by rfl) sc_summed.nd (pi_range1 rfl T.z_range (pa_cons (pe_callB call_len_seq (by rfl) T.z_len PySem.boot_len (pa_cons (pe_ix ix_list (pv 1) pe_int (fun _ _ => rfl)) pa_nil)) pa_nil)) (blkOk_by (own := [("_law_k", 3)]) (N := ["_law_inner", "_law_rows", "_law_row", "_law_k"]) (sc := defScope s__law_summed) (by decide +kernel)) (fun _ _ _ _ _ => (pg_name (i := 3) sc_summed.nd rfl (Or.inr rfl))) (fun _ _ _ _ _ => pts_nil) (fun _ _ _ _ _ => (pe_callB (cr_sum (by rfl)) (by rfl) T.z_sum (by decide +kernel) (pa_cons (by exact pe_lc (own := [("_law_row", 2)]) (g := gName 2) (tt := tYes) (te := (tOp (rIxL K) (tVar 2) (tVar 3))) (by rfl) sc_summed.nd (pi_list (pv 1)) (blkOk_by (own := [("_law_row", 2)]) (N := ["_law_inner", "_law_rows", "_law_row", "_law_k"]) (sc := { kind := .function, names := [(".0", .local), ("_law_k", .cell), ("sum", .globalImplicit), ("_law_rows", .cell)], isGenerator := false, isCoroutine := false }) (by decide +kernel)) (fun _ _ _ _ _ => (pg_name (i := 2) sc_summed.nd rfl (Or.inl rfl))) (fun _ _ _ _ _ => pts_nil) (fun _ _ _ _ _ => (pe_ix ix_list (pv 2) (pv 3) (fun _ _ => rfl)))) pa_nil)))) pa_nil))))), ?_⟩
  have lr := ht.rows.length
  walk_at "go"
  refine lcAt_open (list_open ?_)
  walk_at "go"
  refine ⟨p, rfl, ⟨_, SqL.of ht.at_⟩, fun D hD => ?_⟩
  refine rows_new addSum ht (by omega) hD (fun x => rfl) ?_ ?_
  · intro b r H1 e1 hr hb Q' q'
    walk_at "go"
    refine ⟨b, _, rfl, .inl (SqL.of hb), fun l1 hl1 => ?_⟩
    have e2 := Same.new hl1 (.lst (r.map V.int))
    walk_at "go"
    refine ⟨b, r, rfl, SqL.of (e2 _ _ hb), ?_⟩
    walk_at "go"
    refine ⟨(by show 1 ≤ sizeLine; decide), fun l2 hl2 => ?_⟩
    have e3 := Same.new hl2 (.lst [V.int r.sum])
    have hlen := hk r hr
    refine ⟨l1, l2, _, _, rfl, rfl, e3 _ _ upd_same, upd_same, Nat.le_trans (show (r.map V.int).length + 1 ≤ 200 by rw [List.length_map]; omega) (by decide), fun l3 hl3 => ?_⟩
    have e4 := Same.new hl3 (.lst (r.map V.int ++ [V.int r.sum]))
    refine q' l3 _ ((e2.trans e3).free hl3) (e2.trans (e3.trans e4)) ?_
    unfold RowAt addSum
    rw [List.map_append]
    exact upd_same
  · intro H1 cs e1 t1 nd fr
    have h1len : (t.map addSum).length = t.length := List.length_map _
    generalize hu : t.map addSum = u at t1 h1len
    have uk : ∀ r ∈ u, r.length = k + 1 := fun r hr => by
      rw [← hu] at hr
      obtain ⟨r', hr', rfl⟩ := List.mem_map.mp hr
      unfold addSum
      rw [List.length_append, hk r' hr']
      rfl
    obtain ⟨a0, u0, ha0, hu0, hx0⟩ := row_of t1 (i := 0) (by have := List.length_pos_iff.mpr h0; omega)
    have hl0 := uk u0 (List.mem_of_getElem? hu0)
    walk_at "go"
    refine lcAt_open (rng_open ?_)
    walk_at "go"
    refine w_ixL t1.at_ (ref_at ha0) ?_
    walk_at "go"
    refine ⟨a0, _, rfl, .inl (SqL.of hx0), ?_⟩
    rw [List.length_map, hl0]
    refine ⟨_, rfl, by omega, by omega, fun D2 hD2 => ?_⟩
    rw [Int.toNat_natCast]
    refine lc_range (lo := 0) (n := k + 1) (fun (c : Nat) H' => Same H1 H' ∧ H' D2 = some (.lst (((List.range c).map fun c => (colOf u c).sum).map V.int))) ⟨Same.new hD2 _, upd_same⟩ ?_ ?_
    · rintro c H2 hc ⟨e2, hD22⟩
      walk_at "go"
      refine ⟨rfl, ?_⟩
      walk_at "go"
      refine lcAt_open (list_open ?_)
      walk_at "go"
      refine ⟨D, rfl, ⟨_, SqL.of (e2 _ _ t1.at_)⟩, fun D3 hD3 => ?_⟩
      refine rows_at (fun r => .int (r.getD c 0)) (t1.same e2) (by omega) hD3 (fun x => rfl) ?_ ?_
      · intro b r H3 e3 hr hb Q' q'
        walk_at "go"
        rw [show (0 : Int) + (c : Int) = (c : Int) by omega]
        exact w_ixL hb (at_getD (by rw [uk r hr]; exact hc)) (q' _ (Same.refl _))
      · intro H3 e3 h3
        walk_at "go"
        refine ⟨D3, colOf u c, rfl, SqL.of (by rw [h3]; unfold colOf; rw [List.map_map]; rfl), ?_⟩
        refine ⟨_, e3 _ _ hD22, Nat.lt_of_le_of_lt (show (((List.range c).map fun c => (colOf u c).sum).map V.int).length ≤ 1000 by rw [List.length_map, List.length_map, List.length_range]; omega) (by decide), (e2.trans e3).mut hD2, ?_⟩
        rw [upd_same, List.range_succ, List.map_append, List.map_append]
        rfl
    · rintro H2 ⟨e2, hD22⟩
      walk_at "go"
      refine ⟨(by show 1 ≤ sizeLine; decide), fun D4 hD4 => ?_⟩
      have e4 := Same.new hD4 (.lst [V.ref D2])
      refine ⟨D, D4, _, _, rfl, rfl, e4 _ _ (e2 _ _ t1.at_), upd_same, Nat.le_trans (show (cs.map V.ref).length + 1 ≤ 200 by rw [List.length_map, t1.rows.length]; omega) (by decide), fun D5 hD5 => ?_⟩
      have e5 := Same.new hD5 (.lst (cs.map V.ref ++ [V.ref D2]))
      have e25 := e2.trans (e4.trans e5)
      walk_at "go"
      have D20 : H D2 = none := e1.free hD2
      refine q D5 _ (cs ++ [D2]) (e1.trans e25) ⟨e1.free (e2.free (e4.free hD5)), fun r hr => ?_, nodup_snoc nd fun z => ?_, fun z => ?_⟩ ⟨?_, ?_⟩
      · rcases List.mem_append.mp hr with hr | hr
        · exact (fr r hr).1
        · rw [List.mem_singleton.mp hr]; exact D20
      · obtain ⟨row, hrow⟩ := paired_has t1.rows z
        have hrow : H1 D2 = some _ := hrow
        rw [hD2] at hrow
        cases hrow
      · have hD50 := e4.free hD5
        rcases List.mem_append.mp z with z | z
        · obtain ⟨row, hrow⟩ := paired_has t1.rows z
          have hrow := e2 _ _ hrow
          rw [hD50] at hrow
          cases hrow
        · rw [List.mem_singleton.mp z, hD22] at hD50
          cases hD50
      · rw [List.map_append]
        exact upd_same
      · unfold withSums
        rw [hu]
        exact K3.Paired.app (L2.Paired.mapP t1.rows fun _ _ z => e25 _ _ z) (.cons ((e4.trans e5) _ _ hD22) .nil)
end
end K3
end L3_part
section L4_part
set_option Elab.async false
set_option linter.all false
set_option maxRecDepth 100000
set_option maxHeartbeats 1000000
set_option pp.deepTerms.threshold 5
open PySem PySem.Spec PyProof.Rows L2
/-- go on as far as nothing is open -/
local macro_rules | `(tactic| walk_at "go") => `(tactic| repeat (first
  | with_reducible refine w_seq ?_ | with_reducible refine w_next ?_ | with_reducible refine w_set ?_ | with_reducible refine w_drop ?_ | with_reducible refine w_ret ?_ | with_reducible refine w_retN ?_
  | with_reducible refine w_if ?_ | ((with_reducible refine' w_var ?hv ?_); (case hv => exact rfl)) | with_reducible refine w_c ?_ | with_reducible refine w_nil ?_ | with_reducible refine w_cons ?_ | with_reducible refine w_op ?_ | with_reducible refine w_un ?_
  | with_reducible refine w_test ?_ | with_reducible refine w_tB ?_ | with_reducible refine w_not ?_ | with_reducible refine w_and ?_ | with_reducible refine w_or ?_ | with_reducible refine w_bl ?_
  | with_reducible refine w_andV ?_ | with_reducible refine w_orV ?_ | with_reducible refine w_notV ?_ | with_reducible refine w_ifE ?_ | with_reducible refine w_chain ?_ | with_reducible refine w_i0 ?_
  | with_reducible refine w_call ?_ | with_reducible refine w_callS ?_ | with_reducible refine w_cB ?_ | with_reducible refine w_tup ?_ | with_reducible refine w_lst ?_ | with_reducible refine w_fldV ?_
  | with_reducible refine w_neF ?_ | with_reducible refine w_neT ?_ | with_reducible refine w_notN ?_ | with_reducible refine w_isN ?_ | with_reducible refine w_gname ?_ | with_reducible refine w_gsub ?_ | with_reducible refine w_asg ?_ | with_reducible refine w_sl ?_ | with_reducible refine w_noP ?_ | with_reducible refine w_int1 ?_ | with_reducible refine w_part ?_ | with_reducible refine w_yes ?_ | with_reducible refine w_nT ?_ | with_reducible refine w_nF ?_ | with_reducible refine w_iteT ?_ | with_reducible refine w_iteF ?_))
namespace K3
def spLCells (K : PySem.W.Frag) : Sp := fun vs H Q _ => ∃ (g : Addr) (rs : List Addr) (t : List (List Int)) (m n : Nat), vs = [.ref g] ∧ Tab H g rs t ∧ Rect t m n ∧ 1 ≤ m ∧ m ≤ 60 ∧ n ≤ 60 ∧ ∀ p H' ws, Same H H' → H p = none → H' p = some (.lst ws) → Paired (CellAt H') ws (cellsOf m n).dropLast → Q (.ref p) H'
def spLHid (K : PySem.W.Frag) : Sp := fun vs H Q _ => ∃ (s g : Addr) (rs : List Addr) (t : List (List Int)) (m n : Nat) (x : Int), vs = [.ref s, .ref g, .int x] ∧ Sd H s ∧ (g ≠ s ∧ ∀ r ∈ rs, r ≠ s) ∧ Tab H g rs t ∧ Rect t m n ∧ 2 ≤ m ∧ m ≤ 7 ∧ 2 ≤ n ∧ n ≤ 7 ∧
  ∀ p H' ws hs, H p = none → BM [s] H H' → Sd H' s → H' p = some (.lst ws) → Paired (CellAt H') ws hs → (∀ c ∈ hs, c ∈ (cellsOf m n).dropLast) → hs ≠ [] → hs.length ≤ 60 → Q (.ref p) H'
def spLGrid (K : PySem.W.Frag) : Sp := fun vs H Q _ => ∃ (s : Addr) (m k : Nat) (x : Int), vs = [.ref s, .int (m : Int), .int (k : Int), .int x] ∧ Sd H s ∧ 1 ≤ m ∧ m ≤ 6 ∧ 1 ≤ k ∧ k ≤ 6 ∧ 0 < x ∧ x < 2 ^ 62 ∧
  ∀ p H' rs t, BM [s] H H' → Sd H' s → New H p rs → Tab H' p rs (withSums k t) → t.length = m → (∀ r ∈ t, r.length = k ∧ ∀ y ∈ r, 0 ≤ y ∧ y < x) → Q (.ref p) H'
theorem cellsOf_succ (m n : Nat) : cellsOf (m + 1) n = cellsOf m n ++ rowCells n m := by
  unfold cellsOf
  rw [List.range_succ, List.flatMap_append]
  simp
theorem rowCells_succ (n r : Nat) : rowCells (n + 1) r = rowCells n r ++ [(r, n)] := by
  unfold rowCells
  rw [List.range_succ, List.map_append]
  rfl
theorem CellAt.bmS {s : Addr} {H H' : Hp} (hs : Sd H s) (e : BM [s] H H') {v : V} {c : Nat × Nat} (h : CellAt H v c) : CellAt H' v c := h.bm hs.src e
section
variable {P : Program} {w : World} {K : PySem.W.Frag} {mg : Str → Option Value} {base : Heap}
theorem sc_cells : FnScope ["_law_grid", "_law_found", "_law_row", "_law_column"] ["_law_grid"] (defScope s__law_cells) := ⟨rfl, rfl, rfl, by decide +kernel, rfl, by decide +kernel, by decide +kernel⟩
theorem ok_cells (T : Tx K mg) : Ok P w K mg base 1 (He.ga K "_law_cells") ["_law_grid"] (spLCells K) := by
  obtain ⟨fd, F⟩ := T.f__law_cells
  refine ⟨fd, F.ok (k := 0) sc_cells (fun vs H Q E h => ?_) (fun cdv A outer s_ H vs Q E hr h => ?_), F.bindsN fun _ _ _ _ _ _ us hl => match us, hl with | [_], _ => rfl, F.kp⟩
  · obtain ⟨g, rs, t, m, n, rfl, ht, hR, m1, m60, n60, q⟩ := h
    rfl
  obtain ⟨g, rs, t, m, n, rfl, ht, hR, m1, m60, n60, q⟩ := h
  have hu65 := K3.Room.units65 hr
  have hu64 := Nat.lt_of_succ_lt hu65
  have hu0 := Nat.lt_of_le_of_lt (Nat.le_add_right _ 65) hu65
  have hu1 := Nat.lt_of_le_of_lt (Nat.add_le_add_left (show 1 ≤ 65 by decide) _) hu65
  refine ⟨_, pss_cons (ps_set (i := 1) sc_cells.nd rfl (Or.inl rfl) (pe_lst pa_nil))
      (pss_cons (ps_for (passes_of rfl) (by rfl) (pi_range1 rfl T.z_range (pa_cons (pe_callB call_len_seq (by rfl) T.z_len PySem.boot_len (pa_cons (pv 0) pa_nil)) pa_nil)) (pg_name (i := 2) sc_cells.nd rfl (Or.inr rfl)) (pss_one (ps_set (i := 1) sc_cells.nd rfl (Or.inl rfl) (pe_op op_cat (pv 1) (by exact pe_lc (own := [("_law_column", 3)]) (g := gName 3) (tt := tYes) (te := (tTup (tCons (tVar 2) (tCons (tVar 3) tNil)))) (by rfl) sc_cells.nd (pi_range1 rfl T.z_range (pa_cons (pe_callB call_len_seq (by rfl) T.z_len PySem.boot_len (pa_cons (pe_ix ix_list (pv 0) pe_int (fun _ _ => rfl)) pa_nil)) pa_nil)) (blkOk_by (own := [("_law_column", 3)]) (N := ["_law_grid", "_law_found", "_law_row", "_law_column"]) (sc := defScope s__law_cells) (by decide +kernel)) (fun _ _ _ _ _ => (pg_name (i := 3) sc_cells.nd rfl (Or.inl rfl))) (fun _ _ _ _ _ => pts_nil) (fun _ _ _ _ _ => (pe_tup (pa_cons (pv 2) (pa_cons (pv 3) pa_nil)))))))))
      (pss_one (ps_ret (pe_slice sl_list (pv 1) po_none (po_some (pe_un un_neg pe_int)))))), ?_⟩
  have lr := ht.rows.length
  have lt := hR.1
  obtain ⟨a0, r0, ha0, hr0, hx0⟩ := row_of ht (i := 0) (by omega)
  have hl0 := hR.2 r0 (List.mem_of_getElem? hr0)
  walk_at "go"
  refine ⟨Nat.zero_le _, fun p0 hp0 => ?_⟩
  have e0 := Same.new hp0 (.lst [])
  walk_at "go"
  refine rng_open ?_
  walk_at "go"
  refine ⟨g, _, rfl, .inl (SqL.of (e0 _ _ ht.at_)), ?_⟩
  rw [List.length_map, lr, lt]
  refine ⟨_, rfl, by omega, by omega, ?_⟩
  rw [Int.toNat_natCast]
  refine for_range (lo := 0) (n := m) (fun (i : Nat) σ H' => ∃ (p : Addr) (ws : List V) (o2 o3 : Option V), σ = [some (.ref g), some (.ref p), o2, o3] ∧ Same H H' ∧ H p = none ∧ H' p = some (.lst ws) ∧ Paired (CellAt H') ws (cellsOf i n)) ⟨p0, [], none, none, rfl, e0, hp0, upd_same, .nil⟩ ?_ ?_
  · rintro i σ H1 hi ⟨p, ws, o2, o3, rfl, e1, hp, h1, hw⟩
    walk_at "go"
    refine lcAt_open (rng_open ?_)
    walk_at "go"
    refine w_ixL (e1 _ _ ht.at_) (ref_at ha0) ?_
    walk_at "go"
    refine ⟨a0, _, rfl, .inl (SqL.of (e1 _ _ hx0)), ?_⟩
    rw [List.length_map, hl0]
    refine ⟨_, rfl, by omega, by omega, fun D hD => ?_⟩
    rw [Int.toNat_natCast]
    refine lc_range (lo := 0) (n := n) (fun (j : Nat) H' => Same H1 H' ∧ ∃ zs, H' D = some (.lst zs) ∧ Paired (CellAt H') zs (rowCells j i)) ⟨Same.new hD _, [], upd_same, .nil⟩ ?_ ?_
    · rintro j H2 hj ⟨e2, zs, h2, hz⟩
      walk_at "go"
      refine ⟨rfl, ?_⟩
      walk_at "go"
      refine ⟨(by show 2 ≤ sizeLine; decide), fun a ha => ?_⟩
      have e3 := Same.new ha (.tup [V.int (0 + (i : Int)), V.int (0 + (j : Int))])
      have aD : a ≠ D := fun z => by rw [z, h2] at ha; cases ha
      have lz : zs.length ≤ 60 := by rw [hz.length]; unfold rowCells; rw [List.length_map, List.length_range]; omega
      refine ⟨zs, e3 _ _ h2, Nat.lt_of_le_of_lt lz (by decide), (e2.trans e3).mut hD, zs ++ [.ref a], upd_same, ?_⟩
      rw [rowCells_succ]
      refine K3.Paired.app (L2.Paired.mapP hz fun _ _ z => (z.same e3).muts (e3 _ _ h2)) (.cons ⟨a, rfl, ?_⟩ .nil)
      rw [upd_ne aD, upd_same, show (0 : Int) + (i : Int) = (i : Int) by omega, show (0 : Int) + (j : Int) = (j : Int) by omega]
    · rintro H2 ⟨e2, zs, h2, hz⟩
      have lw : ws.length ≤ 3600 := by rw [hw.length, cells_len]; exact Nat.mul_le_mul (by omega : i ≤ 60) n60
      have lz : zs.length ≤ 60 := by rw [hz.length]; unfold rowCells; rw [List.length_map, List.length_range]; omega
      refine ⟨p, D, ws, zs, rfl, rfl, e2 _ _ h1, h2, Nat.le_trans (show ws.length + zs.length ≤ 4000 by omega) (by decide), fun p2 hp2 => ?_⟩
      have e3 := Same.new hp2 (.lst (ws ++ zs))
      walk_at "go"
      refine ⟨p2, ws ++ zs, _, _, rfl, e1.trans (e2.trans e3), (e1.trans e2).free hp2, upd_same, ?_⟩
      rw [cellsOf_succ]
      exact K3.Paired.app (L2.Paired.mapP hw fun _ _ z => z.same (e2.trans e3)) (L2.Paired.mapP hz fun _ _ z => z.same e3)
  · rintro σ H1 ⟨p, ws, o2, o3, rfl, e1, hp, h1, hw⟩
    walk_at "go"
    refine ⟨_, rfl, ?_⟩
    walk_at "go"
    refine ⟨p, ws, rfl, SqL.of h1, fun p2 hp2 => ?_⟩
    rw [cut_last]
    have e2 := Same.new hp2 (.lst ws.dropLast)
    exact q p2 _ ws.dropLast (e1.trans e2) (e1.free hp2) upd_same (L2.Paired.mapP (paired_drop hw) fun _ _ z => z.same e2)
theorem sc_hidden : FnScope ["_law_s", "_law_grid", "_law_part", "_law_found", "_law_place"] ["_law_s", "_law_grid", "_law_part"] (defScope s__law_hidden) := ⟨rfl, rfl, rfl, by decide +kernel, rfl, by decide +kernel, by decide +kernel⟩
theorem ok_hidden (T : Tx K mg) : Ok P w K mg base 2 (He.ga K "_law_hidden") ["_law_s", "_law_grid", "_law_part"] (spLHid K) := by
  obtain ⟨fd, F⟩ := T.f__law_hidden
  have O_law_digit := ok_digit (P := P) (w := w) (base := base) T
  have O_law_cells := ok_cells (P := P) (w := w) (base := base) T
  refine ⟨fd, F.ok (k := 1) sc_hidden (fun vs H Q E h => ?_) (fun cdv A outer s_ H vs Q E hr h => ?_), F.bindsN fun _ _ _ _ _ _ us hl => match us, hl with | [_, _, _], _ => rfl, F.kp⟩
  · obtain ⟨s, g, rs, t, m, n, x, rfl, hs, gs, ht, hR, m2, m7, n2, n7, q⟩ := h
    rfl
  obtain ⟨s, g, rs, t, m, n, x, rfl, hs, gs, ht, hR, m2, m7, n2, n7, q⟩ := h
  have hu65 := K3.Room.units65 hr
  have hu64 := Nat.lt_of_succ_lt hu65
  have hu0 := Nat.lt_of_le_of_lt (Nat.le_add_right _ 65) hu65
  have hu1 := Nat.lt_of_le_of_lt (Nat.add_le_add_left (show 1 ≤ 65 by decide) _) hu65
  have r_law_digit : Room 1 _ := hr.mono (by decide)
  have r_law_cells : Room 1 _ := hr.mono (by decide)
  refine ⟨_, pss_cons (by exact ps_setLc (i := 3) (own := [("_law_place", 4)]) (g := gName 4) (tt := (tTest (tOp (rI0 fun i j => .bl (decide (i < j))) (tCall (spDigit K) [] E0 (tCons (tVar 0) (tCons (tC (.int 3)) tNil))) (tVar 2)))) (te := (tVar 4)) (by rfl) sc_hidden.nd rfl rfl (by rfl) (pi_list (pe_f O_law_cells r_law_cells T.g__law_cells (pa_cons (pv 1) pa_nil))) (blkOk_by (own := [("_law_place", 4)]) (N := ["_law_s", "_law_grid", "_law_part", "_law_found", "_law_place"]) (sc := defScope s__law_hidden) (by decide +kernel)) (fun _ _ _ _ _ => (pg_name (i := 4) sc_hidden.nd rfl (Or.inl rfl))) (fun _ _ _ _ _ => (pts_one (pt_cmpR op_lt (pe_f O_law_digit r_law_digit T.g__law_digit (pa_cons (pv 0) (pa_cons pe_int pa_nil))) (pv 2) (nomark _)))) (fun _ _ _ _ _ => (pv 4)))
      (pss_cons (ps_if (pt_cmpR (op_eqE hu0) (pv 3) (pe_lst pa_nil) (nomark _)) (pss_one (ps_set (i := 3) sc_hidden.nd rfl (Or.inl rfl) (pe_lst (pa_cons (pe_ix ix_list (pe_f O_law_cells r_law_cells T.g__law_cells (pa_cons (pv 1) pa_nil)) (pe_f O_law_digit r_law_digit T.g__law_digit (pa_cons (pv 0) (pa_cons (pe_callB call_len_seq (by rfl) T.z_len PySem.boot_len (pa_cons (pe_f O_law_cells r_law_cells T.g__law_cells (pa_cons (pv 1) pa_nil)) pa_nil)) pa_nil))) (fun _ _ => rfl)) pa_nil)))) pss_nil)
      (pss_one (ps_ret (pe_op op_cat (pe_revL (pv 3)) (pe_slice sl_list (pv 3) po_none (po_some (pe_f O_law_digit r_law_digit T.g__law_digit (pa_cons (pv 0) (pa_cons pe_int pa_nil))))))))), ?_⟩
  have lc49 : (cellsOf m n).dropLast.length ≤ 49 := by
    rw [List.length_dropLast, cells_len]
    exact Nat.le_trans (Nat.sub_le _ _) (Nat.mul_le_mul m7 n7)
  have lc1 : 0 < (cellsOf m n).dropLast.length := by
    rw [List.length_dropLast, cells_len]
    have := Nat.mul_le_mul m2 n2
    omega
  walk_at "go"
  refine lcAt_open (list_open ?_)
  walk_at "go"
  refine ⟨g, rs, t, m, n, rfl, ht, hR, by omega, by omega, by omega, fun p1 H1 w1 e1 hp1 h1 c1 => ?_⟩
  have s1 := hs.same e1
  have p1s : p1 ≠ s := src_ne hs.src hp1
  refine ⟨p1, rfl, ⟨_, SqL.of h1⟩, fun D hD => ?_⟩
  have Ds : D ≠ s := src_ne s1.src hD
  have l1 := c1.length
  refine lc_list (xs := w1) (fun (i : Nat) H' => ∃ (zs : List V) (cs : List (Nat × Nat)), BM [s] H1 H' ∧ Sd H' s ∧ H' D = some (.lst zs) ∧ Paired (CellAt H') zs cs ∧ cs.length ≤ i ∧ ∀ c ∈ cs, c ∈ (cellsOf m n).dropLast)
    ⟨[], [], BM.of (Same.new hD _), s1.upd Ds _, upd_same, .nil, Nat.le_refl _, fun c hc => (by cases hc)⟩ (fun i H' _ ⟨_, _, b, _⟩ => SqL.of (b.at h1 (by simpa using p1s))) ?_ ?_
  · rintro i v H2 hx ⟨zs, cs, b2, s2, h2, hz, lz, mz⟩
    obtain ⟨c, hc, hv⟩ := K3.Paired.get c1 hx
    walk_at "go"
    refine ⟨rfl, ?_⟩
    walk_at "go"
    refine ⟨s, 3, rfl, s2, by decide, by decide, fun r H3 r1 b3 s3 => ?_⟩
    walk_at "go"
    have h3 := b3.at h2 (by simpa using Ds)
    have hz3 := L2.Paired.mapP hz fun _ _ z => z.bmS s2 b3
    have hv3 : CellAt H3 v c := (hv.bmS s1 b2).bmS s2 b3
    by_cases k : (r : Int) < x
    · rw [decide_eq_true k]
      walk_at "go"
      refine ⟨zs, h3, Nat.lt_of_le_of_lt (show zs.length ≤ 1000 by rw [hz.length]; have := (List.getElem?_eq_some_iff.mp hx).1; omega) (by decide), zs ++ [v], cs ++ [c], (b2.trans b3).mut hD, s3.upd Ds _, upd_same, ?_, by rw [List.length_append]; simpa using lz, fun d hd => ?_⟩
      · exact K3.Paired.app (L2.Paired.mapP hz3 fun _ _ z => z.muts h3) (.cons (hv3.muts h3) .nil)
      · rcases List.mem_append.mp hd with hd | hd
        · exact mz d hd
        · rw [List.mem_singleton.mp hd]
          exact List.mem_of_getElem? hc
    · rw [decide_eq_false k]
      walk_at "go"
      exact ⟨zs, cs, b2.trans b3, s3, h3, hz3, by omega, mz⟩
  · rintro H2 ⟨zs, cs, b2, s2, h2, hz, lz, mz⟩
    have b02 : BM [s] H H2 := (BM.of e1).trans b2
    have fin : ∀ (D : Addr) (H3 : Hp) (zs : List V) (cs : List (Nat × Nat)), H D = none → BM [s] H H3 → Sd H3 s → H3 D = some (.lst zs) → Paired (CellAt H3) zs cs → cs ≠ [] → cs.length ≤ 49 → (∀ c ∈ cs, c ∈ (cellsOf m n).dropLast) →
        (tOp rCat (tRevL K (tVar 3)) (tSl (rSlL K) (tVar 3) tNoPart (tPart (tCall (spDigit K) [] E0 (tCons (tVar 0) (tCons (tC (.int 2)) tNil)))))) [some (.ref s), some (.ref g), some (.int x), some (.ref D), none] H3 Q := by
      intro D H3 zs cs hD3 b3 s3 h3 hz3 ne lz mz
      have Ds : D ≠ s := src_ne hs.src hD3
      walk_at "go"
      refine w_rev ?_
      walk_at "go"
      refine ⟨D, zs, rfl, SqL.of h3, fun p4 hp4 => ?_⟩
      have e4 := Same.new hp4 (.lst zs.reverse)
      have h44 : (upd H3 p4 (.lst zs.reverse)) p4 = some (.lst zs.reverse) := upd_same
      have s4 := s3.same e4
      have p4s : p4 ≠ s := src_ne s3.src hp4
      have h4 := e4 _ _ h3
      have hz4 := L2.Paired.mapP hz3 fun _ _ z => z.same e4
      generalize upd H3 p4 (.lst zs.reverse) = H4 at e4 h44 s4 h4 hz4 ⊢
      walk_at "go"
      refine ⟨s, 2, rfl, s4, by decide, by decide, fun r H5 r1 b5 s5 => ?_⟩
      have h5 := b5.at h4 (by simpa using Ds)
      have h54 := b5.at h44 (by simpa using p4s)
      have hz5 := L2.Paired.mapP hz4 fun _ _ z => z.bmS s4 b5
      walk_at "go"
      refine ⟨D, zs, rfl, SqL.of h5, fun p6 hp6 => ?_⟩
      rw [cut_to]
      have e6 := Same.new hp6 (.lst (zs.take r))
      have l5 := hz5.length
      refine ⟨p4, p6, _, _, rfl, rfl, e6 _ _ h54, upd_same, Nat.le_trans (show zs.reverse.length + (zs.take r).length ≤ 1000 by rw [List.length_reverse, List.length_take]; omega) (by decide), fun p7 hp7 => ?_⟩
      have e7 := Same.new hp7 (.lst (zs.reverse ++ zs.take r))
      have e67 := e6.trans e7
      have b05 := (b3.same e4).trans b5
      have hz7 := L2.Paired.mapP hz5 fun _ _ z => z.same e67
      refine q p7 _ _ (cs.reverse ++ cs.take r) (b05.free (e6.free hp7)) (b05.same e67) (s5.same e67) upd_same (K3.Paired.app (paired_rev hz7) (paired_take hz7 r)) (fun c hc => ?_) (fun z => ?_) ?_
      · rcases List.mem_append.mp hc with hc | hc
        · exact mz c (List.mem_reverse.mp hc)
        · exact mz c (List.mem_of_mem_take hc)
      · exact ne (List.reverse_eq_nil_iff.mp (List.append_eq_nil_iff.mp z).1)
      · have : r ≤ 1 := by omega
        rw [List.length_append, List.length_reverse, List.length_take]
        omega
    walk_at "go"
    refine ⟨Nat.zero_le _, fun p3 hp3 => ?_⟩
    have e3 := Same.new hp3 (.lst [])
    refine ⟨D, p3, zs, [], rfl, rfl, SqL.of (e3 _ _ h2), SqL.of upd_same, .inr (.inl rfl), ?_⟩
    have s3 := s2.same e3
    have h3 := e3 _ _ h2
    have hz3 := L2.Paired.mapP hz fun _ _ z => z.same e3
    have b03 := b02.same e3
    generalize upd H2 p3 (.lst []) = H3 at e3 s3 h3 hz3 b03 ⊢
    walk_at "go"
    by_cases k : zs = []
    · rw [decide_eq_true (⟨k, rfl⟩ : zs = [] ∧ ([] : List V) = [])]
      walk_at "go"
      have tab3 : Tab H3 g rs t := ht.bm b03 gs.1 gs.2
      refine ⟨g, rs, t, m, n, rfl, tab3, hR, by omega, by omega, by omega, fun p4 H4 w4 e4 hp4 h4 c4 => ?_⟩
      have s4 := s3.same e4
      have p4s : p4 ≠ s := src_ne s3.src hp4
      walk_at "go"
      refine ⟨g, rs, t, m, n, rfl, tab3.same e4, hR, by omega, by omega, by omega, fun p5 H5 w5 e5 hp5 h5 c5 => ?_⟩
      walk_at "go"
      refine ⟨p5, w5, rfl, .inl (SqL.of h5), ?_⟩
      have l5 := c5.length
      have l4 := c4.length
      have s5 := s4.same e5
      refine ⟨s, _, rfl, s5, by omega, by omega, fun r H6 r1 b6 s6 => ?_⟩
      have h46 := b6.at (e5 _ _ h4) (by simpa using p4s)
      have hr : r < w4.length := by omega
      obtain ⟨c, hc, hv⟩ := K3.Paired.get c4 (List.getElem?_eq_getElem hr)
      have hv6 := (hv.same e5).bmS s5 b6
      refine w_ixL h46 (atI_nat (List.getElem?_eq_getElem hr)) ?_
      walk_at "go"
      refine ⟨(by show 1 ≤ sizeLine; decide), fun p7 hp7 => ?_⟩
      have e7 := Same.new hp7 (.lst [w4[r]])
      walk_at "go"
      have b06 := ((b03.same e4).same e5).trans b6
      exact fin p7 _ [w4[r]] [c] (b06.free hp7) (b06.same e7) (s6.same e7) upd_same (.cons (hv6.same e7) .nil) (by simp) (by simp) (fun d hd => by rw [List.mem_singleton.mp hd]; exact List.mem_of_getElem? hc)
    · rw [decide_eq_false (fun z => k z.1 : ¬ (zs = [] ∧ ([] : List V) = []))]
      walk_at "go"
      refine fin D _ zs cs (e1.free hD) b03 s3 h3 hz3 (fun z => k ?_) (by omega) mz
      have := hz.length
      rw [z] at this
      exact List.length_eq_zero_iff.mp this
theorem sc_drawn_grid : FnScope ["_law_s", "_law_tall", "_law_wide", "_law_most", "_law_k", "_law_j"] ["_law_s", "_law_tall", "_law_wide", "_law_most"] (defScope s__law_drawn_grid) := ⟨rfl, rfl, rfl, by decide +kernel, rfl, by decide +kernel, by decide +kernel⟩
theorem ok_drawn_grid (T : Tx K mg) : Ok P w K mg base 2 (He.ga K "_law_drawn_grid") ["_law_s", "_law_tall", "_law_wide", "_law_most"] (spLGrid K) := by
  obtain ⟨fd, F⟩ := T.f__law_drawn_grid
  have O_law_summed := ok_summed (P := P) (w := w) (base := base) T
  have O_law_digit := ok_digit (P := P) (w := w) (base := base) T
  refine ⟨fd, F.ok (k := 1) sc_drawn_grid (fun vs H Q E h => ?_) (fun cdv A outer s_ H vs Q E hr h => ?_), F.bindsN fun _ _ _ _ _ _ us hl => match us, hl with | [_, _, _, _], _ => rfl, F.kp⟩
  · obtain ⟨s, m, k, x, rfl, hs, m1, m6, k1, k6, x0, x1, q⟩ := h
    rfl
  obtain ⟨s, m, k, x, rfl, hs, m1, m6, k1, k6, x0, x1, q⟩ := h
  have hu65 := K3.Room.units65 hr
  have hu64 := Nat.lt_of_succ_lt hu65
  have hu0 := Nat.lt_of_le_of_lt (Nat.le_add_right _ 65) hu65
  have hu1 := Nat.lt_of_le_of_lt (Nat.add_le_add_left (show 1 ≤ 65 by decide) _) hu65
  have r_law_summed : Room 1 _ := hr.mono (by decide)
  have r_law_digit : Room 1 _ := hr.mono (by decide)
  refine ⟨_, pss_one (ps_ret (pe_f O_law_summed r_law_summed T.g__law_summed (pa_cons (by exact pe_lc (own := [("_law_k", 4)]) (g := gName 4) (tt := tYes) (te := (tLc (iRng1 (tCons (tVar 2) tNil)) (gName 5) tYes (tOp (rI CMul fun i j => .int (i * j)) (tCall (spDigit K) [] E0 (tCons (tVar 0) (tCons (tVar 3) tNil))) (tCB (fun xs H Q => (∃ i, xs = [V.int i] ∧ Q (.int i) H) ∨ ∃ k, xs = [V.bl k] ∧ Q (.int (if k then 1 else 0)) H) (tCons (tOp (rI0 fun i j => .bl (decide (j < i))) (tCall (spDigit K) [] E0 (tCons (tVar 0) (tCons (tC (.int 5)) tNil))) (tC (.int 0))) tNil))) [5])) (by rfl) sc_drawn_grid.nd (pi_range1 rfl T.z_range (pa_cons (pv 1) pa_nil)) (blkOk_by (own := [("_law_k", 4)]) (N := ["_law_s", "_law_tall", "_law_wide", "_law_most", "_law_k", "_law_j"]) (sc := defScope s__law_drawn_grid) (by decide +kernel)) (fun _ _ _ _ _ => (pg_name (i := 4) sc_drawn_grid.nd rfl (Or.inl rfl))) (fun _ _ _ _ _ => pts_nil) (fun _ _ _ _ _ => (by exact pe_lc (own := [("_law_j", 5)]) (g := gName 5) (tt := tYes) (te := (tOp (rI CMul fun i j => .int (i * j)) (tCall (spDigit K) [] E0 (tCons (tVar 0) (tCons (tVar 3) tNil))) (tCB (fun xs H Q => (∃ i, xs = [V.int i] ∧ Q (.int i) H) ∨ ∃ k, xs = [V.bl k] ∧ Q (.int (if k then 1 else 0)) H) (tCons (tOp (rI0 fun i j => .bl (decide (j < i))) (tCall (spDigit K) [] E0 (tCons (tVar 0) (tCons (tC (.int 5)) tNil))) (tC (.int 0))) tNil)))) (by rfl) sc_drawn_grid.nd (pi_range1 rfl T.z_range (pa_cons (pv 2) pa_nil)) (blkOk_by (own := [("_law_j", 5)]) (N := ["_law_s", "_law_tall", "_law_wide", "_law_most", "_law_k", "_law_j"]) (sc := { kind := .function, names := [(".0", .local), ("_law_k", .local), ("range", .globalImplicit), ("_law_most", .cell), ("_law_s", .cell), ("_law_wide", .cell)], isGenerator := false, isCoroutine := false }) (by decide +kernel)) (fun _ _ _ _ _ => (pg_name (i := 5) sc_drawn_grid.nd rfl (Or.inl rfl))) (fun _ _ _ _ _ => pts_nil) (fun _ _ _ _ _ => (pe_op op_mul (pe_f O_law_digit r_law_digit T.g__law_digit (pa_cons (pv 0) (pa_cons (pv 3) pa_nil))) (pe_callTy call_int1 (by rfl) T.z_int (by decide +kernel) (pa_cons (pe_cmpR op_gt (pe_f O_law_digit r_law_digit T.g__law_digit (pa_cons (pv 0) (pa_cons pe_int pa_nil))) pe_int rfl) pa_nil))))))) pa_nil))), ?_⟩
  walk_at "go"
  refine lcAt_open (rng_open ?_)
  walk_at "go"
  refine ⟨_, rfl, by omega, by omega, fun D hD => ?_⟩
  rw [Int.toNat_natCast]
  have Ds : D ≠ s := src_ne hs.src hD
  refine lc_range (lo := 0) (n := m) (fun (i : Nat) H' => ∃ (rs : List Addr) (t : List (List Int)), BM [s] H H' ∧ Sd H' s ∧ H' D = some (.lst (rs.map V.ref)) ∧ Paired (RowAt H') rs t ∧ t.length = i ∧ (∀ r ∈ t, r.length = k ∧ ∀ y ∈ r, 0 ≤ y ∧ y < x) ∧ ∀ r ∈ rs, r ≠ s ∧ r ≠ D)
    ⟨[], [], BM.of (Same.new hD _), hs.upd Ds _, upd_same, .nil, rfl, fun r hr => (by cases hr), fun r hr => (by cases hr)⟩ ?_ ?_
  · rintro i H4 hi ⟨rs, t, b4, s4, hD4, hp4, ht4, hk4, hr4⟩
    walk_at "go"
    refine ⟨rfl, ?_⟩
    walk_at "go"
    refine lcAt_open (rng_open ?_)
    walk_at "go"
    refine ⟨_, rfl, by omega, by omega, fun D2 hD2 => ?_⟩
    rw [Int.toNat_natCast]
    have D2s : D2 ≠ s := src_ne s4.src hD2
    have D2D : D2 ≠ D := fun z => by rw [z, hD4] at hD2; cases hD2
    refine lc_range (lo := 0) (n := k) (fun (j : Nat) H' => ∃ row : List Int, BM [s] H4 H' ∧ Sd H' s ∧ H' D2 = some (.lst (row.map V.int)) ∧ row.length = j ∧ ∀ y ∈ row, 0 ≤ y ∧ y < x)
      ⟨[], BM.of (Same.new hD2 _), s4.upd D2s _, upd_same, rfl, fun y hy => (by cases hy)⟩ ?_ ?_
    · rintro j H5 hj ⟨row, b5, s5, hD25, lr5, hx5⟩
      walk_at "go"
      refine ⟨rfl, ?_⟩
      walk_at "go"
      refine ⟨s, x, rfl, s5, x0, x1, fun r H6 r1 b6 s6 => ?_⟩
      walk_at "go"
      refine ⟨s, 5, rfl, s6, by decide, by decide, fun r' H7 r1' b7 s7 => ?_⟩
      walk_at "go"
      refine .inr ⟨_, rfl, ?_⟩
      refine w_i (mul01 _ _) ?_
      have hD27 := b7.at (b6.at hD25 (by simpa using D2s)) (by simpa using D2s)
      have hy : ∀ z : Bool, 0 ≤ (r : Int) * (if z = true then 1 else 0) ∧ (r : Int) * (if z = true then 1 else 0) < x := fun z => by
        cases z
        · simpa using x0
        · simpa using r1
      generalize hz : decide ((r' : Int) > 0) = z at hy ⊢
      have hyz := hy z
      generalize (r : Int) * (if z = true then 1 else 0) = y at hyz ⊢
      refine ⟨_, hD27, Nat.lt_of_le_of_lt (show (row.map V.int).length ≤ 100 by rw [List.length_map]; omega) (by decide), row ++ [y], ((b5.trans b6).trans b7).mut hD2, s7.upd D2s _, by rw [upd_same, List.map_append]; rfl, by rw [List.length_append, lr5]; rfl, fun v hv => ?_⟩
      rcases List.mem_append.mp hv with hv | hv
      · exact hx5 v hv
      · rw [List.mem_singleton.mp hv]; exact hyz
    · rintro H5 ⟨row, b5, s5, hD25, lr5, hx5⟩
      have hD5 := b5.at hD4 (by simpa using Ds)
      have up : ∀ r row', RowAt H4 r row' → r ≠ s → r ≠ D → RowAt (upd H5 D (.lst (rs.map V.ref ++ [.ref D2]))) r row' := fun r row' z h1 h2 => by
        show upd H5 D _ r = _
        rw [upd_ne h2]
        exact b5.at z (by simpa using h1)
      refine ⟨_, hD5, Nat.lt_of_le_of_lt (show (rs.map V.ref).length ≤ 100 by rw [List.length_map, hp4.length]; omega) (by decide), rs ++ [D2], t ++ [row], (b4.trans b5).mut hD, s5.upd Ds _, by rw [upd_same, List.map_append]; rfl, K3.Paired.app (paired_up hp4 fun r row' hr z => up r row' z (hr4 r hr).1 (hr4 r hr).2) (.cons (by show upd H5 D _ D2 = _; rw [upd_ne D2D]; exact hD25) .nil), by rw [List.length_append, ht4]; rfl, fun r hr => ?_, fun r hr => ?_⟩
      · rcases List.mem_append.mp hr with hr | hr
        · exact hk4 r hr
        · rw [List.mem_singleton.mp hr]; exact ⟨lr5, hx5⟩
      · rcases List.mem_append.mp hr with hr | hr
        · exact hr4 r hr
        · rw [List.mem_singleton.mp hr]; exact ⟨D2s, D2D⟩
  · rintro H4 ⟨rs, t, b4, s4, hD4, hp4, ht4, hk4, hr4⟩
    refine ⟨D, rs, t, k, rfl, ⟨hD4, hp4⟩, fun r hr => (hk4 r hr).1, fun z => by rw [z] at ht4; simp at ht4; omega, by omega, by omega, fun p' H5 rs' e5 hnew htab => ?_⟩
    exact q p' H5 rs' t (b4.same e5) (s4.same e5) ⟨b4.free hnew.p0, fun r hr => b4.free (hnew.rs0 r hr), hnew.nd, hnew.ne⟩ htab ht4 hk4
end
end K3
end L4_part
section L11_part
set_option Elab.async false
set_option linter.all false
set_option maxRecDepth 100000
set_option maxHeartbeats 1000000
set_option pp.deepTerms.threshold 5
open PySem PySem.Spec PyProof.Rows L2
/-- go on as far as nothing is open -/
local macro_rules | `(tactic| walk_at "go") => `(tactic| repeat (first
  | with_reducible refine w_seq ?_ | with_reducible refine w_next ?_ | with_reducible refine w_set ?_ | with_reducible refine w_drop ?_ | with_reducible refine w_ret ?_ | with_reducible refine w_retN ?_
  | with_reducible refine w_if ?_ | ((with_reducible refine' w_var ?hv ?_); (case hv => exact rfl)) | with_reducible refine w_c ?_ | with_reducible refine w_nil ?_ | with_reducible refine w_cons ?_ | with_reducible refine w_op ?_ | with_reducible refine w_un ?_
  | with_reducible refine w_test ?_ | with_reducible refine w_tB ?_ | with_reducible refine w_not ?_ | with_reducible refine w_and ?_ | with_reducible refine w_or ?_ | with_reducible refine w_bl ?_
  | with_reducible refine w_andV ?_ | with_reducible refine w_orV ?_ | with_reducible refine w_notV ?_ | with_reducible refine w_ifE ?_ | with_reducible refine w_chain ?_ | with_reducible refine w_i0 ?_
  | with_reducible refine w_call ?_ | with_reducible refine w_callS ?_ | with_reducible refine w_cB ?_ | with_reducible refine w_tup ?_ | with_reducible refine w_lst ?_ | with_reducible refine w_fldV ?_
  | with_reducible refine w_neF ?_ | with_reducible refine w_neT ?_ | with_reducible refine w_notN ?_ | with_reducible refine w_isN ?_ | with_reducible refine w_gname ?_ | with_reducible refine w_gsub ?_ | with_reducible refine w_asg ?_ | with_reducible refine w_sl ?_ | with_reducible refine w_noP ?_ | with_reducible refine w_int1 ?_ | with_reducible refine w_part ?_ | with_reducible refine w_yes ?_ | with_reducible refine w_nT ?_ | with_reducible refine w_nF ?_ | with_reducible refine w_iteT ?_ | with_reducible refine w_iteF ?_))
namespace L2
open PySem PySem.Spec PyProof.Rows
/-- items_gen over a list or a tuple -/
theorem items_genB {K : PySem.W.Frag} {α β : Type} {F : Hp → V → α → Prop} {G : Hp → V → β → Prop} (mF : ∀ {H H' : Hp} {v : V} {y : α}, Same H H' → F H v y → F H' v y) (mG : ∀ {H H' : Hp} {v : V} {y : β}, K3.Tk H H' → G H v y → G H' v y)
    {a D : Addr} {xs : List V} {ys : List α} {g : TG} {tt : TT} {te : TE} {vs : List Nat} {σ : L2.St} {H1 : Hp} {bq : Bool} {Qd : Hp → Prop} (bb : α → Bool) (o : α → β) (hs : SqB K H1 bq a xs) (hp : Paired (F H1) xs ys) (hD : H1 D = none) (hlen : xs.length ≤ 10000)
    (step : ∀ (v : V) (y : α) (H' : Hp), Same H1 H' → y ∈ ys → F H' v y → ∀ R : Option V → Hp → Prop, (∀ H'', Same H' H'' → bb y = false → R none H'') → (∀ z H'', Same H' H'' → bb y = true → G H'' z (o y) → R (some z) H'') →
      g v (wipe σ vs) H' fun σ2 H2 => wipe σ2 vs = wipe σ vs ∧ tt σ2 H2 fun b H3 => if b = true then te σ2 H3 (fun z H4 => R (some z) H4) else R none H3)
    (hd : ∀ H' zs, Same H1 H' → H' D = some (.lst zs) → Paired (G H') zs ((ys.filter bb).map o) → Qd H') : LcAt (ItB K bq a) D g tt te vs σ H1 Qd := by
  refine lc_it (walk_B (K := K) (a := a) (xs := xs) (b := bq)) (fun i H' => Same H1 H' ∧ ∃ zs, H' D = some (.lst zs) ∧ Paired (G H') zs (((ys.take i).filter bb).map o)) ⟨Same.new hD _, [], upd_same, .nil⟩ (fun i H' _ z => hs.same z.1) ?_ ?_
  · rintro i x H2 H2' _ ⟨e2, zs, hD2, hp2⟩ ⟨rfl, hx⟩
    obtain ⟨y, hy, hF⟩ := K3.Paired.get hp hx
    have hl : (ys.take (i + 1)).filter bb = (ys.take i).filter bb ++ (if bb y = true then [y] else []) := by
      rw [List.take_add_one, hy, List.filter_append]
      congr 1
      cases hb : bb y <;> simp [hb]
    refine step x y H2' e2 (List.mem_of_getElem? hy) (mF e2 hF) (fun oz H4 => match oz with
      | none => Same H1 H4 ∧ ∃ zs, H4 D = some (.lst zs) ∧ Paired (G H4) zs (((ys.take (i + 1)).filter bb).map o)
      | some z => ∃ acc, H4 D = some (.lst acc) ∧ acc.length < sizeLine ∧ (Same H1 (upd H4 D (.lst (acc ++ [z]))) ∧ ∃ zs, (upd H4 D (.lst (acc ++ [z]))) D = some (.lst zs) ∧ Paired (G (upd H4 D (.lst (acc ++ [z])))) zs (((ys.take (i + 1)).filter bb).map o))) (fun H3 e3 hb => ?_) (fun z H3 e3 hb hG => ?_)
    · rw [hb] at hl
      refine ⟨e2.trans e3, zs, e3 _ _ hD2, ?_⟩
      rw [hl, if_neg (by decide), List.append_nil]
      exact L2.Paired.mapP hp2 fun _ _ y => mG (K3.Tk.of e3) y
    · rw [hb] at hl
      have hD3 := e3 _ _ hD2
      have tk : K3.Tk H3 (upd H3 D (.lst (zs ++ [z]))) := K3.Tk.upd hD3 fun _ e => by cases e
      refine ⟨zs, hD3, ?_, (e2.trans e3).mut hD, zs ++ [z], upd_same, ?_⟩
      · refine Nat.lt_of_le_of_lt (show _ ≤ 10000 from ?_) (by decide)
        rw [hp2.length, List.length_map]
        refine Nat.le_trans (List.length_filter_le _ _) ?_
        rw [List.length_take, ← hp.length]
        omega
      · rw [hl, if_pos rfl, List.map_append]
        exact K3.Paired.app (L2.Paired.mapP hp2 fun _ _ y => mG ((K3.Tk.of e3).trans tk) y) (.cons (mG tk hG) .nil)
  · rintro H2 ⟨e2, zs, hD2, hp2⟩
    rw [hp.length, List.take_length] at hp2
    exact hd H2 zs e2 hD2 hp2
end L2
namespace K3
def spLArc (K : PySem.W.Frag) : Sp := fun vs H Q _ => ∃ (g : Addr) (v : V) (rs : List Addr) (t : List (List Int)) (m n : Nat) (c : Nat × Nat), vs = [.ref g, v] ∧ Tab H g rs t ∧ Rect t m n ∧ 1 ≤ m ∧ 1 ≤ n ∧ CellAt H v c ∧
  ∀ a H' v1 v2, Same H H' → H' a = some (.tup [v1, v2]) → PlAt H' v1 (arcF m n c).1 → PlAt H' v2 (arcF m n c).2 → Q (.ref a) H'
def spLFence (K : PySem.W.Frag) : Sp := fun vs H Q _ => ∃ (s g : Addr) (rs : List Addr) (t : List (List Int)) (m n : Nat), vs = [.ref s, .ref g] ∧ Sd H s ∧ (g ≠ s ∧ ∀ r ∈ rs, r ≠ s) ∧ Tab H g rs t ∧ Rect t m n ∧ 1 ≤ m ∧ m ≤ 7 ∧ n ≤ 7 ∧
  ∀ (p a b : Addr) (H' : Hp) (R C : List Int), BM [s] H H' → Sd H' s → a ≠ s → H' p = some (.tup [.ref a, .ref b]) → H' a = some (.lst (R.map V.int)) → H' b = some (.tup (C.map V.int)) → R.length ≤ 20 → C.length ≤ 20 → Q (.ref p) H'
section
variable {P : Program} {w : World} {K : PySem.W.Frag} {mg : Str → Option Value} {base : Heap}
theorem sc_arc : FnScope ["_law_grid", "_law_place", "_law_row", "_law_column"] ["_law_grid", "_law_place"] (defScope s__law_arc) := ⟨rfl, rfl, rfl, by decide +kernel, rfl, by decide +kernel, by decide +kernel⟩
theorem ok_arc (T : Tx K mg) : Ok P w K mg base 1 (He.ga K "_law_arc") ["_law_grid", "_law_place"] (spLArc K) := by
  obtain ⟨fd, F⟩ := T.f__law_arc
  refine ⟨fd, F.ok (k := 0) sc_arc (fun vs H Q E h => ?_) (fun cdv A outer s_ H vs Q E hr h => ?_), F.bindsN fun _ _ _ _ _ _ us hl => match us, hl with | [_, _], _ => rfl, F.kp⟩
  · obtain ⟨g, v, rs, t, m, n, c, rfl, ht, hR, m1, n1, ⟨a, rfl, ha⟩, q⟩ := h
    rfl
  obtain ⟨g, v, rs, t, m, n, c, rfl, ht, hR, m1, n1, ⟨a, rfl, ha⟩, q⟩ := h
  have hu65 := K3.Room.units65 hr
  have hu64 := Nat.lt_of_succ_lt hu65
  have hu0 := Nat.lt_of_le_of_lt (Nat.le_add_right _ 65) hu65
  have hu1 := Nat.lt_of_le_of_lt (Nat.add_le_add_left (show 1 ≤ 65 by decide) _) hu65
  refine ⟨_, pss_cons (ps_par (by rfl) sc_arc.nd (i := 2) (j := 3) rfl rfl (by decide) rfl rfl (pa_cons (pe_tup (pa_cons pe_str (pa_cons (pe_ix ix_tup (pv 1) pe_int (fun _ _ => rfl)) pa_nil))) (pa_cons (pe_tup (pa_cons pe_str (pa_cons (pe_ix ix_tup (pv 1) pe_int (fun _ _ => rfl)) pa_nil))) pa_nil)) (by rfl))
      (pss_cons (ps_if (pt_cmpR op_ne (pe_cmpR op_eq (pe_ix ix_tup (pv 1) pe_int (fun _ _ => rfl)) (pe_op op_sub (pe_callB call_len_seq (by rfl) T.z_len PySem.boot_len (pa_cons (pv 0) pa_nil)) pe_int) rfl) (pe_cmpR op_eq (pe_ix ix_tup (pv 1) pe_int (fun _ _ => rfl)) (pe_op op_sub (pe_callB call_len_seq (by rfl) T.z_len PySem.boot_len (pa_cons (pe_ix ix_list (pv 0) pe_int (fun _ _ => rfl)) pa_nil)) pe_int) rfl) (nomark _)) (pss_one (ps_ret (pe_tup (pa_cons (pv 3) (pa_cons (pv 2) pa_nil))))) pss_nil)
      (pss_one (ps_ret (pe_tup (pa_cons (pv 2) (pa_cons (pv 3) pa_nil)))))), ?_⟩
  have lr := ht.rows.length
  have lt := hR.1
  obtain ⟨a0, r0, ha0, hr0, hx0⟩ := row_of ht (i := 0) (by omega)
  have hl0 := hR.2 r0 (List.mem_of_getElem? hr0)
  walk_at "go"
  refine w_par ?_
  walk_at "go"
  refine w_ixT (SqT.of ha) rfl ?_
  walk_at "go"
  refine ⟨(by show 2 ≤ sizeLine; decide), fun t1 ht1 => ?_⟩
  have e1 := Same.new ht1 (.tup [V.str "row", .int (c.1 : Int)])
  have h1 : (upd H t1 (.tup [V.str "row", .int (c.1 : Int)])) t1 = some (.tup ((plKey (true, c.1)).map kV)) := upd_same
  generalize upd H t1 (.tup [V.str "row", .int (c.1 : Int)]) = H1 at e1 h1 ⊢
  walk_at "go"
  refine w_ixT (SqT.of (e1 _ _ ha)) rfl ?_
  walk_at "go"
  refine ⟨(by show 2 ≤ sizeLine; decide), fun t2 ht2 => ?_⟩
  have e2 := Same.new ht2 (.tup [V.str "column", .int (c.2 : Int)])
  have h2 : (upd H1 t2 (.tup [V.str "column", .int (c.2 : Int)])) t2 = some (.tup ((plKey (false, c.2)).map kV)) := upd_same
  generalize upd H1 t2 (.tup [V.str "column", .int (c.2 : Int)]) = H2 at e2 h2 ⊢
  have e12 := e1.trans e2
  walk_at "go"
  refine ⟨_, _, rfl, ?_⟩
  dsimp only
  walk_at "go"
  refine w_ixT (SqT.of (e12 _ _ ha)) rfl ?_
  walk_at "go"
  refine ⟨g, _, rfl, .inl (SqL.of (e12 _ _ ht.at_)), ?_⟩
  rw [List.length_map, lr, lt]
  walk_at "go"
  refine w_eqI ?_
  rw [decV]
  walk_at "go"
  refine w_ixT (SqT.of (e12 _ _ ha)) rfl ?_
  walk_at "go"
  refine w_ixL (e12 _ _ ht.at_) (ref_at ha0) ?_
  walk_at "go"
  refine ⟨a0, _, rfl, .inl (SqL.of (e12 _ _ hx0)), ?_⟩
  rw [List.length_map, hl0]
  walk_at "go"
  refine w_eqI ?_
  rw [decV]
  rw [show decide ((c.1 : Int) = (m : Int) - 1) = decide (c.1 = m - 1) from decide_eq_decide.mpr (by omega), show decide ((c.2 : Int) = (n : Int) - 1) = decide (c.2 = n - 1) from decide_eq_decide.mpr (by omega)]
  refine ⟨rfl, ?_⟩
  walk_at "go"
  by_cases hc : decide (c.1 = m - 1) = decide (c.2 = n - 1)
  · have ea : arcF m n c = ((true, c.1), (false, c.2)) := by unfold arcF; rw [if_pos hc]
    rw [decide_eq_true (by rw [hc] : V.bl (decide (c.1 = m - 1)) = V.bl (decide (c.2 = n - 1)))]
    walk_at "go"
    refine ⟨(by show 2 ≤ sizeLine; decide), fun t3 ht3 => ?_⟩
    have e3 := Same.new ht3 (.tup [V.ref t1, .ref t2])
    refine q t3 _ (.ref t1) (.ref t2) (e12.trans e3) upd_same ?_ ?_
    · rw [ea]; exact ⟨t1, rfl, (e2.trans e3) _ _ h1⟩
    · rw [ea]; exact ⟨t2, rfl, e3 _ _ h2⟩
  · have ea : arcF m n c = ((false, c.2), (true, c.1)) := by unfold arcF; rw [if_neg hc]
    rw [decide_eq_false (fun z => hc (V.bl.inj z) : ¬ V.bl (decide (c.1 = m - 1)) = V.bl (decide (c.2 = n - 1)))]
    walk_at "go"
    refine ⟨(by show 2 ≤ sizeLine; decide), fun t3 ht3 => ?_⟩
    have e3 := Same.new ht3 (.tup [V.ref t2, .ref t1])
    refine q t3 _ (.ref t2) (.ref t1) (e12.trans e3) upd_same ?_ ?_
    · rw [ea]; exact ⟨t2, rfl, e3 _ _ h2⟩
    · rw [ea]; exact ⟨t1, rfl, (e2.trans e3) _ _ h1⟩
theorem sc_fence : FnScope ["_law_s", "_law_grid", "_law_rows", "_law_sides", "_law_k"] ["_law_s", "_law_grid"] (defScope s__law_fence) := ⟨rfl, rfl, rfl, by decide +kernel, rfl, by decide +kernel, by decide +kernel⟩
theorem ok_fence (T : Tx K mg) : Ok P w K mg base 2 (He.ga K "_law_fence") ["_law_s", "_law_grid"] (spLFence K) := by
  obtain ⟨fd, F⟩ := T.f__law_fence
  have O_law_digit := ok_digit (P := P) (w := w) (base := base) T
  refine ⟨fd, F.ok (k := 1) sc_fence (fun vs H Q E h => ?_) (fun cdv A outer s_ H vs Q E hr h => ?_), F.bindsN fun _ _ _ _ _ _ us hl => match us, hl with | [_, _], _ => rfl, F.kp⟩
  · obtain ⟨s, g, rs, t, m, n, rfl, hs, gs, ht, hR, m1, m7, n7, q⟩ := h
    rfl
  obtain ⟨s, g, rs, t, m, n, rfl, hs, gs, ht, hR, m1, m7, n7, q⟩ := h
  have hu65 := K3.Room.units65 hr
  have hu64 := Nat.lt_of_succ_lt hu65
  have hu0 := Nat.lt_of_le_of_lt (Nat.le_add_right _ 65) hu65
  have hu1 := Nat.lt_of_le_of_lt (Nat.add_le_add_left (show 1 ≤ 65 by decide) _) hu65
  have r_law_digit : Room 1 _ := hr.mono (by decide)
  refine ⟨_, pss_cons (by exact ps_setLc (i := 2) (own := [("_law_k", 4)]) (g := gName 4) (tt := (tTest (tOp rEq (tCall (spDigit K) [] E0 (tCons (tVar 0) (tCons (tC (.int 2)) tNil))) (tC (.int 0))))) (te := (tVar 4)) (by rfl) sc_fence.nd rfl rfl (by rfl) (pi_range1 rfl T.z_range (pa_cons (pe_callB call_len_seq (by rfl) T.z_len PySem.boot_len (pa_cons (pv 1) pa_nil)) pa_nil)) (blkOk_by (own := [("_law_k", 4)]) (N := ["_law_s", "_law_grid", "_law_rows", "_law_sides", "_law_k"]) (sc := defScope s__law_fence) (by decide +kernel)) (fun _ _ _ _ _ => (pg_name (i := 4) sc_fence.nd rfl (Or.inl rfl))) (fun _ _ _ _ _ => (pts_one (pt_cmpR op_eq (pe_f O_law_digit r_law_digit T.g__law_digit (pa_cons (pv 0) (pa_cons pe_int pa_nil))) pe_int (nomark _)))) (fun _ _ _ _ _ => (pv 4)))
      (pss_cons (by exact ps_setLc (i := 3) (own := [("_law_k", 4)]) (g := gName 4) (tt := (tTest (tOp rEq (tCall (spDigit K) [] E0 (tCons (tVar 0) (tCons (tC (.int 2)) tNil))) (tC (.int 0))))) (te := (tVar 4)) (by rfl) sc_fence.nd rfl rfl (by rfl) (pi_range1 rfl T.z_range (pa_cons (pe_callB call_len_seq (by rfl) T.z_len PySem.boot_len (pa_cons (pe_ix ix_list (pv 1) pe_int (fun _ _ => rfl)) pa_nil)) pa_nil)) (blkOk_by (own := [("_law_k", 4)]) (N := ["_law_s", "_law_grid", "_law_rows", "_law_sides", "_law_k"]) (sc := defScope s__law_fence) (by decide +kernel)) (fun _ _ _ _ _ => (pg_name (i := 4) sc_fence.nd rfl (Or.inl rfl))) (fun _ _ _ _ _ => (pts_one (pt_cmpR op_eq (pe_f O_law_digit r_law_digit T.g__law_digit (pa_cons (pv 0) (pa_cons pe_int pa_nil))) pe_int (nomark _)))) (fun _ _ _ _ _ => (pv 4)))
      (pss_one (ps_ret (pe_tup (pa_cons (pe_op op_cat (pe_revL (pv 2)) (pe_slice sl_list (pv 2) po_none (po_some (pe_f O_law_digit r_law_digit T.g__law_digit (pa_cons (pv 0) (pa_cons pe_int pa_nil)))))) (pa_cons (pe_callTy call_tuple_of (by rfl) T.z_tuple (by decide +kernel) (pa_cons (pe_op op_cat (pe_slice sl_list (pv 3) (po_some (pe_f O_law_digit r_law_digit T.g__law_digit (pa_cons (pv 0) (pa_cons pe_int pa_nil)))) po_none) (pv 3)) pa_nil)) pa_nil)))))), ?_⟩
  have lr := ht.rows.length
  have lt := hR.1
  obtain ⟨a0, r0, ha0, hr0, hx0⟩ := row_of ht (i := 0) (by omega)
  have hl0 := hR.2 r0 (List.mem_of_getElem? hr0)
  have a0s : a0 ≠ s := gs.2 a0 (List.mem_of_getElem? ha0)
  walk_at "go"
  refine lcAt_open (rng_open ?_)
  walk_at "go"
  refine ⟨g, _, rfl, .inl (SqL.of ht.at_), ?_⟩
  rw [List.length_map, lr, lt]
  refine ⟨_, rfl, by omega, by omega, fun D hD => ?_⟩
  rw [Int.toNat_natCast]
  have Ds : D ≠ s := src_ne hs.src hD
  refine lc_range (lo := 0) (n := m) (fun (i : Nat) H' => ∃ ns : List Int, BM [s] H H' ∧ Sd H' s ∧ H' D = some (.lst (ns.map V.int)) ∧ ns.length ≤ i) ⟨[], BM.of (Same.new hD _), hs.upd Ds _, upd_same, Nat.le_refl _⟩ ?_ ?_
  · rintro i H2 hi ⟨ns, b2, s2, h2, l2⟩
    walk_at "go"
    refine ⟨rfl, ?_⟩
    walk_at "go"
    refine ⟨s, 2, rfl, s2, by decide, by decide, fun r H3 r1 b3 s3 => ?_⟩
    walk_at "go"
    refine w_eqI ?_
    have h3 := b3.at h2 (by simpa using Ds)
    generalize decide (V.int (r : Int) = V.int 0) = z
    walk_at "go"
    cases z with
    | true =>
      walk_at "go"
      refine ⟨_, h3, Nat.lt_of_le_of_lt (show (ns.map V.int).length ≤ 100 by rw [List.length_map]; omega) (by decide), ns ++ [0 + (i : Int)], (b2.trans b3).mut hD, s3.upd Ds _, by rw [upd_same, List.map_append]; rfl, by rw [List.length_append]; simpa using l2⟩
    | false =>
      walk_at "go"
      exact ⟨ns, b2.trans b3, s3, h3, by omega⟩
  rintro H2 ⟨R0, b2, s2, h2, l2⟩
  walk_at "go"
  refine lcAt_open (rng_open ?_)
  walk_at "go"
  refine w_ixL (b2.at ht.at_ (by simpa using gs.1)) (ref_at ha0) ?_
  walk_at "go"
  refine ⟨a0, _, rfl, .inl (SqL.of (b2.at hx0 (by simpa using a0s))), ?_⟩
  rw [List.length_map, hl0]
  refine ⟨_, rfl, by omega, by omega, fun D2 hD2 => ?_⟩
  rw [Int.toNat_natCast]
  have D2s : D2 ≠ s := src_ne s2.src hD2
  refine lc_range (lo := 0) (n := n) (fun (i : Nat) H' => ∃ ns : List Int, BM [s] H2 H' ∧ Sd H' s ∧ H' D2 = some (.lst (ns.map V.int)) ∧ ns.length ≤ i) ⟨[], BM.of (Same.new hD2 _), s2.upd D2s _, upd_same, Nat.le_refl _⟩ ?_ ?_
  · rintro i H3 hi ⟨ns, b3, s3, h3, l3⟩
    walk_at "go"
    refine ⟨rfl, ?_⟩
    walk_at "go"
    refine ⟨s, 2, rfl, s3, by decide, by decide, fun r H4 r1 b4 s4 => ?_⟩
    walk_at "go"
    refine w_eqI ?_
    have h4 := b4.at h3 (by simpa using D2s)
    generalize decide (V.int (r : Int) = V.int 0) = z
    walk_at "go"
    cases z with
    | true =>
      walk_at "go"
      refine ⟨_, h4, Nat.lt_of_le_of_lt (show (ns.map V.int).length ≤ 100 by rw [List.length_map]; omega) (by decide), ns ++ [0 + (i : Int)], (b3.trans b4).mut hD2, s4.upd D2s _, by rw [upd_same, List.map_append]; rfl, by rw [List.length_append]; simpa using l3⟩
    | false =>
      walk_at "go"
      exact ⟨ns, b3.trans b4, s4, h4, by omega⟩
  rintro H3 ⟨C0, b3, s3, h3, l3⟩
  have h23 := b3.at h2 (by simpa using Ds)
  have b03 := b2.trans b3
  walk_at "go"
  refine w_rev ?_
  walk_at "go"
  refine ⟨D, _, rfl, SqL.of h23, fun p4 hp4 => ?_⟩
  have e4 := Same.new hp4 (.lst (R0.map V.int).reverse)
  have h44 : (upd H3 p4 (.lst (R0.map V.int).reverse)) p4 = some (.lst (R0.map V.int).reverse) := upd_same
  have p4s : p4 ≠ s := src_ne s3.src hp4
  have s4 := s3.same e4
  generalize upd H3 p4 (.lst (R0.map V.int).reverse) = H4 at e4 h44 s4 ⊢
  walk_at "go"
  refine ⟨s, 2, rfl, s4, by decide, by decide, fun r H5 r1 b5 s5 => ?_⟩
  have h25 := b5.at (e4 _ _ h23) (by simpa using Ds)
  have h35 := b5.at (e4 _ _ h3) (by simpa using D2s)
  have h45 := b5.at h44 (by simpa using p4s)
  walk_at "go"
  refine ⟨D, _, rfl, SqL.of h25, fun p6 hp6 => ?_⟩
  rw [cut_to]
  have e6 := Same.new hp6 (.lst ((R0.map V.int).take r))
  refine ⟨p4, p6, _, _, rfl, rfl, e6 _ _ h45, upd_same, Nat.le_trans (show (R0.map V.int).reverse.length + ((R0.map V.int).take r).length ≤ 1000 by rw [List.length_reverse, List.length_take, List.length_map]; omega) (by decide), fun p7 hp7 => ?_⟩
  have e7 := Same.new hp7 (.lst ((R0.map V.int).reverse ++ (R0.map V.int).take r))
  have h7 : (upd (upd H5 p6 (.lst ((R0.map V.int).take r))) p7 (.lst ((R0.map V.int).reverse ++ (R0.map V.int).take r))) p7 = some (.lst ((R0.reverse ++ R0.take r).map V.int)) := by
    rw [upd_same, List.map_append, List.map_reverse, List.map_take]
  have p7s : p7 ≠ s := src_ne (s5.same e6).src hp7
  have s7 := (s5.same e6).same e7
  have e67 := e6.trans e7
  have b07 := ((b03.same e4).trans b5).same e67
  generalize upd (upd H5 p6 (.lst ((R0.map V.int).take r))) p7 (.lst ((R0.map V.int).reverse ++ (R0.map V.int).take r)) = H7 at e7 h7 s7 e67 b07 ⊢
  walk_at "go"
  refine ⟨s, 2, rfl, s7, by decide, by decide, fun r' H8 r1' b8 s8 => ?_⟩
  have h38 := b8.at (e67 _ _ h35) (by simpa using D2s)
  have h78 := b8.at h7 (by simpa using p7s)
  walk_at "go"
  refine ⟨D2, _, rfl, SqL.of h38, fun p9 hp9 => ?_⟩
  rw [cut_from]
  have e9 := Same.new hp9 (.lst ((C0.map V.int).drop r'))
  walk_at "go"
  refine ⟨p9, D2, _, _, rfl, rfl, upd_same, e9 _ _ h38, Nat.le_trans (show ((C0.map V.int).drop r').length + (C0.map V.int).length ≤ 1000 by rw [List.length_drop, List.length_map]; omega) (by decide), fun p10 hp10 => ?_⟩
  have e10 := Same.new hp10 (.lst ((C0.map V.int).drop r' ++ C0.map V.int))
  walk_at "go"
  refine ⟨p10, _, rfl, .inl ⟨SqL.of upd_same, fun p11 hp11 => ?_⟩⟩
  have e11 := Same.new hp11 (.tup ((C0.map V.int).drop r' ++ C0.map V.int))
  walk_at "go"
  refine ⟨(by show 2 ≤ sizeLine; decide), fun p12 hp12 => ?_⟩
  have e12 := Same.new hp12 (.tup [V.ref p7, .ref p11])
  have e912 := e9.trans (e10.trans (e11.trans e12))
  refine q p12 p7 p11 _ (R0.reverse ++ R0.take r) (C0.drop r' ++ C0) ((b07.trans b8).same e912) (s8.same e912) p7s upd_same (e912 _ _ h78) ?_ ?_ ?_
  · rw [List.map_append, List.map_drop]
    exact e12 _ _ upd_same
  · rw [List.length_append, List.length_reverse, List.length_take]; omega
  · rw [List.length_append, List.length_drop]; omega
end
end K3
end L11_part
section L12_part
set_option Elab.async false
set_option linter.all false
set_option maxRecDepth 100000
set_option maxHeartbeats 1000000
set_option pp.deepTerms.threshold 5
open PySem PySem.Spec PyProof.Rows L2
/-- go on as far as nothing is open -/
local macro_rules | `(tactic| walk_at "go") => `(tactic| repeat (first
  | with_reducible refine w_seq ?_ | with_reducible refine w_next ?_ | with_reducible refine w_set ?_ | with_reducible refine w_drop ?_ | with_reducible refine w_ret ?_ | with_reducible refine w_retN ?_
  | with_reducible refine w_if ?_ | ((with_reducible refine' w_var ?hv ?_); (case hv => exact rfl)) | with_reducible refine w_c ?_ | with_reducible refine w_nil ?_ | with_reducible refine w_cons ?_ | with_reducible refine w_op ?_ | with_reducible refine w_un ?_
  | with_reducible refine w_test ?_ | with_reducible refine w_tB ?_ | with_reducible refine w_not ?_ | with_reducible refine w_and ?_ | with_reducible refine w_or ?_ | with_reducible refine w_bl ?_
  | with_reducible refine w_andV ?_ | with_reducible refine w_orV ?_ | with_reducible refine w_notV ?_ | with_reducible refine w_ifE ?_ | with_reducible refine w_chain ?_ | with_reducible refine w_i0 ?_
  | with_reducible refine w_call ?_ | with_reducible refine w_callS ?_ | with_reducible refine w_cB ?_ | with_reducible refine w_tup ?_ | with_reducible refine w_lst ?_ | with_reducible refine w_fldV ?_
  | with_reducible refine w_neF ?_ | with_reducible refine w_neT ?_ | with_reducible refine w_notN ?_ | with_reducible refine w_isN ?_ | with_reducible refine w_gname ?_ | with_reducible refine w_gsub ?_ | with_reducible refine w_asg ?_ | with_reducible refine w_sl ?_ | with_reducible refine w_noP ?_ | with_reducible refine w_int1 ?_ | with_reducible refine w_part ?_ | with_reducible refine w_yes ?_ | with_reducible refine w_nT ?_ | with_reducible refine w_nF ?_ | with_reducible refine w_iteT ?_ | with_reducible refine w_iteF ?_))
namespace K3
/-! ### the law's own bound: places with whole numbers, the cells gone through -/
def PiAt (k : Bool) (H : Hp) (v : V) (i : Int) : Prop := ∃ a, v = .ref a ∧ H a = some (.tup [.str (plName (k, 0)), .int i])
theorem PiAt.same {k : Bool} {H H' : Hp} (e : Same H H') {v : V} {i : Int} (h : PiAt k H v i) : PiAt k H' v i := let ⟨a, h1, h2⟩ := h; ⟨a, h1, e _ _ h2⟩
theorem PiAt.tk {k : Bool} {H H' : Hp} (e : Tk H H') {v : V} {i : Int} (h : PiAt k H v i) : PiAt k H' v i := let ⟨a, h1, h2⟩ := h; ⟨a, h1, e _ _ h2⟩
def plD (k : Bool) (i : Int) : PyData := .tuple [.str (plName (k, 0)), .int i]
theorem pl_dp {K : PySem.W.Frag} {H : Hp} {v : V} {p : Pl} (h : PlAt H v p) : Dp K H v (plD p.1 (p.2 : Int)) := by
  obtain ⟨a, rfl, h⟩ := h
  exact Dp.tup (SqT.of h) (.cons (.str _) (.cons (.int _) .nil))
theorem pis_dp {K : PySem.W.Frag} {k : Bool} {H : Hp} : ∀ {ws : List V} {R : List Int}, Paired (PiAt k H) ws R → DpAll K H ws (R.map (plD k))
  | _, _, .nil => .nil
  | _, _, .cons ⟨_, e, h⟩ t => by
    subst e
    exact .cons (Dp.tup (SqT.of h) (.cons (.str _) (.cons (.int _) .nil))) (pis_dp t)
theorem dpAll_app {K : PySem.W.Frag} {H : Hp} : ∀ {xs ys : List V} {ds es : List PyData}, DpAll K H xs ds → DpAll K H ys es → DpAll K H (xs ++ ys) (ds ++ es)
  | _, _, _, _, .nil, h => h
  | _, _, _, _, .cons h t, h' => .cons h (dpAll_app t h')
theorem pl_eqv (k l : Bool) (i j : Int) : PyData.eqv (plD k i) (plD l j) = (decide (k = l) && decide (i = j)) := by
  have s : ∀ k l : Bool, (plName (k, 0) == plName (l, 0)) = decide (k = l) := by decide
  simp only [plD, PyData.eqv, PyData.eqvAll, Bool.and_true, s]
  congr 1
def insD (R C : List Int) : List PyData := R.map (plD true) ++ C.map (plD false)
theorem any_kind (k l : Bool) (i : Int) : ∀ R : List Int, ((R.map (plD k)).any fun z => PyData.eqv z (plD l i)) = (decide (k = l) && decide (i ∈ R))
  | [] => by simp
  | x :: R => by
    rw [List.map_cons, List.any_cons, any_kind k l i R, pl_eqv]
    by_cases h : k = l <;> by_cases h2 : x = i
    · subst h2; simp [h]
    · have : ¬ i = x := fun z => h2 z.symm
      simp [h, h2, this]
    · simp [h]
    · simp [h]
theorem any_in (R C : List Int) (p : Pl) : ((insD R C).any fun z => PyData.eqv z (plD p.1 (p.2 : Int))) = inF R C p := by
  obtain ⟨b, i⟩ := p
  unfold insD inF
  rw [List.any_append, any_kind, any_kind]
  cases b <;> simp
theorem pl_str (k : Bool) : PyData.strOk (plName (k, 0)) = true := by cases k <;> decide +kernel
theorem pl_shaped (k : Bool) (i : Int) : SeqAt.shaped (plD k i) = true := by
  unfold SeqAt.shaped plD
  simp [PyData.canLay0, PyData.canLayAll0, PyData.depth, PyData.depthAll, pl_str]
theorem lay_ins : ∀ l : List PyData, (∀ d ∈ l, d.canLay0 = true ∧ d.depth ≤ 5) → PyData.canLayAll0 l = true ∧ PyData.depthAll l ≤ 5
  | [], _ => by simp [PyData.canLayAll0, PyData.depthAll]
  | d :: l, h => by
    obtain ⟨a, b⟩ := lay_ins l fun x hx => h x (List.mem_cons_of_mem _ hx)
    obtain ⟨a1, b1⟩ := h d (List.mem_cons_self ..)
    simp only [PyData.canLayAll0, PyData.depthAll]
    exact ⟨by rw [a, a1]; rfl, by omega⟩
theorem ins_shaped (R C : List Int) : SeqAt.shaped (.list (insD R C)) = true := by
  have one : ∀ (k : Bool) (i : Int), (plD k i).canLay0 = true ∧ (plD k i).depth ≤ 5 := fun k i => by
    unfold plD
    exact ⟨by simp [PyData.canLay0, PyData.canLayAll0, pl_str], by simp [PyData.depth, PyData.depthAll]⟩
  obtain ⟨a, b⟩ := lay_ins (insD R C) fun d hd => by
    unfold insD at hd
    rcases List.mem_append.mp hd with hd | hd
    · obtain ⟨i, _, rfl⟩ := List.mem_map.mp hd
      exact one _ _
    · obtain ⟨i, _, rfl⟩ := List.mem_map.mp hd
      exact one _ _
  unfold SeqAt.shaped
  rw [show (PyData.list (insD R C)).canLay0 = true by simpa only [PyData.canLay0] using a, decide_eq_true (by simp only [PyData.depth]; omega : (PyData.list (insD R C)).depth ≤ 64)]
  rfl
theorem ints_self : ∀ R : List Int, Paired (fun (v : V) (x : Int) => v = V.int x) (R.map V.int) R
  | [] => .nil
  | _ :: R => .cons rfl (ints_self R)
theorem eqvAll_cells : ∀ a b : List (Nat × Nat), PyData.eqvAll (a.map cellD) (b.map cellD) = decide (a = b)
  | [], [] => rfl
  | [], _ :: _ => rfl
  | _ :: _, [] => rfl
  | x :: a, y :: b => by
    simp only [List.map_cons, PyData.eqvAll, eqvAll_cells a b, cell_eqv]
    by_cases h : x = y
    · subst h
      simp
    · simp [h]
theorem cells_nodup (m n : Nat) : (cellsOf m n).Nodup := by
  induction m with
  | zero => exact List.nodup_nil
  | succ m ih =>
    rw [cellsOf_succ, List.nodup_append]
    refine ⟨ih, ?_, fun a ha b hb z => ?_⟩
    · unfold rowCells
      exact List.pairwise_map.mpr (List.Pairwise.imp (fun h e => h (by simpa using e)) List.nodup_range)
    · subst z
      have h1 := (cells_mem.mp ha).1
      unfold rowCells at hb
      obtain ⟨j, _, rfl⟩ := List.mem_map.mp hb
      simp at h1
theorem cells_whole {m n : Nat} (m1 : 1 ≤ m) (n1 : 1 ≤ n) : (cellsOf m n).dropLast ++ [(m - 1, n - 1)] = cellsOf m n := by
  obtain ⟨m, rfl⟩ : ∃ k, m = k + 1 := ⟨m - 1, by omega⟩
  obtain ⟨n, rfl⟩ : ∃ k, n = k + 1 := ⟨n - 1, by omega⟩
  rw [cells_last, cellsOf_succ, rowCells_succ, List.append_assoc]
  rfl
/-- all of a list that is no doubles are one -/
theorem one_left {α : Type} {l : List α} {c : α} (nd : l.Nodup) (hc : c ∈ l) (h : ∀ k ∈ l, k = c) : l = [c] := by
  cases l with
  | nil => cases hc
  | cons x l =>
    have := h x (List.mem_cons_self ..)
    subst this
    cases l with
    | nil => rfl
    | cons y l =>
      have := h y (List.mem_cons_of_mem _ (List.mem_cons_self ..))
      subst this
      exact absurd (List.mem_cons_self ..) (List.nodup_cons.mp nd).1
section
variable {t : List (List Int)} {hs : List (Nat × Nat)} {m n : Nat} {F : Pl → Bool}
def comH (m n : Nat) (F : Pl → Bool) (hs l : List (Nat × Nat)) : List (Nat × Nat) := l.filter fun k => comesF m n F k && decide (k ∈ hs)
def goH (m n : Nat) (F : Pl → Bool) (hs l : List (Nat × Nat)) : List (Nat × Nat) := l.filter fun k => goesF m n F k && decide (k ∈ hs)
def restL (t : List (List Int)) (hs : List (Nat × Nat)) (m n : Nat) (F : Pl → Bool) (l : List (Nat × Nat)) : Int := shownS t hs (l.filter (goesF m n F)) - shownS t hs (l.filter (comesF m n F))
theorem comH_snoc (l : List (Nat × Nat)) (k : Nat × Nat) : comH m n F hs (l ++ [k]) = comH m n F hs l ++ (if (comesF m n F k && decide (k ∈ hs)) = true then [k] else []) := by
  unfold comH
  rw [List.filter_append]
  congr 1
  cases h : (comesF m n F k && decide (k ∈ hs)) <;> simp [h]
theorem goH_snoc (l : List (Nat × Nat)) (k : Nat × Nat) : goH m n F hs (l ++ [k]) = goH m n F hs l ++ (if (goesF m n F k && decide (k ∈ hs)) = true then [k] else []) := by
  unfold goH
  rw [List.filter_append]
  congr 1
  cases h : (goesF m n F k && decide (k ∈ hs)) <;> simp [h]
theorem shown_app (a b : List (Nat × Nat)) : shownS t hs (a ++ b) = shownS t hs a + shownS t hs b := by
  unfold shownS
  rw [List.filter_append, List.map_append, List.sum_append]
theorem shown_one (p : Nat × Nat → Bool) (k : Nat × Nat) : shownS t hs ([k].filter p) = if (p k && !decide (k ∈ hs)) = true then at2 t k.1 k.2 else 0 := by
  unfold shownS
  cases h : p k <;> by_cases h2 : k ∈ hs <;> simp [h, h2]
theorem restL_snoc (l : List (Nat × Nat)) (k : Nat × Nat) : restL t hs m n F (l ++ [k]) = restL t hs m n F l - (if (comesF m n F k && !decide (k ∈ hs)) = true then at2 t k.1 k.2 else 0) + (if (goesF m n F k && !decide (k ∈ hs)) = true then at2 t k.1 k.2 else 0) := by
  unfold restL
  rw [List.filter_append, List.filter_append, shown_app, shown_app, shown_one, shown_one]
  omega
theorem com_one {c : Nat × Nat} (hc : c ∈ hs) (c1 : c.1 < m) (c2 : c.2 < n) (cc : comesF m n F c = true) : decide (comH m n F hs (cellsOf m n) = [c]) = !((comeL m n F).any fun k => decide (k ≠ c) && decide (k ∈ hs)) := by
  have hin : c ∈ comH m n F hs (cellsOf m n) := List.mem_filter.mpr ⟨cells_mem.mpr ⟨c1, c2⟩, by rw [cc, decide_eq_true hc]; rfl⟩
  cases h : ((comeL m n F).any fun k => decide (k ≠ c) && decide (k ∈ hs)) with
  | true =>
    obtain ⟨k, h1, h2, h3⟩ := any_come.mp h
    obtain ⟨h4, h5⟩ := come_mem.mp h1
    refine decide_eq_false fun z => h2 ?_
    have : k ∈ comH m n F hs (cellsOf m n) := List.mem_filter.mpr ⟨cells_mem.mpr h4, by rw [h5, decide_eq_true h3]; rfl⟩
    rw [z] at this
    exact List.mem_singleton.mp this
  | false =>
    refine decide_eq_true (one_left (List.Pairwise.sublist List.filter_sublist (cells_nodup m n)) hin fun k hk => ?_)
    obtain ⟨h1, h2⟩ := List.mem_filter.mp hk
    obtain ⟨h3, h4⟩ := Bool.and_eq_true_iff.mp h2
    by_cases z : k = c
    · exact z
    · have := any_come.mpr ⟨k, come_mem.mpr ⟨cells_mem.mp h1, h3⟩, z, of_decide_eq_true h4⟩
      rw [h] at this
      cases this
theorem go_none : decide (goH m n F hs (cellsOf m n) = []) = !((goL m n F).any fun k => decide (k ∈ hs)) := by
  cases h : ((goL m n F).any fun k => decide (k ∈ hs)) with
  | true =>
    obtain ⟨k, h1, h3⟩ := any_go.mp h
    obtain ⟨h4, h5⟩ := go_mem.mp h1
    refine decide_eq_false fun z => ?_
    have : k ∈ goH m n F hs (cellsOf m n) := List.mem_filter.mpr ⟨cells_mem.mpr h4, by rw [h5, decide_eq_true h3]; rfl⟩
    rw [z] at this
    cases this
  | false =>
    refine decide_eq_true (List.eq_nil_iff_forall_not_mem.mpr fun k hk => ?_)
    obtain ⟨h1, h2⟩ := List.mem_filter.mp hk
    obtain ⟨h3, h4⟩ := Bool.and_eq_true_iff.mp h2
    have := any_go.mpr ⟨k, go_mem.mpr ⟨cells_mem.mp h1, h3⟩, of_decide_eq_true h4⟩
    rw [h] at this
    cases this
end
/-- the two lists of hidden cells on their way -/
structure Bq (H1 H3 H' : Hp) (pc pg pl : Addr) (ws : List V) (lc lg : List (Nat × Nat)) : Prop where
  c0 : H1 pc = none
  g0 : H1 pg = none
  ne : pc ≠ pg
  lpc : pl ≠ pc
  lpg : pl ≠ pg
  same : Same H1 H'
  tk : Tk H3 H'
  at_ : H' pl = some (.lst ws)
  com : ∃ wc, H' pc = some (.lst wc) ∧ Paired (CellAt H') wc lc
  go : ∃ wg, H' pg = some (.lst wg) ∧ Paired (CellAt H') wg lg
section
variable {H1 H3 H' H'' : Hp} {pc pg pl : Addr} {ws : List V} {lc lg : List (Nat × Nat)}
theorem Bq.more (S : Bq H1 H3 H' pc pg pl ws lc lg) (e : Same H' H'') : Bq H1 H3 H'' pc pg pl ws lc lg :=
  ⟨S.c0, S.g0, S.ne, S.lpc, S.lpg, S.same.trans e, S.tk.trans (Tk.of e), e _ _ S.at_, let ⟨wc, a, b⟩ := S.com; ⟨wc, e _ _ a, L2.Paired.mapP b fun _ _ z => z.same e⟩, let ⟨wc, a, b⟩ := S.go; ⟨wc, e _ _ a, L2.Paired.mapP b fun _ _ z => z.same e⟩⟩
theorem Bq.addC (S : Bq H1 H3 H' pc pg pl ws lc lg) {wc : List V} {v : V} {k : Nat × Nat} (h : H' pc = some (.lst wc)) (hv : CellAt H' v k) : Bq H1 H3 (upd H' pc (.lst (wc ++ [v]))) pc pg pl ws (lc ++ [k]) lg := by
  have tk : Tk H' (upd H' pc (.lst (wc ++ [v]))) := Tk.upd h fun xs e => by cases e
  obtain ⟨wc', a, b⟩ := S.com
  obtain rfl : wc = wc' := by rw [h] at a; cases a; rfl
  obtain ⟨wg, a2, b2⟩ := S.go
  refine ⟨S.c0, S.g0, S.ne, S.lpc, S.lpg, S.same.mut S.c0, S.tk.trans tk, by rw [upd_ne S.lpc]; exact S.at_, ⟨_, upd_same, K3.Paired.app (L2.Paired.mapP b fun _ _ z => z.tk tk) (.cons (hv.tk tk) .nil)⟩, ⟨wg, by rw [upd_ne S.ne.symm]; exact a2, L2.Paired.mapP b2 fun _ _ z => z.tk tk⟩⟩
theorem Bq.addG (S : Bq H1 H3 H' pc pg pl ws lc lg) {wc : List V} {v : V} {k : Nat × Nat} (h : H' pg = some (.lst wc)) (hv : CellAt H' v k) : Bq H1 H3 (upd H' pg (.lst (wc ++ [v]))) pc pg pl ws lc (lg ++ [k]) := by
  have tk : Tk H' (upd H' pg (.lst (wc ++ [v]))) := Tk.upd h fun xs e => by cases e
  obtain ⟨wc', a, b⟩ := S.go
  obtain rfl : wc = wc' := by rw [h] at a; cases a; rfl
  obtain ⟨wg, a2, b2⟩ := S.com
  refine ⟨S.c0, S.g0, S.ne, S.lpc, S.lpg, S.same.mut S.g0, S.tk.trans tk, by rw [upd_ne S.lpg]; exact S.at_, ⟨wg, by rw [upd_ne S.ne]; exact a2, L2.Paired.mapP b2 fun _ _ z => z.tk tk⟩, ⟨_, upd_same, K3.Paired.app (L2.Paired.mapP b fun _ _ z => z.tk tk) (.cons (hv.tk tk) .nil)⟩⟩
end
end K3
end L12_part
section L13_part
set_option Elab.async false
set_option linter.all false
set_option maxRecDepth 100000
set_option maxHeartbeats 1000000
set_option pp.deepTerms.threshold 5
open PySem PySem.Spec PyProof.Rows L2
/-- go on as far as nothing is open -/
local macro_rules | `(tactic| walk_at "go") => `(tactic| repeat (first
  | with_reducible refine w_seq ?_ | with_reducible refine w_next ?_ | with_reducible refine w_set ?_ | with_reducible refine w_drop ?_ | with_reducible refine w_ret ?_ | with_reducible refine w_retN ?_
  | with_reducible refine w_if ?_ | ((with_reducible refine' w_var ?hv ?_); (case hv => exact rfl)) | with_reducible refine w_c ?_ | with_reducible refine w_nil ?_ | with_reducible refine w_cons ?_ | with_reducible refine w_op ?_ | with_reducible refine w_un ?_
  | with_reducible refine w_test ?_ | with_reducible refine w_tB ?_ | with_reducible refine w_not ?_ | with_reducible refine w_and ?_ | with_reducible refine w_or ?_ | with_reducible refine w_bl ?_
  | with_reducible refine w_andV ?_ | with_reducible refine w_orV ?_ | with_reducible refine w_notV ?_ | with_reducible refine w_ifE ?_ | with_reducible refine w_chain ?_ | with_reducible refine w_i0 ?_
  | with_reducible refine w_call ?_ | with_reducible refine w_callS ?_ | with_reducible refine w_cB ?_ | with_reducible refine w_tup ?_ | with_reducible refine w_lst ?_ | with_reducible refine w_fldV ?_
  | with_reducible refine w_neF ?_ | with_reducible refine w_neT ?_ | with_reducible refine w_notN ?_ | with_reducible refine w_isN ?_ | with_reducible refine w_gname ?_ | with_reducible refine w_gsub ?_ | with_reducible refine w_asg ?_ | with_reducible refine w_sl ?_ | with_reducible refine w_noP ?_ | with_reducible refine w_int1 ?_ | with_reducible refine w_part ?_ | with_reducible refine w_yes ?_ | with_reducible refine w_nT ?_ | with_reducible refine w_nF ?_ | with_reducible refine w_iteT ?_ | with_reducible refine w_iteF ?_))
namespace K3
def spLBound (K : PySem.W.Frag) : Sp := fun vs H Q _ => ∃ (g h : Addr) (v fv : V) (rs : List Addr) (t : List (List Int)) (m n : Nat) (ws : List V) (hs : List (Nat × Nat)) (c : Nat × Nat) (R C : List Int), vs = [.ref g, .ref h, v, fv] ∧ Tab H g rs t ∧ Rect t m n ∧ 1 ≤ m ∧ 1 ≤ n ∧ m ≤ 30 ∧ n ≤ 30 ∧
  H h = some (.lst ws) ∧ Paired (CellAt H) ws hs ∧ CellAt H v c ∧ c ∈ hs ∧ c.1 < m ∧ c.2 < n ∧ FenceAt K H fv R C ∧ R.length ≤ 100 ∧ C.length ≤ 100 ∧
  ∀ a H', Same H H' → H' a = some (.tup [optV (boundF t hs m n (inF R C) c).1, optV (boundF t hs m n (inF R C) c).2]) → Q (.ref a) H'
section
variable {P : Program} {w : World} {K : PySem.W.Frag} {mg : Str → Option Value} {base : Heap}
theorem sc_law_bound : FnScope ["_law_grid", "_law_hidden_here", "_law_place", "_law_hedge", "_law_inside", "_law_rest", "_law_coming", "_law_going", "_law_one", "_law_start", "_law_goal", "_law_number", "_law_k"] ["_law_grid", "_law_hidden_here", "_law_place", "_law_hedge"] (defScope s__law_bound) := ⟨rfl, rfl, rfl, by decide +kernel, rfl, by decide +kernel, by decide +kernel⟩
theorem ok_law_bound (T : Tx K mg) : Ok P w K mg base 2 (He.ga K "_law_bound") ["_law_grid", "_law_hidden_here", "_law_place", "_law_hedge"] (spLBound K) := by
  obtain ⟨fd, F⟩ := T.f__law_bound
  have O_law_cells := ok_cells (P := P) (w := w) (base := base) T
  have O_law_arc := ok_arc (P := P) (w := w) (base := base) T
  refine ⟨fd, F.ok (k := 1) sc_law_bound (fun vs H Q E h => ?_) (fun cdv A outer s_ H vs Q E hr h => ?_), F.bindsN fun _ _ _ _ _ _ us hl => match us, hl with | [_, _, _, _], _ => rfl, F.kp⟩
  · obtain ⟨g, h, v, fv, rs, t, m, n, wh, hs, c, R, C, rfl, ht, hR, m1, n1, m30, n30, hh, hw, hcv, hc, c1, c2, hF, lR, lC, q⟩ := h
    rfl
  obtain ⟨g, h, v, fv, rs, t, m, n, wh, hs, c, R, C, rfl, ht, hR, m1, n1, m30, n30, hh, hw, hcv, hc, c1, c2, hF, lR, lC, q⟩ := h
  have hu65 := K3.Room.units65 hr
  have hu64 := Nat.lt_of_succ_lt hu65
  have hu0 := Nat.lt_of_le_of_lt (Nat.le_add_right _ 65) hu65
  have hu1 := Nat.lt_of_le_of_lt (Nat.add_le_add_left (show 1 ≤ 65 by decide) _) hu65
  have r_law_cells : Room 1 _ := hr.mono (by decide)
  have r_law_arc : Room 1 _ := hr.mono (by decide)
  refine ⟨_, pss_cons (ps_set (i := 4) sc_law_bound.nd rfl (Or.inl rfl) (pe_op op_cat (by exact pe_lc (own := [("_law_k", 12)]) (g := gName 12) (tt := tYes) (te := (tTup (tCons (tC (.str "row")) (tCons (tVar 12) tNil)))) (by rfl) sc_law_bound.nd (pi_seq (pe_ix ix_tup (pv 3) pe_int (fun _ _ => rfl))) (blkOk_by (own := [("_law_k", 12)]) (N := ["_law_grid", "_law_hidden_here", "_law_place", "_law_hedge", "_law_inside", "_law_rest", "_law_coming", "_law_going", "_law_one", "_law_start", "_law_goal", "_law_number", "_law_k"]) (sc := defScope s__law_bound) (by decide +kernel)) (fun _ _ _ _ _ => (pg_name (i := 12) sc_law_bound.nd rfl (Or.inl rfl))) (fun _ _ _ _ _ => pts_nil) (fun _ _ _ _ _ => (pe_tup (pa_cons pe_str (pa_cons (pv 12) pa_nil))))) (by exact pe_lc (own := [("_law_k", 12)]) (g := gName 12) (tt := tYes) (te := (tTup (tCons (tC (.str "column")) (tCons (tVar 12) tNil)))) (by rfl) sc_law_bound.nd (pi_seq (pe_ix ix_tup (pv 3) pe_int (fun _ _ => rfl))) (blkOk_by (own := [("_law_k", 12)]) (N := ["_law_grid", "_law_hidden_here", "_law_place", "_law_hedge", "_law_inside", "_law_rest", "_law_coming", "_law_going", "_law_one", "_law_start", "_law_goal", "_law_number", "_law_k"]) (sc := defScope s__law_bound) (by decide +kernel)) (fun _ _ _ _ _ => (pg_name (i := 12) sc_law_bound.nd rfl (Or.inl rfl))) (fun _ _ _ _ _ => pts_nil) (fun _ _ _ _ _ => (pe_tup (pa_cons pe_str (pa_cons (pv 12) pa_nil)))))))
      (pss_cons (ps_set (i := 5) sc_law_bound.nd rfl (Or.inl rfl) pe_int)
      (pss_cons (ps_set (i := 6) sc_law_bound.nd rfl (Or.inl rfl) (pe_lst pa_nil))
      (pss_cons (ps_set (i := 7) sc_law_bound.nd rfl (Or.inl rfl) (pe_lst pa_nil))
      (pss_cons (ps_for (passes_of rfl) (by rfl) (pi_list (pe_op op_cat (pe_f O_law_cells r_law_cells T.g__law_cells (pa_cons (pv 0) pa_nil)) (pe_lst (pa_cons (pe_tup (pa_cons (pe_op op_sub (pe_callB call_len_seq (by rfl) T.z_len PySem.boot_len (pa_cons (pv 0) pa_nil)) pe_int) (pa_cons (pe_op op_sub (pe_callB call_len_seq (by rfl) T.z_len PySem.boot_len (pa_cons (pe_ix ix_list (pv 0) pe_int (fun _ _ => rfl)) pa_nil)) pe_int) pa_nil))) pa_nil)))) (pg_name (i := 8) sc_law_bound.nd rfl (Or.inl rfl)) (pss_cons (ps_asg (pe_f O_law_arc r_law_arc T.g__law_arc (pa_cons (pv 0) (pa_cons (pv 8) pa_nil))) (pg_tup (by rfl) (pgs_cons (pg_name (i := 9) sc_law_bound.nd rfl (Or.inl rfl)) (pgs_cons (pg_name (i := 10) sc_law_bound.nd rfl (Or.inl rfl)) pgs_nil))))
      (pss_cons (ps_set (i := 11) sc_law_bound.nd rfl (Or.inl rfl) (pe_ix ix_list (pe_ix ix_list (pv 0) (pe_ix ix_tup (pv 8) pe_int (fun _ _ => rfl)) (fun _ _ => rfl)) (pe_ix ix_tup (pv 8) pe_int (fun _ _ => rfl)) (fun _ _ => rfl)))
      (Evl.pss_cut (ps_if (pw_and (pt_cmpR (op_inD hu65) (pv 10) (pv 4) (by rfl)) (pw_and1 (pt_cmpR (op_notInD hu65) (pv 9) (pv 4) (by rfl)))).pt (pss_one (ps_if (pt_cmpR (op_inD hu65) (pv 8) (pv 1) (by rfl)) (pss_one (ps_expr (pe_bm PySem.F.plainAttrs_list PySem.F.slot_list_append PySem.F.type_list_append mt_append (pv 6) (pa_cons (pv 8) pa_nil)))) (pss_one (ps_set (i := 5) sc_law_bound.nd rfl (Or.inl rfl) (pe_op op_sub (pv 5) (pv 11)))))) pss_nil)
      (pss_one (ps_if (pw_and (pt_cmpR (op_inD hu65) (pv 9) (pv 4) (by rfl)) (pw_and1 (pt_cmpR (op_notInD hu65) (pv 10) (pv 4) (by rfl)))).pt (pss_one (ps_if (pt_cmpR (op_inD hu65) (pv 8) (pv 1) (by rfl)) (pss_one (ps_expr (pe_bm PySem.F.plainAttrs_list PySem.F.slot_list_append PySem.F.type_list_append mt_append (pv 7) (pa_cons (pv 8) pa_nil)))) (pss_one (ps_set (i := 5) sc_law_bound.nd rfl (Or.inl rfl) (pe_op op_add (pv 5) (pv 11)))))) pss_nil))))))
      (pss_cons (ps_if (pt_cmpR (op_notInD hu65) (pv 2) (pv 6) (by rfl)) (pss_one (ps_ret (pe_tup (pa_cons pe_non (pa_cons pe_non pa_nil))))) pss_nil)
      (pss_one (ps_ret (pe_tup (pa_cons (pe_ix ix_list (pe_lst (pa_cons pe_non (pa_cons (pv 5) pa_nil))) (pe_callTy call_int1 (by rfl) T.z_int (by decide +kernel) (pa_cons (pe_cmpR (op_eqD hu64) (pv 6) (pe_lst (pa_cons (pv 2) pa_nil)) rfl) pa_nil)) (fun _ _ => rfl)) (pa_cons (pe_ix ix_list (pe_lst (pa_cons pe_non (pa_cons (pv 5) pa_nil))) (pe_callTy call_int1 (by rfl) T.z_int (by decide +kernel) (pa_cons (pe_cmpR (op_eqD hu64) (pv 7) (pe_lst pa_nil) rfl) pa_nil)) (fun _ _ => rfl)) pa_nil)))))))))), ?_⟩
  obtain ⟨fp, fa, fb, rfl, hfp, ⟨ba, hfa⟩, ⟨bb, hfb⟩⟩ := hF
  have lr := ht.rows.length
  have lt := hR.1
  obtain ⟨a0, r0, ha0, hr0, hx0⟩ := row_of ht (i := 0) (by omega)
  have hl0 := hR.2 r0 (List.mem_of_getElem? hr0)
  walk_at "go"
  refine lcAt_open (seqI_open ?_)
  walk_at "go"
  refine w_ixT hfp rfl ?_
  refine ⟨fa, ba, rfl, ⟨_, hfa⟩, fun D hD => ?_⟩
  refine items_genB (F := fun _ v (x : Int) => v = V.int x) (G := PiAt true) (fun _ h => h) (fun e h => PiAt.tk e h) (fun _ => true) (fun x => x) hfa (ints_self R) hD (by rw [List.length_map]; omega) ?_ ?_
  · rintro v' x H2 e2 hx rfl R' _ r2
    walk_at "go"
    refine ⟨rfl, ?_⟩
    walk_at "go"
    refine ⟨(by show 2 ≤ sizeLine; decide), fun b hb => ?_⟩
    exact r2 _ _ (Same.new hb _) rfl ⟨b, rfl, upd_same⟩
  intro H1 z1 e1 hD1 hz1
  rw [List.filter_eq_self.mpr fun _ _ => rfl, List.map_id'] at hz1
  refine lcAt_open (seqI_open ?_)
  walk_at "go"
  refine w_ixT (e1.sqt hfp) rfl ?_
  refine ⟨fb, bb, rfl, ⟨_, hfb.same e1⟩, fun D2 hD2 => ?_⟩
  refine items_genB (F := fun _ v (x : Int) => v = V.int x) (G := PiAt false) (fun _ h => h) (fun e h => PiAt.tk e h) (fun _ => true) (fun x => x) (hfb.same e1) (ints_self C) hD2 (by rw [List.length_map]; omega) ?_ ?_
  · rintro v' x H2 e2 hx rfl R' _ r2
    walk_at "go"
    refine ⟨rfl, ?_⟩
    walk_at "go"
    refine ⟨(by show 2 ≤ sizeLine; decide), fun b hb => ?_⟩
    exact r2 _ _ (Same.new hb _) rfl ⟨b, rfl, upd_same⟩
  intro H2 z2 e2 hD22 hz2
  rw [List.filter_eq_self.mpr fun _ _ => rfl, List.map_id'] at hz2
  refine ⟨D, D2, _, _, rfl, rfl, e2 _ _ hD1, hD22, Nat.le_trans (show z1.length + z2.length ≤ 200 by rw [hz1.length, hz2.length]; omega) (by decide), fun pi hpi => ?_⟩
  have e3 := Same.new hpi (.lst (z1 ++ z2))
  have e03 := e1.trans (e2.trans e3)
  have hpi3 : (upd H2 pi (.lst (z1 ++ z2))) pi = some (.lst (z1 ++ z2)) := upd_same
  have hz13 := L2.Paired.mapP hz1 fun _ _ y => y.same (e2.trans e3)
  have hz23 := L2.Paired.mapP hz2 fun _ _ y => y.same e3
  generalize upd H2 pi (.lst (z1 ++ z2)) = H3 at e3 e03 hpi3 hz13 hz23 ⊢
  have dpI : ∀ H', Same H3 H' → Dp K H' (.ref pi) (.list (insD R C)) := fun H' e => Dp.lst (SqL.of (e _ _ hpi3)) (dpAll_app (pis_dp (L2.Paired.mapP hz13 fun _ _ y => y.same e)) (pis_dp (L2.Paired.mapP hz23 fun _ _ y => y.same e)))
  have dpH : ∀ H', Same H3 H' → Dp K H' (.ref h) (.list (hs.map cellD)) := fun H' e => Dp.lst (SqL.of ((e03.trans e) _ _ hh)) (cells_dp (L2.Paired.mapP hw fun _ _ y => y.same (e03.trans e)))
  have ht3 := ht.same e03
  have hcv3 := hcv.same e03
  have hx03 := e03 _ _ hx0
  generalize hFF : inF R C = F at q
  have inP : ∀ p : Pl, ((insD R C).any fun z => PyData.eqv z (plD p.1 (p.2 : Int))) = F p := fun p => by rw [any_in, hFF]
  walk_at "go"
  refine ⟨Nat.zero_le _, fun pc hpc => ?_⟩
  have e4 := Same.new hpc (.lst [])
  have hc4 : (upd H3 pc (.lst [])) pc = some (.lst []) := upd_same
  generalize upd H3 pc (.lst []) = H4 at e4 hc4 ⊢
  walk_at "go"
  refine ⟨Nat.zero_le _, fun pg hpg => ?_⟩
  have e5 := Same.new hpg (.lst [])
  have hg5 : (upd H4 pg (.lst [])) pg = some (.lst []) := upd_same
  have hc5 := e5 _ _ hc4
  generalize upd H4 pg (.lst []) = H5 at e5 hg5 hc5 ⊢
  have e35 := e4.trans e5
  walk_at "go"
  refine list_open ?_
  walk_at "go"
  refine ⟨g, rs, t, m, n, rfl, ht3.same e35, hR, by omega, by omega, by omega, fun p6 H6 w6 e6 hp6 h6 c6 => ?_⟩
  have e36 := e35.trans e6
  walk_at "go"
  refine ⟨g, _, rfl, .inl (SqL.of (e36 _ _ ht3.at_)), ?_⟩
  rw [List.length_map, lr, lt]
  walk_at "go"
  refine w_ixL (e36 _ _ ht3.at_) (ref_at ha0) ?_
  walk_at "go"
  refine ⟨a0, _, rfl, .inl (SqL.of (e36 _ _ hx03)), ?_⟩
  rw [List.length_map, hl0]
  walk_at "go"
  refine ⟨(by show 2 ≤ sizeLine; decide), fun p7 hp7 => ?_⟩
  have e7 := Same.new hp7 (.tup [V.int ((m : Int) - 1), .int ((n : Int) - 1)])
  walk_at "go"
  refine ⟨(by show 1 ≤ sizeLine; decide), fun p8 hp8 => ?_⟩
  have e8 := Same.new hp8 (.lst [V.ref p7])
  have lw6 : w6.length ≤ 900 := by
    rw [c6.length, List.length_dropLast, cells_len]
    exact Nat.le_trans (Nat.sub_le _ _) (Nat.mul_le_mul m30 n30)
  refine ⟨p6, p8, _, _, rfl, rfl, (e7.trans e8) _ _ h6, upd_same, Nat.le_trans (show w6.length + 1 ≤ 1000 by omega) (by decide), fun pl hpl => ?_⟩
  have e9 := Same.new hpl (.lst (w6 ++ [V.ref p7]))
  have e69 := e7.trans (e8.trans e9)
  have e59 := e6.trans e69
  have e39 := e35.trans e59
  have hcells : Paired (CellAt (upd (upd (upd H6 p7 (.tup [V.int ((m : Int) - 1), .int ((n : Int) - 1)])) p8 (.lst [V.ref p7])) pl (.lst (w6 ++ [V.ref p7])))) (w6 ++ [V.ref p7]) (cellsOf m n) := by
    rw [← cells_whole m1 n1]
    refine K3.Paired.app (L2.Paired.mapP c6 fun _ _ y => y.same e69) (.cons ⟨p7, rfl, ?_⟩ .nil)
    rw [(e8.trans e9) _ _ upd_same]
    simp only [Option.some.injEq, HO.tup.injEq, List.cons.injEq, V.int.injEq, and_true]
    omega
  have hl9 : (upd (upd (upd H6 p7 (.tup [V.int ((m : Int) - 1), .int ((n : Int) - 1)])) p8 (.lst [V.ref p7])) pl (.lst (w6 ++ [V.ref p7]))) pl = some (.lst (w6 ++ [V.ref p7])) := upd_same
  have plc : pl ≠ pc := fun z => by
    have := (e6.trans (e7.trans e8)) _ _ hc5
    rw [z, this] at hpl
    cases hpl
  have plg : pl ≠ pg := fun z => by
    have := (e6.trans (e7.trans e8)) _ _ hg5
    rw [z, this] at hpl
    cases hpl
  have pcg : pc ≠ pg := fun z => by rw [← z, hc4] at hpg; cases hpg
  have hc9 := e59 _ _ hc5
  have hg9 := e59 _ _ hg5
  generalize upd (upd (upd H6 p7 (.tup [V.int ((m : Int) - 1), .int ((n : Int) - 1)])) p8 (.lst [V.ref p7])) pl (.lst (w6 ++ [V.ref p7])) = H9 at e9 e69 e59 e39 hcells hl9 hc9 hg9 ⊢
  have lcs : (w6 ++ [V.ref p7]).length ≤ 1000 := by rw [List.length_append]; simp; omega
  generalize w6 ++ [V.ref p7] = ws at hcells hl9 lcs ⊢
  refine ⟨pl, rfl, ⟨_, SqL.of hl9⟩, ?_⟩
  have S0 : Bq H3 H9 H9 pc pg pl ws [] [] := ⟨hpc, e4.free hpg, pcg, plc, plg, e39, Tk.refl _, hl9, ⟨[], hc9, .nil⟩, ⟨[], hg9, .nil⟩⟩
  refine for_list (xs := ws) (fun (i : Nat) σ H' => ∃ (o8 o9 o10 o11 : Option V), σ = [some (.ref g), some (.ref h), some v, some (.ref fp), some (.ref pi), some (.int (restL t hs m n F ((cellsOf m n).take i))), some (.ref pc), some (.ref pg), o8, o9, o10, o11, none] ∧ Bq H3 H9 H' pc pg pl ws (comH m n F hs ((cellsOf m n).take i)) (goH m n F hs ((cellsOf m n).take i)))
    ⟨none, none, none, none, rfl, S0⟩ (fun i σ H' _ ⟨_, _, _, _, _, S⟩ => SqL.of S.at_) ?_ ?_
  · rintro i x σ H' hx ⟨o8, o9, o10, o11, rfl, S⟩
    obtain ⟨k, hk, hxk⟩ := K3.Paired.get hcells hx
    have hxk := hxk.tk S.tk
    obtain ⟨k1, k2⟩ := cells_mem.mp (List.mem_of_getElem? hk)
    have tk1 : (cellsOf m n).take (i + 1) = (cellsOf m n).take i ++ [k] := by rw [List.take_add_one, hk]; rfl
    have ll : ((cellsOf m n).take i).length ≤ 1000 := by
      have := hcells.length
      rw [List.length_take]
      omega
    have llc : (comH m n F hs ((cellsOf m n).take i)).length ≤ 1000 := Nat.le_trans (List.length_filter_le _ _) ll
    have llg : (goH m n F hs ((cellsOf m n).take i)).length ≤ 1000 := Nat.le_trans (List.length_filter_le _ _) ll
    have rs1 := restL_snoc (t := t) (hs := hs) (m := m) (n := n) (F := F) ((cellsOf m n).take i) k
    have cm1 := comH_snoc (hs := hs) (m := m) (n := n) (F := F) ((cellsOf m n).take i) k
    have go1 := goH_snoc (hs := hs) (m := m) (n := n) (F := F) ((cellsOf m n).take i) k
    rw [← tk1] at rs1 cm1 go1
    generalize restL t hs m n F ((cellsOf m n).take (i + 1)) = r1 at rs1 ⊢
    generalize comH m n F hs ((cellsOf m n).take (i + 1)) = lc1 at cm1 ⊢
    generalize goH m n F hs ((cellsOf m n).take (i + 1)) = lg1 at go1 ⊢
    generalize restL t hs m n F ((cellsOf m n).take i) = r0' at rs1 ⊢
    generalize comH m n F hs ((cellsOf m n).take i) = lc at cm1 llc S ⊢
    generalize goH m n F hs ((cellsOf m n).take i) = lg at go1 llg S ⊢
    walk_at "go"
    refine ⟨g, x, rs, t, m, n, k, rfl, ht3.same S.same, hR, m1, n1, hxk, fun ta HA y1 y2 eA hA p1 p2 => ?_⟩
    have SA := S.more eA
    have hxA := hxk.same eA
    obtain ⟨xa, rfl, hxa⟩ := id hxA
    refine w_gtup (SqT.of hA) rfl (w_gnn ?_)
    dsimp only
    walk_at "go"
    refine w_ixT (SqT.of hxa) rfl ?_
    walk_at "go"
    have htA := ht3.same SA.same
    obtain ⟨ra, rr, hra, hrr, hrx⟩ := row_of htA (i := k.1) (by omega)
    have lrr := hR.2 rr (List.mem_of_getElem? hrr)
    refine w_ixL htA.at_ (ref_at hra) ?_
    walk_at "go"
    refine w_ixT (SqT.of hxa) rfl ?_
    walk_at "go"
    refine w_ixL hrx (at_getD (by omega)) ?_
    rw [← at2_of hrr]
    walk_at "go"
    have ig := inP (arcF m n k).2
    have is_ := inP (arcF m n k).1
    have cmE : comesF m n F k = (F (arcF m n k).2 && !F (arcF m n k).1) := rfl
    have goE : goesF m n F k = (F (arcF m n k).1 && !F (arcF m n k).2) := rfl
    rw [cmE] at cm1
    rw [goE] at go1
    rw [cmE, goE] at rs1
    generalize F (arcF m n k).2 = bg at ig cm1 go1 rs1
    generalize F (arcF m n k).1 = bs at is_ cm1 go1 rs1
    refine Evl.q_cut (M := fun σ' H'' => ∃ r' : Int, r' = r0' - (if (bg && !bs && !decide (k ∈ hs)) = true then at2 t k.1 k.2 else 0) ∧ σ' = [some (.ref g), some (.ref h), some v, some (.ref fp), some (.ref pi), some (.int r'), some (.ref pc), some (.ref pg), some (.ref xa), some y1, some y2, some (.int (at2 t k.1 k.2)), none] ∧ Tk HA H'' ∧ Bq H3 H9 H'' pc pg pl ws lc1 lg) ?_ ?_
    · walk_at "go"
      refine ⟨_, _, pl_dp p2, dpI _ SA.same, pl_shaped _ _, ins_shaped _ _, ?_⟩
      rw [ig]
      walk_at "go"
      cases bg with
      | false =>
        walk_at "go"
        exact ⟨r0', by simp, rfl, Tk.refl _, by rw [show lc1 = lc by rw [cm1]; simp]; exact SA⟩
      | true =>
        walk_at "go"
        refine ⟨_, _, pl_dp p1, dpI _ SA.same, pl_shaped _ _, ins_shaped _ _, ?_⟩
        rw [is_]
        walk_at "go"
        cases bs with
        | true =>
          walk_at "go"
          exact ⟨r0', by simp, rfl, Tk.refl _, by rw [show lc1 = lc by rw [cm1]; simp]; exact SA⟩
        | false =>
          walk_at "go"
          refine ⟨cellD k, hs.map cellD, cell_dp hxA, dpH _ SA.same, cell_shaped _, cells_shaped _, ?_⟩
          rw [any_cell]
          walk_at "go"
          by_cases hin : k ∈ hs
          · rw [decide_eq_true hin]
            walk_at "go"
            obtain ⟨wc, hwc, pwc⟩ := SA.com
            refine ⟨_, rfl, .inl ⟨rfl, _, SqL.of hwc⟩, ?_⟩
            walk_at "go"
            refine ⟨pc, wc, _, rfl, rfl, hwc, Nat.lt_of_le_of_lt (show wc.length ≤ 1000 by rw [pwc.length]; exact llc) (by decide), ?_⟩
            walk_at "go"
            exact ⟨r0', by simp [hin], rfl, Tk.upd hwc fun xs e => (by cases e), by rw [show lc1 = lc ++ [k] by rw [cm1]; simp [hin]]; exact SA.addC hwc hxA⟩
          · rw [decide_eq_false hin]
            walk_at "go"
            exact ⟨_, by simp [hin], rfl, Tk.refl _, by rw [show lc1 = lc by rw [cm1]; simp [hin]]; exact SA⟩
    · rintro σ' HB ⟨r', hr', rfl, tkB, SB⟩
      have hxB := hxA.tk tkB
      walk_at "go"
      refine ⟨_, _, pl_dp (p1.tk tkB), dpI _ SB.same, pl_shaped _ _, ins_shaped _ _, ?_⟩
      rw [is_]
      walk_at "go"
      cases bs with
      | false =>
        walk_at "go"
        exact ⟨_, _, _, _, by rw [show r1 = r' by rw [rs1, hr']; simp], by rw [show lg1 = lg by rw [go1]; simp]; exact SB⟩
      | true =>
        walk_at "go"
        refine ⟨_, _, pl_dp (p2.tk tkB), dpI _ SB.same, pl_shaped _ _, ins_shaped _ _, ?_⟩
        rw [ig]
        walk_at "go"
        cases bg with
        | true =>
          walk_at "go"
          exact ⟨_, _, _, _, by rw [show r1 = r' by rw [rs1, hr']; simp], by rw [show lg1 = lg by rw [go1]; simp]; exact SB⟩
        | false =>
          walk_at "go"
          refine ⟨cellD k, hs.map cellD, cell_dp hxB, dpH _ SB.same, cell_shaped _, cells_shaped _, ?_⟩
          rw [any_cell]
          walk_at "go"
          by_cases hin : k ∈ hs
          · rw [decide_eq_true hin]
            walk_at "go"
            obtain ⟨wc, hwc, pwc⟩ := SB.go
            refine ⟨_, rfl, .inl ⟨rfl, _, SqL.of hwc⟩, ?_⟩
            walk_at "go"
            refine ⟨pg, wc, _, rfl, rfl, hwc, Nat.lt_of_le_of_lt (show wc.length ≤ 1000 by rw [pwc.length]; exact llg) (by decide), ?_⟩
            walk_at "go"
            exact ⟨_, _, _, _, by rw [show r1 = r' by rw [rs1, hr']; simp [hin]], by rw [show lg1 = lg ++ [k] by rw [go1]; simp [hin]]; exact SB.addG hwc hxB⟩
          · rw [decide_eq_false hin]
            walk_at "go"
            exact ⟨_, _, _, _, by rw [show r1 = r' + at2 t k.1 k.2 by rw [rs1, hr']; simp [hin]]; rfl, by rw [show lg1 = lg by rw [go1]; simp [hin]]; exact SB⟩
  · rintro σ H' ⟨o8, o9, o10, o11, rfl, S⟩
    rw [hcells.length, List.take_length] at S ⊢
    have rE : restL t hs m n F (cellsOf m n) = restF t hs m n F := rfl
    rw [rE]
    obtain ⟨wc, hwc, pwc⟩ := S.com
    obtain ⟨wg, hwg, pwg⟩ := S.go
    have hcv9 := hcv3.same S.same
    have e09 := e03.trans S.same
    walk_at "go"
    refine ⟨cellD c, (comH m n F hs (cellsOf m n)).map cellD, cell_dp hcv9, Dp.lst (SqL.of hwc) (cells_dp pwc), cell_shaped _, cells_shaped _, ?_⟩
    rw [any_cell]
    walk_at "go"
    by_cases cc : comesF m n F c = true
    · have hin : c ∈ comH m n F hs (cellsOf m n) := List.mem_filter.mpr ⟨cells_mem.mpr ⟨c1, c2⟩, by rw [cc, decide_eq_true hc]; rfl⟩
      rw [decide_eq_true hin]
      walk_at "go"
      have k1 := com_one (hs := hs) hc c1 c2 cc
      have k2 := go_none (hs := hs) (m := m) (n := n) (F := F)
      have bnd : boundF t hs m n F c = (if ((comeL m n F).any fun k => decide (k ≠ c) && decide (k ∈ hs)) = true then none else some (restF t hs m n F), if ((goL m n F).any fun k => decide (k ∈ hs)) = true then none else some (restF t hs m n F)) := by
        unfold boundF
        rw [if_pos cc]
      rw [bnd] at q
      generalize ((comeL m n F).any fun k => decide (k ≠ c) && decide (k ∈ hs)) = B1 at q k1
      generalize ((goL m n F).any fun k => decide (k ∈ hs)) = B2 at q k2
      generalize restF t hs m n F = rr at q ⊢
      refine ⟨(by show 2 ≤ sizeLine; decide), fun p10 hp10 => ?_⟩
      have e10 := Same.new hp10 (.lst [V.non, .int rr])
      have h10 : (upd H' p10 (.lst [V.non, .int rr])) p10 = some (.lst [V.non, .int rr]) := upd_same
      generalize upd H' p10 (.lst [V.non, .int rr]) = H10 at e10 h10 ⊢
      walk_at "go"
      refine ⟨(by show 1 ≤ sizeLine; decide), fun p11 hp11 => ?_⟩
      have e11 := Same.new hp11 (.lst [v])
      have e1011 := e10.trans e11
      refine ⟨.list ((comH m n F hs (cellsOf m n)).map cellD), .list ([c].map cellD), Dp.lst (SqL.of (e1011 _ _ hwc)) (cells_dp (L2.Paired.mapP pwc fun _ _ y => y.same e1011)), Dp.lst (SqL.of upd_same) (cells_dp (.cons (hcv9.same e1011) .nil)), cells_shaped _, cells_shaped _, ?_⟩
      rw [PyData.eqv, eqvAll_cells, k1]
      generalize upd H10 p11 (.lst [v]) = H11 at e11 e1011 ⊢
      walk_at "go"
      refine .inr ⟨_, rfl, ?_⟩
      have ixB : ∀ B : Bool, atI [V.non, .int rr] (if (!B) = true then 1 else 0) = some (optV (if B = true then none else some rr)) := fun B => by cases B <;> rfl
      refine w_ixL (e11 _ _ h10) (ixB B1) ?_
      have eA := e1011
      walk_at "go"
      refine ⟨(by show 2 ≤ sizeLine; decide), fun p12 hp12 => ?_⟩
      have e12 := Same.new hp12 (.lst [V.non, .int rr])
      have h12 : (upd H11 p12 (.lst [V.non, .int rr])) p12 = some (.lst [V.non, .int rr]) := upd_same
      generalize upd H11 p12 (.lst [V.non, .int rr]) = H12 at e12 h12 ⊢
      walk_at "go"
      refine ⟨Nat.zero_le _, fun p13 hp13 => ?_⟩
      have e13 := Same.new hp13 (.lst [])
      have eB := eA.trans (e12.trans e13)
      refine ⟨.list ((goH m n F hs (cellsOf m n)).map cellD), .list (([] : List (Nat × Nat)).map cellD), Dp.lst (SqL.of (eB _ _ hwg)) (cells_dp (L2.Paired.mapP pwg fun _ _ y => y.same eB)), Dp.lst (SqL.of upd_same) .nil, cells_shaped _, cells_shaped _, ?_⟩
      rw [PyData.eqv, eqvAll_cells, k2]
      walk_at "go"
      refine .inr ⟨_, rfl, ?_⟩
      refine w_ixL (e13 _ _ h12) (ixB B2) ?_
      walk_at "go"
      exact ⟨(by show 2 ≤ sizeLine; decide), fun a ha => q a _ (e09.trans (eB.trans (Same.new ha _))) upd_same⟩
    · have hin : c ∉ comH m n F hs (cellsOf m n) := fun z => cc (Bool.and_eq_true_iff.mp (List.mem_filter.mp z).2).1
      rw [decide_eq_false hin]
      walk_at "go"
      have bnd : boundF t hs m n F c = (none, none) := by
        unfold boundF
        rw [if_neg cc]
      rw [bnd] at q
      exact ⟨(by show 2 ≤ sizeLine; decide), fun a ha => q a _ (e09.trans (Same.new ha _)) upd_same⟩
end
end K3
end L13_part
section L14_part
set_option Elab.async false
set_option linter.all false
set_option maxRecDepth 100000
set_option maxHeartbeats 1000000
set_option pp.deepTerms.threshold 5
open PySem PySem.Spec PyProof.Rows L2
/-- go on as far as nothing is open -/
local macro_rules | `(tactic| walk_at "go") => `(tactic| repeat (first
  | with_reducible refine w_seq ?_ | with_reducible refine w_next ?_ | with_reducible refine w_set ?_ | with_reducible refine w_drop ?_ | with_reducible refine w_ret ?_ | with_reducible refine w_retN ?_
  | with_reducible refine w_if ?_ | ((with_reducible refine' w_var ?hv ?_); (case hv => exact rfl)) | with_reducible refine w_c ?_ | with_reducible refine w_nil ?_ | with_reducible refine w_cons ?_ | with_reducible refine w_op ?_ | with_reducible refine w_un ?_
  | with_reducible refine w_test ?_ | with_reducible refine w_tB ?_ | with_reducible refine w_not ?_ | with_reducible refine w_and ?_ | with_reducible refine w_or ?_ | with_reducible refine w_bl ?_
  | with_reducible refine w_andV ?_ | with_reducible refine w_orV ?_ | with_reducible refine w_notV ?_ | with_reducible refine w_ifE ?_ | with_reducible refine w_chain ?_ | with_reducible refine w_i0 ?_
  | with_reducible refine w_call ?_ | with_reducible refine w_callS ?_ | with_reducible refine w_cB ?_ | with_reducible refine w_tup ?_ | with_reducible refine w_lst ?_ | with_reducible refine w_fldV ?_
  | with_reducible refine w_neF ?_ | with_reducible refine w_neT ?_ | with_reducible refine w_notN ?_ | with_reducible refine w_isN ?_ | with_reducible refine w_gname ?_ | with_reducible refine w_gsub ?_ | with_reducible refine w_asg ?_ | with_reducible refine w_sl ?_ | with_reducible refine w_noP ?_ | with_reducible refine w_int1 ?_ | with_reducible refine w_part ?_ | with_reducible refine w_yes ?_ | with_reducible refine w_nT ?_ | with_reducible refine w_nF ?_ | with_reducible refine w_iteT ?_ | with_reducible refine w_iteF ?_))
namespace K3
theorem HidIn.same {K : PySem.W.Frag} {H H' : Hp} {v : V} {hs : List (Nat × Nat)} {m n : Nat} (h : HidIn K H v hs m n) (e : Same H H') : HidIn K H' v hs m n := let ⟨p, ws, h1, h2, h3, h4⟩ := h; ⟨p, ws, h1, h2.imp (fun z => e.seq z) (fun z => e.sqt z), L2.Paired.mapP h3 fun _ _ z => z.same e, h4⟩
theorem fit_mem {t u : List (List Int)} {hs cs : List (Nat × Nat)} {m n : Nat} (h : ∀ k, k ∈ cs ↔ k ∈ hs) : Fit t cs u m n ↔ Fit t hs u m n := by
  unfold Fit
  simp only [h]
/-- what the sorted hidden cells are -/
structure Deal (t : List (List Int)) (hs cs : List (Nat × Nat)) (m n : Nat) (c : Nat × Nat) : Prop where
  mem : ∀ k, k ∈ cs ↔ k ∈ hs
  srt : Srt cs
  g : Grid t m n
  inn : ∀ k ∈ cs, k.1 < m ∧ k.2 < n
  len : cs.length ≤ 100
  hc : c ∈ cs
  c1 : c.1 < m
  c2 : c.2 < n
  last : (m - 1, n - 1) ∉ cs
theorem srt_nodup {cs : List (Nat × Nat)} (h : Srt cs) : cs.Nodup := by
  refine List.Pairwise.imp ?_ h
  intro a b hab z
  rw [z] at hab
  omega
theorem Deal.of {t : List (List Int)} {hs cs : List (Nat × Nat)} {m n : Nat} {c : Nat × Nat} (g : Grid t m n) (hmem : ∀ h ∈ hs, h ∈ (cellsOf m n).dropLast) (hlen : hs.length ≤ 60) (hc : c ∈ hs) (hcs : ∀ k, k ∈ cs ↔ k ∈ hs) (srt : Srt cs) : Deal t hs cs m n c := by
  have inn : ∀ k ∈ cs, k.1 < m ∧ k.2 < n := fun k hk => by
    have := drop_mem g.m1 g.n1 (hmem k ((hcs k).mp hk))
    exact ⟨this.1, this.2.1⟩
  have hc' := (hcs c).mpr hc
  refine ⟨hcs, srt, g, inn, ?_, hc', (inn c hc').1, (inn c hc').2, fun z => (drop_mem g.m1 g.n1 (hmem _ ((hcs _).mp z))).2.2 rfl⟩
  have := nodup_len (srt_nodup srt) (k := hs) fun x hx => (hcs x).mp hx
  omega
theorem srt_one : ∀ {a b : List (Nat × Nat)}, Srt a → Srt b → (∀ c, c ∈ a ↔ c ∈ b) → a = b
  | [], [], _, _, _ => rfl
  | [], y :: b, _, _, h => absurd ((h y).mpr (List.mem_cons_self ..)) (by simp)
  | x :: a, [], _, _, h => absurd ((h x).mp (List.mem_cons_self ..)) (by simp)
  | x :: a, y :: b, h1, h2, h => by
    obtain ⟨p1, p2⟩ := List.pairwise_cons.mp h1
    obtain ⟨q1, q2⟩ := List.pairwise_cons.mp h2
    have xy : x = y := by
      rcases List.mem_cons.mp ((h x).mp (List.mem_cons_self ..)) with z | z
      · exact z
      rcases List.mem_cons.mp ((h y).mpr (List.mem_cons_self ..)) with z2 | z2
      · exact z2.symm
      have := q1 x z
      have := p1 y z2
      omega
    subst xy
    rw [srt_one p2 q2 fun c => ?_]
    constructor
    · intro hc
      rcases List.mem_cons.mp ((h c).mp (List.mem_cons_of_mem _ hc)) with z | z
      · have := p1 c hc
        rw [z] at this
        omega
      · exact z
    · intro hc
      rcases List.mem_cons.mp ((h c).mpr (List.mem_cons_of_mem _ hc)) with z | z
      · have := q1 c hc
        rw [z] at this
        omega
      · exact z
theorem Deal.one {t t' : List (List Int)} {hs cs cs' : List (Nat × Nat)} {m n : Nat} {c : Nat × Nat} (d : Deal t hs cs m n c) (h : ∀ k, k ∈ cs' ↔ k ∈ hs) (s : Srt cs') : cs' = cs := srt_one s d.srt fun k => (h k).trans (d.mem k).symm
/-- the least and the greatest number that the tables that fit have at a cell -/
def ExtF (t : List (List Int)) (hs : List (Nat × Nat)) (m n : Nat) (c : Nat × Nat) (lo hi : Int) : Prop :=
  (∃ u, Fit t hs u m n ∧ at2 u c.1 c.2 = lo) ∧ (∀ u, Fit t hs u m n → lo ≤ at2 u c.1 c.2) ∧ (∃ u, Fit t hs u m n ∧ at2 u c.1 c.2 = hi) ∧ ∀ u, Fit t hs u m n → at2 u c.1 c.2 ≤ hi
theorem ext_one {t : List (List Int)} {hs : List (Nat × Nat)} {m n : Nat} {c : Nat × Nat} {lo hi lo' hi' : Int} (a : ExtF t hs m n c lo hi) (b : ExtF t hs m n c lo' hi') : lo = lo' ∧ hi = hi' := by
  obtain ⟨⟨u1, a1, a2⟩, a3, ⟨u2, a4, a5⟩, a6⟩ := a
  obtain ⟨⟨v1, b1, b2⟩, b3, ⟨v2, b4, b5⟩, b6⟩ := b
  have := a3 v1 b1
  have := b3 u1 a1
  have := a6 v2 b4
  have := b6 u2 a4
  omega
section
variable {t : List (List Int)} {hs cs : List (Nat × Nat)} {m n : Nat} {c : Nat × Nat}
theorem Deal.ext (d : Deal t hs cs m n c) : ExtF t hs m n c (at2 (leastF m n cs t c) c.1 c.2) (at2 (mostF m n cs t c) c.1 c.2) := by
  obtain ⟨lf, lo⟩ := least_ok d.g d.inn d.len d.hc
  obtain ⟨mf, mo⟩ := most_ok d.g d.inn d.len d.hc d.last
  exact ⟨⟨_, (fit_mem d.mem).mp lf, rfl⟩, fun u hu => lo u ((fit_mem d.mem).mpr hu), ⟨_, (fit_mem d.mem).mp mf, rfl⟩, fun u hu => mo u ((fit_mem d.mem).mpr hu)⟩
theorem Deal.first (d : Deal t hs cs m n c) : (boundF t hs m n (inF (rowsOf m (firstF m n cs t c)) (colsOf n (firstF m n cs t c))) c).1 = if 0 < at2 (leastF m n cs t c) c.1 c.2 then some (at2 (leastF m n cs t c) c.1 c.2) else none := by
  rw [bound_mem fun k => (d.mem k).symm, bound_congr (fun p hp => in_of hp) d.c1 d.c2]
  exact bound_first d.g d.inn d.len d.hc
theorem Deal.second (d : Deal t hs cs m n c) : (boundF t hs m n (inF (rowsOf m (secondF m n cs t c)) (colsOf n (secondF m n cs t c))) c).2 = some (at2 (mostF m n cs t c) c.1 c.2) := by
  rw [bound_mem fun k => (d.mem k).symm, bound_congr (fun p hp => in_of hp) d.c1 d.c2]
  exact bound_second d.g d.inn d.len d.hc d.last
theorem Deal.low0 (d : Deal t hs cs m n c) : 0 ≤ at2 (leastF m n cs t c) c.1 c.2 := (fit_grid d.g.m1 d.g.n1 (least_ok d.g d.inn d.len d.hc).1).nn _ d.c1 _ d.c2
end
def spLReached (K : PySem.W.Frag) : Sp := fun vs H Q _ => ∃ (g : Addr) (hv v : V) (rs : List Addr) (t : List (List Int)) (m n : Nat) (hs : List (Nat × Nat)) (c : Nat × Nat), vs = [.ref g, hv, v] ∧ GT K H g rs t ∧ Grid t m n ∧ m ≤ 30 ∧ n ≤ 30 ∧ HidIn K H hv hs m n ∧ CellAt H v c ∧ c ∈ hs ∧
  ∀ a H' lo hi, ExtF t hs m n c lo hi → Same H H' → H' a = some (.tup [.int lo, .int hi, .int lo, .int hi]) → Q (.ref a) H'
section
variable {P : Program} {w : World} {K : PySem.W.Frag} {mg : Str → Option Value} {base : Heap}
theorem sc_reached : FnScope ["_law_grid", "_law_hidden_here", "_law_place", "_law_low", "_law_high", "_law_least", "_law_most", "_law_first", "_law_second", "_law_at_most", "_law_at_least"] ["_law_grid", "_law_hidden_here", "_law_place"] (defScope s__law_reached) := ⟨rfl, rfl, rfl, by decide +kernel, rfl, by decide +kernel, by decide +kernel⟩
theorem ok_reached (T : Tx K mg) : Ok P w K mg base 9 (He.ga K "_law_reached") ["_law_grid", "_law_hidden_here", "_law_place"] (spLReached K) := by
  obtain ⟨fd, F⟩ := T.f__law_reached
  refine ⟨fd, F.ok (k := 8) sc_reached (fun vs H Q E h => ?_) (fun cdv A outer s_ H vs Q E hr h => ?_), F.bindsN fun _ _ _ _ _ _ us hl => match us, hl with | [_, _, _], _ => rfl, F.kp⟩
  · obtain ⟨g, hv, v, rs, t, m, n, hs, c, rfl, ht, gt, m30, n30, hid, hcv, hc, q⟩ := h
    rfl
  obtain ⟨g, hv, v, rs, t, m, n, hs, c, rfl, ht, gt, m30, n30, hid, hcv, hc, q⟩ := h
  have Oreach := ok_reach (P := P) (w := w) (base := base) T
  have rreach : Room 8 _ := hr.mono (by decide)
  have Ofences := ok_fences (P := P) (w := w) (base := base) T
  have rfences : Room 8 _ := hr.mono (by decide)
  have Obound := ok_bound (P := P) (w := w) (base := base) T
  have rbound : Room 5 _ := hr.mono (by decide)
  have hu65 := K3.Room.units65 hr
  have hu64 := Nat.lt_of_succ_lt hu65
  have hu0 := Nat.lt_of_le_of_lt (Nat.le_add_right _ 65) hu65
  have hu1 := Nat.lt_of_le_of_lt (Nat.add_le_add_left (show 1 ≤ 65 by decide) _) hu65
  refine ⟨_, pss_cons (ps_asg (pe_fK Oreach rreach T.g_reach (pa_cons (pv 0) (pa_cons (pv 1) pa_nil)) (pk_cons (pv 2) pk_nil)) (pg_tup (by rfl) (pgs_cons (pg_name (i := 3) sc_reached.nd rfl (Or.inl rfl)) (pgs_cons (pg_name (i := 4) sc_reached.nd rfl (Or.inl rfl)) (pgs_cons (pg_name (i := 5) sc_reached.nd rfl (Or.inl rfl)) (pgs_cons (pg_name (i := 6) sc_reached.nd rfl (Or.inl rfl)) pgs_nil))))))
      (pss_cons (ps_asg (pe_fK Ofences rfences T.g_fences (pa_cons (pv 0) (pa_cons (pv 1) pa_nil)) (pk_cons (pv 2) pk_nil)) (pg_tup (by rfl) (pgs_cons (pg_name (i := 7) sc_reached.nd rfl (Or.inl rfl)) (pgs_cons (pg_name (i := 8) sc_reached.nd rfl (Or.inl rfl)) pgs_nil))))
      (pss_cons (ps_set (i := 9) sc_reached.nd rfl (Or.inl rfl) (pe_ix ix_tup (pe_fK Obound rbound T.g_bound (pa_cons (pv 0) (pa_cons (pv 1) pa_nil)) (pk_cons (pv 2) (pk_cons (pv 8) pk_nil))) pe_int (fun _ _ => rfl)))
      (pss_cons (ps_set (i := 10) sc_reached.nd rfl (Or.inl rfl) (pe_ix ix_tup (pe_fK Obound rbound T.g_bound (pa_cons (pv 0) (pa_cons (pv 1) pa_nil)) (pk_cons (pv 2) (pk_cons (pv 7) pk_nil))) pe_int (fun _ _ => rfl)))
      (pss_one (ps_ret (pe_tup (pa_cons (pv 3) (pa_cons (pv 4) (pa_cons (pe_ix ix_list (pe_lst (pa_cons (pv 10) (pa_cons (pv 3) pa_nil))) (pe_callTy call_int1 (by rfl) T.z_int (by decide +kernel) (pa_cons (pe_cmpR op_eq (pv 3) pe_int rfl) pa_nil)) (fun _ _ => rfl)) (pa_cons (pv 9) pa_nil)))))))))), ?_⟩
  have hR := gt.rect
  have m1 := gt.m1
  have n1 := gt.n1
  obtain ⟨hp, hws, hpe, hsq, hcells, hmem, hlen⟩ := id hid
  obtain ⟨c1, c2, cl⟩ := drop_mem m1 n1 (hmem c hc)
  walk_at "go"
  refine w_callN ?_
  walk_at "go"
  refine ⟨rfl, rfl, ?_⟩
  refine ⟨g, hv, v, rs, t, m, n, hs, c, rfl, ht, hR, m1, n1, by omega, by omega, hid, hcv, hc, gt.nn c.1 c1 c.2 c2, gt.room c1 c2, fun cs b H1 np1 rs1 np2 rs2 hcs srt e1 hb0 hb _ _ _ _ _ _ _ _ _ _ _ => ?_⟩
  have d := Deal.of gt hmem hlen hc hcs srt
  refine w_gtup (SqT.of hb) rfl (w_g4 ?_)
  dsimp only
  walk_at "go"
  refine w_callN ?_
  walk_at "go"
  refine ⟨rfl, rfl, ?_⟩
  refine ⟨g, hv, v, rs, t, m, n, hs, c, rfl, ht.same e1, hR, m1, n1, by omega, by omega, hid.same e1, hcv.same e1, hc, gt.nn c.1 c1 c.2 c2, gt.room c1 c2, fun cs' a2 v1 v2 H2 hcs' srt' e2 ha2 f1 f2 => ?_⟩
  have := d.one (t' := t) hcs' srt'
  subst this
  refine w_gtup (SqT.of ha2) rfl (w_gnn ?_)
  dsimp only
  have e12 := e1.trans e2
  walk_at "go"
  refine w_callN ?_
  walk_at "go"
  refine ⟨rfl, rfl, ?_⟩
  refine ⟨g, hv, v, v2, rs, t, m, n, hs, c, _, _, rfl, ht.same e12, hR, m1, n1, by omega, by omega, hid.same e12, hcv.same e12, hc, f2.at, fun a3 H3 e3 ha3 => ?_⟩
  rw [d.second] at ha3
  refine w_ixT (SqT.of ha3) rfl ?_
  have e13 := e12.trans e3
  walk_at "go"
  refine w_callN ?_
  walk_at "go"
  refine ⟨rfl, rfl, ?_⟩
  refine ⟨g, hv, v, v1, rs, t, m, n, hs, c, _, _, rfl, ht.same e13, hR, m1, n1, by omega, by omega, hid.same e13, hcv.same e13, hc, (f1.same e3).at, fun a4 H4 e4 ha4 => ?_⟩
  rw [d.first] at ha4
  refine w_ixT (SqT.of ha4) rfl ?_
  have e14 := e13.trans e4
  have ex := d.ext
  have l0 := d.low0
  generalize at2 (leastF m n cs' t c) c.1 c.2 = lo at ex l0 ⊢
  generalize at2 (mostF m n cs' t c) c.1 c.2 = hi at ex ⊢
  walk_at "go"
  refine ⟨(by show 2 ≤ sizeLine; decide), fun p5 hp5 => ?_⟩
  walk_at "go"
  refine w_eqI ?_
  rw [decV]
  walk_at "go"
  refine .inr ⟨_, rfl, ?_⟩
  by_cases z : lo = 0
  · rw [decide_eq_true z]
    refine w_ixL upd_same rfl ?_
    have e5 := Same.new hp5 (.lst [optV (if 0 < lo then some lo else none), .int lo])
    walk_at "go"
    refine ⟨(by show 4 ≤ sizeLine; decide), fun p6 hp6 => ?_⟩
    exact q p6 _ lo hi ex (e14.trans (e5.trans (Same.new hp6 _))) upd_same
  · rw [decide_eq_false z, if_pos (show 0 < lo by omega)]
    refine w_ixL upd_same rfl ?_
    have e5 := Same.new hp5 (.lst [optV (some lo), .int lo])
    walk_at "go"
    refine ⟨(by show 4 ≤ sizeLine; decide), fun p6 hp6 => ?_⟩
    exact q p6 _ lo hi ex (e14.trans (e5.trans (Same.new hp6 _))) upd_same
end
end K3
end L14_part
section L15_part
set_option Elab.async false
set_option linter.all false
set_option maxRecDepth 100000
set_option maxHeartbeats 1000000
set_option pp.deepTerms.threshold 5
open PySem PySem.Spec PyProof.Rows L2
/-- go on as far as nothing is open -/
local macro_rules | `(tactic| walk_at "go") => `(tactic| repeat (first
  | with_reducible refine w_seq ?_ | with_reducible refine w_next ?_ | with_reducible refine w_set ?_ | with_reducible refine w_drop ?_ | with_reducible refine w_ret ?_ | with_reducible refine w_retN ?_
  | with_reducible refine w_if ?_ | ((with_reducible refine' w_var ?hv ?_); (case hv => exact rfl)) | with_reducible refine w_c ?_ | with_reducible refine w_nil ?_ | with_reducible refine w_cons ?_ | with_reducible refine w_op ?_ | with_reducible refine w_un ?_
  | with_reducible refine w_test ?_ | with_reducible refine w_tB ?_ | with_reducible refine w_not ?_ | with_reducible refine w_and ?_ | with_reducible refine w_or ?_ | with_reducible refine w_bl ?_
  | with_reducible refine w_andV ?_ | with_reducible refine w_orV ?_ | with_reducible refine w_notV ?_ | with_reducible refine w_ifE ?_ | with_reducible refine w_chain ?_ | with_reducible refine w_i0 ?_
  | with_reducible refine w_call ?_ | with_reducible refine w_callS ?_ | with_reducible refine w_cB ?_ | with_reducible refine w_tup ?_ | with_reducible refine w_lst ?_ | with_reducible refine w_fldV ?_
  | with_reducible refine w_neF ?_ | with_reducible refine w_neT ?_ | with_reducible refine w_notN ?_ | with_reducible refine w_isN ?_ | with_reducible refine w_gname ?_ | with_reducible refine w_gsub ?_ | with_reducible refine w_asg ?_ | with_reducible refine w_sl ?_ | with_reducible refine w_noP ?_ | with_reducible refine w_int1 ?_ | with_reducible refine w_part ?_ | with_reducible refine w_yes ?_ | with_reducible refine w_nT ?_ | with_reducible refine w_nF ?_ | with_reducible refine w_iteT ?_ | with_reducible refine w_iteF ?_))
namespace K3
theorem grid_fit {t : List (List Int)} {m n : Nat} (g : Grid t m n) (hs : List (Nat × Nat)) : Fit t hs t m n := ⟨g.rect, (nn_iff g.rect).mpr g.nn, (right_net g.rect g.m1 g.n1).mpr g.bal, fun _ _ _ _ _ => rfl⟩
/-! ### a grid of tuples -/
def RowL (H : Hp) (v : V) (r : List Int) : Prop := ∃ a, v = .ref a ∧ H a = some (.lst (r.map V.int))
def RowU (H : Hp) (v : V) (r : List Int) : Prop := ∃ a, v = .ref a ∧ H a = some (.tup (r.map V.int))
theorem RowL.same {H H' : Hp} (e : Same H H') {v : V} {r : List Int} (h : RowL H v r) : RowL H' v r := let ⟨a, h1, h2⟩ := h; ⟨a, h1, e _ _ h2⟩
theorem RowU.tk {H H' : Hp} (e : Tk H H') {v : V} {r : List Int} (h : RowU H v r) : RowU H' v r := let ⟨a, h1, h2⟩ := h; ⟨a, h1, e _ _ h2⟩
theorem rowL_of {H : Hp} : ∀ {rs : List Addr} {t : List (List Int)}, Paired (RowAt H) rs t → Paired (RowL H) (rs.map V.ref) t
  | _, _, .nil => .nil
  | _, _, .cons h t => .cons ⟨_, rfl, h⟩ (rowL_of t)
structure FirmT (H : Hp) (f : Addr) (zs : List V) (t : List (List Int)) : Prop where
  at_ : H f = some (.tup zs)
  rows : Paired (RowU H) zs t
theorem FirmT.tk {H H' : Hp} (e : Tk H H') {f : Addr} {zs : List V} {t : List (List Int)} (h : FirmT H f zs t) : FirmT H' f zs t := ⟨e _ _ h.at_, L2.Paired.mapP h.rows fun _ _ z => z.tk e⟩
theorem firm_rows {K : PySem.W.Frag} {H : Hp} : ∀ {zs : List V} {t : List (List Int)}, Paired (RowU H) zs t → ∃ rs : List Addr, zs = rs.map V.ref ∧ Paired (fun r row => SqE K H r (row.map V.int)) rs t
  | _, _, .nil => ⟨[], rfl, .nil⟩
  | _, _, .cons ⟨a, e, h⟩ t => by
    obtain ⟨rs, h1, h2⟩ := firm_rows (K := K) t
    exact ⟨a :: rs, by rw [e, h1]; rfl, .cons (.tup h) h2⟩
theorem FirmT.gt {K : PySem.W.Frag} {H : Hp} {f : Addr} {zs : List V} {t : List (List Int)} (h : FirmT H f zs t) : ∃ rs, GT K H f rs t := by
  obtain ⟨rs, h1, h2⟩ := firm_rows (K := K) h.rows
  exact ⟨rs, .tup (by rw [← h1]; exact h.at_), h2⟩
/-! ### what stands while digits are drawn -/
theorem tk_bm {s : Addr} {H H' : Hp} (hs : Sd H s) (e : BM [s] H H') : Tk H H' := fun a xs h => e.at h fun z => by
  have := List.mem_singleton.mp z
  subst this
  obtain ⟨x, y, w, q, _⟩ := hs
  rw [h] at q
  cases q
theorem sqt_bm {K : PySem.W.Frag} {s a : Addr} {xs : List V} {H H' : Hp} (hs : Sd H s) (e : BM [s] H H') (h : SqT K H a xs) : SqT K H' a xs := by
  rcases h with (h | ⟨o, h⟩) | h
  · exact .inl (.inl (tk_bm hs e _ _ h))
  · refine .inl (.inr ⟨o, e.at h fun z => ?_⟩)
    have := List.mem_singleton.mp z
    subst this
    obtain ⟨x, y, w, q, _⟩ := hs
    rw [h] at q
    cases q
  · exact .inr h
theorem FenceT.bm {K : PySem.W.Frag} {s : Addr} {H H' : Hp} (hs : Sd H s) (e : BM [s] H H') {v : V} {R C : List Int} (h : FenceT K H v R C) : FenceT K H' v R C := let ⟨p, a, b, h1, h2, h3, h4⟩ := h; ⟨p, a, b, h1, sqt_bm hs e h2, sqt_bm hs e h3, sqt_bm hs e h4⟩
/-! ### bounds and fences as data -/
def optD : Option Int → PyData
  | none => .none
  | some x => .int x
theorem opt_dp {K : PySem.W.Frag} {H : Hp} : ∀ x : Option Int, Dp K H (optV x) (optD x)
  | none => .non
  | some _ => .int _
def bndD (x : Option Int × Option Int) : PyData := .tuple [optD x.1, optD x.2]
theorem bnd_ok (x : Option Int × Option Int) : SeqAt.shaped (bndD x) = true ∧ PyData.eqv (bndD x) (bndD x) = true := by
  obtain ⟨a, b⟩ := x
  cases a <;> cases b <;> simp [bndD, optD, SeqAt.shaped, PyData.canLay0, PyData.canLayAll0, PyData.depth, PyData.depthAll, PyData.eqv, PyData.eqvAll]
theorem bnd_dp {K : PySem.W.Frag} {H : Hp} {a : Addr} {x : Option Int × Option Int} (h : H a = some (.tup [optV x.1, optV x.2])) : Dp K H (.ref a) (bndD x) := Dp.tup (SqT.of h) (.cons (opt_dp _) (.cons (opt_dp _) .nil))
def fenD (R C : List Int) : PyData := .tuple [.tuple (R.map PyData.int), .tuple (C.map PyData.int)]
theorem fen_dp {K : PySem.W.Frag} {H : Hp} {v : V} {R C : List Int} (h : FenceT K H v R C) : Dp K H v (fenD R C) := by
  obtain ⟨p, a, b, rfl, h1, h2, h3⟩ := h
  exact Dp.tup h1 (.cons (Dp.tup h2 ints_dp) (.cons (Dp.tup h3 ints_dp) .nil))
theorem lay_intsD : ∀ R : List Int, PyData.canLayAll0 (R.map PyData.int) = true ∧ PyData.depthAll (R.map PyData.int) ≤ 3
  | [] => by simp [PyData.canLayAll0, PyData.depthAll]
  | x :: R => by
    obtain ⟨a, b⟩ := lay_intsD R
    simp only [List.map_cons, PyData.canLayAll0, PyData.depthAll, PyData.canLay0, PyData.depth]
    exact ⟨by rw [a]; rfl, by omega⟩
theorem two_fen (R C R' C' : List Int) : SeqAt.shaped (.tuple [fenD R C, fenD R' C']) = true ∧ PyData.eqv (.tuple [fenD R C, fenD R' C']) (.tuple [fenD R C, fenD R' C']) = true := by
  obtain ⟨a1, b1⟩ := lay_intsD R
  obtain ⟨a2, b2⟩ := lay_intsD C
  obtain ⟨a3, b3⟩ := lay_intsD R'
  obtain ⟨a4, b4⟩ := lay_intsD C'
  have l : (PyData.tuple [fenD R C, fenD R' C']).canLay0 = true := by
    unfold fenD
    simp only [PyData.canLay0, PyData.canLayAll0, a1, a2, a3, a4]
    rfl
  refine ⟨?_, SeqAt.eqv_refl _ l⟩
  unfold SeqAt.shaped
  rw [l, decide_eq_true (by unfold fenD; simp only [PyData.depth, PyData.depthAll]; omega : (PyData.tuple [fenD R C, fenD R' C']).depth ≤ 64)]
  rfl
theorem ints_ok (l : List Int) (h : l.length ≤ 10) : SeqAt.shaped (.tuple (l.map PyData.int)) = true ∧ PyData.eqv (.tuple (l.map PyData.int)) (.tuple (l.map PyData.int)) = true := by
  obtain ⟨a, b⟩ := lay_intsD l
  have c : (PyData.tuple (l.map PyData.int)).canLay0 = true := by simpa only [PyData.canLay0] using a
  refine ⟨?_, SeqAt.eqv_refl _ c⟩
  unfold SeqAt.shaped
  rw [c, decide_eq_true (by simp only [PyData.depth]; omega : (PyData.tuple (l.map PyData.int)).depth ≤ 64)]
  rfl
theorem rows_len (m : Nat) (F : Pl → Bool) : (rowsOf m F).length ≤ m := by
  unfold rowsOf
  rw [List.length_map]
  exact Nat.le_trans (List.length_filter_le _ _) (by rw [List.length_range]; exact Nat.le_refl m)
theorem cols_len (m : Nat) (F : Pl → Bool) : (colsOf m F).length ≤ m := by
  unfold colsOf
  rw [List.length_map]
  exact Nat.le_trans (List.length_filter_le _ _) (by rw [List.length_range]; exact Nat.le_refl m)
theorem bound_le {t : List (List Int)} {hs cs : List (Nat × Nat)} {m n : Nat} {c : Nat × Nat} {lo hi : Int} (d : Deal t hs cs m n c) (ex : ExtF t hs m n c lo hi) (F : Pl → Bool) : (∀ x, (boundF t hs m n F c).1 = some x → x ≤ lo) ∧ ∀ x, (boundF t hs m n F c).2 = some x → hi ≤ x := by
  obtain ⟨⟨u, a, b⟩, _, ⟨v, a', b'⟩, _⟩ := ex
  rw [bound_mem fun k => (d.mem k).symm]
  refine ⟨fun x hx => ?_, fun x hx => ?_⟩
  · have := bound_low d.g d.inn d.hc hx ((fit_mem d.mem).mpr a)
    omega
  · have := bound_high d.g d.inn d.hc hx ((fit_mem d.mem).mpr a')
    omega
end K3
end L15_part
section L16_part
set_option Elab.async false
set_option linter.all false
set_option maxRecDepth 100000
set_option maxHeartbeats 1000000
set_option pp.deepTerms.threshold 5
open PySem PySem.Spec PyProof.Rows L2
/-- go on as far as nothing is open -/
local macro_rules | `(tactic| walk_at "go") => `(tactic| repeat (first
  | with_reducible refine w_seq ?_ | with_reducible refine w_next ?_ | with_reducible refine w_set ?_ | with_reducible refine w_drop ?_ | with_reducible refine w_ret ?_ | with_reducible refine w_retN ?_
  | with_reducible refine w_if ?_ | ((with_reducible refine' w_var ?hv ?_); (case hv => exact rfl)) | with_reducible refine w_c ?_ | with_reducible refine w_nil ?_ | with_reducible refine w_cons ?_ | with_reducible refine w_op ?_ | with_reducible refine w_un ?_
  | with_reducible refine w_test ?_ | with_reducible refine w_tB ?_ | with_reducible refine w_not ?_ | with_reducible refine w_and ?_ | with_reducible refine w_or ?_ | with_reducible refine w_bl ?_
  | with_reducible refine w_andV ?_ | with_reducible refine w_orV ?_ | with_reducible refine w_notV ?_ | with_reducible refine w_ifE ?_ | with_reducible refine w_chain ?_ | with_reducible refine w_i0 ?_
  | with_reducible refine w_call ?_ | with_reducible refine w_callS ?_ | with_reducible refine w_cB ?_ | with_reducible refine w_tup ?_ | with_reducible refine w_lst ?_ | with_reducible refine w_fldV ?_
  | with_reducible refine w_neF ?_ | with_reducible refine w_neT ?_ | with_reducible refine w_notN ?_ | with_reducible refine w_isN ?_ | with_reducible refine w_gname ?_ | with_reducible refine w_gsub ?_ | with_reducible refine w_asg ?_ | with_reducible refine w_sl ?_ | with_reducible refine w_noP ?_ | with_reducible refine w_int1 ?_ | with_reducible refine w_part ?_ | with_reducible refine w_yes ?_ | with_reducible refine w_nT ?_ | with_reducible refine w_nF ?_ | with_reducible refine w_iteT ?_ | with_reducible refine w_iteF ?_))
namespace K3
def spLRight (K : PySem.W.Frag) : Sp := fun vs H Q _ => ∃ (s g h : Addr) (v : V) (rs : List Addr) (t : List (List Int)) (m n : Nat) (ws : List V) (hs : List (Nat × Nat)) (c : Nat × Nat), vs = [.ref s, .ref g, .ref h, v] ∧ Sd H s ∧ (g ≠ s ∧ ∀ r ∈ rs, r ≠ s) ∧ h ≠ s ∧ Tab H g rs t ∧ Grid t m n ∧ m ≤ 7 ∧ n ≤ 7 ∧
  H h = some (.lst ws) ∧ Paired (CellAt H) ws hs ∧ (∀ k ∈ hs, k ∈ (cellsOf m n).dropLast) ∧ hs.length ≤ 60 ∧ CellAt H v c ∧ c ∈ hs ∧ ∀ H', BM [s] H H' → Sd H' s → Q (.bl true) H'
section
variable {P : Program} {w : World} {K : PySem.W.Frag} {mg : Str → Option Value} {base : Heap}
set_option maxHeartbeats 0
theorem sc_right : FnScope ["_law_s", "_law_grid", "_law_hidden_here", "_law_place", "_law_low", "_law_high", "_law_least", "_law_most", "_law_row", "_law_column", "_law_firm", "_law_first", "_law_second", "_law_at_least", "_law_hedge", "_law_due", "_law_one"] ["_law_s", "_law_grid", "_law_hidden_here", "_law_place"] (defScope s__law_right) := ⟨rfl, rfl, rfl, by decide +kernel, rfl, by decide +kernel, by decide +kernel⟩
theorem ok_right (T : Tx K mg) : Ok P w K mg base 10 (He.ga K "_law_right") ["_law_s", "_law_grid", "_law_hidden_here", "_law_place"] (spLRight K) := by
  obtain ⟨fd, F⟩ := T.f__law_right
  have O_law_reached := ok_reached (P := P) (w := w) (base := base) T
  have O_law_fence := ok_fence (P := P) (w := w) (base := base) T
  have O_law_bound := ok_law_bound (P := P) (w := w) (base := base) T
  have Ofits := ok_fits (P := P) (w := w) (base := base) T
  refine ⟨fd, F.ok (k := 9) sc_right (fun vs H Q E h => ?_) (fun cdv A outer s_ H vs Q E hr h => ?_), F.bindsN fun _ _ _ _ _ _ us hl => match us, hl with | [_, _, _, _], _ => rfl, F.kp⟩
  · obtain ⟨s, g, h, v, rs, t, m, n, ws, hs, c, rfl, hs0, gs, hns, ht, gt, m7, n7, hh, hw, hmem, hlen, hcv, hc, ok⟩ := h
    rfl
  obtain ⟨s, g, h, v, rs, t, m, n, ws, hs, c, rfl, hs0, gs, hns, ht, gt, m7, n7, hh, hw, hmem, hlen, hcv, hc, ok⟩ := h
  have Oreach := ok_reach (P := P) (w := w) (base := base) T
  have rreach : Room 8 _ := hr.mono (by decide)
  have Ofences := ok_fences (P := P) (w := w) (base := base) T
  have rfences : Room 8 _ := hr.mono (by decide)
  have Obound := ok_bound (P := P) (w := w) (base := base) T
  have rbound : Room 5 _ := hr.mono (by decide)
  have hu65 := K3.Room.units65 hr
  have hu64 := Nat.lt_of_succ_lt hu65
  have hu0 := Nat.lt_of_le_of_lt (Nat.le_add_right _ 65) hu65
  have hu1 := Nat.lt_of_le_of_lt (Nat.add_le_add_left (show 1 ≤ 65 by decide) _) hu65
  have r_law_reached : Room 9 _ := hr.mono (by decide)
  have r_law_fence : Room 2 _ := hr.mono (by decide)
  have r_law_bound : Room 2 _ := hr.mono (by decide)
  have rfits : Room 3 _ := hr.mono (by decide)
  refine ⟨_, pss_cons (ps_asg (pe_fK Oreach rreach T.g_reach (pa_cons (pv 1) (pa_cons (pv 2) pa_nil)) (pk_cons (pv 3) pk_nil)) (pg_tup (by rfl) (pgs_cons (pg_name (i := 4) sc_right.nd rfl (Or.inl rfl)) (pgs_cons (pg_name (i := 5) sc_right.nd rfl (Or.inl rfl)) (pgs_cons (pg_name (i := 6) sc_right.nd rfl (Or.inl rfl)) (pgs_cons (pg_name (i := 7) sc_right.nd rfl (Or.inl rfl)) pgs_nil))))))
      (pss_cons (ps_asg (pv 3) (pg_tup (by rfl) (pgs_cons (pg_name (i := 8) sc_right.nd rfl (Or.inl rfl)) (pgs_cons (pg_name (i := 9) sc_right.nd rfl (Or.inl rfl)) pgs_nil))))
      (pss_cons (ps_if (pw_or (pt_not (pt_val (pe_f Ofits rfits T.g_fits (pa_cons (pv 1) (pa_cons (pv 2) (pa_cons (pv 6) pa_nil)))))) (pw_or1 (pt_not (pt_val (pe_f Ofits rfits T.g_fits (pa_cons (pv 1) (pa_cons (pv 2) (pa_cons (pv 7) pa_nil)))))))).pt (pss_one (ps_ret pe_bl)) pss_nil)
      (pss_cons (ps_set (i := 10) sc_right.nd rfl (Or.inl rfl) (pe_callTy call_tuple_of (by rfl) T.z_tuple (by decide +kernel) (pa_cons (by exact pe_lc (own := [("_law_one", 16)]) (g := gName 16) (tt := tYes) (te := (tCB (fun xs H Q => ∃ p ys, xs = [V.ref p] ∧ ((SqL K H p ys ∧ ∀ l, H l = none → Q (.ref l) (upd H l (.tup ys))) ∨ (SqT K H p ys ∧ Q (.ref p) H))) (tCons (tVar 16) tNil))) (by rfl) sc_right.nd (pi_list (pv 1)) (blkOk_by (own := [("_law_one", 16)]) (N := ["_law_s", "_law_grid", "_law_hidden_here", "_law_place", "_law_low", "_law_high", "_law_least", "_law_most", "_law_row", "_law_column", "_law_firm", "_law_first", "_law_second", "_law_at_least", "_law_hedge", "_law_due", "_law_one"]) (sc := defScope s__law_right) (by decide +kernel)) (fun _ _ _ _ _ => (pg_name (i := 16) sc_right.nd rfl (Or.inl rfl))) (fun _ _ _ _ _ => pts_nil) (fun _ _ _ _ _ => (pe_callTy call_tuple_of (by rfl) T.z_tuple (by decide +kernel) (pa_cons (pv 16) pa_nil)))) pa_nil)))
      (pss_cons (ps_if (pw_or (pt_cmpR (op_neD hu64) (pe_slice sl_tup (pe_fK Oreach rreach T.g_reach (pa_cons (pv 10) (pa_cons (pe_callTy call_tuple_of (by rfl) T.z_tuple (by decide +kernel) (pa_cons (pv 2) pa_nil)) pa_nil)) (pk_cons (pv 3) pk_nil)) po_none (po_some pe_int)) (pe_tup (pa_cons (pv 4) (pa_cons (pv 5) pa_nil))) (nomark _)) (pw_or1 (pt_not (pt_val (pe_f Ofits rfits T.g_fits (pa_cons (pv 10) (pa_cons (pe_callTy call_tuple_of (by rfl) T.z_tuple (by decide +kernel) (pa_cons (pv 2) pa_nil)) (pa_cons (pv 10) pa_nil)))))))).pt (pss_one (ps_ret pe_bl)) pss_nil)
      (pss_cons (ps_if (pw_or (pt_cmpR (op_neD hu64) (pe_tup (pa_cons (pe_ix ix_list (pe_ix ix_list (pv 6) (pv 8) (fun _ _ => rfl)) (pv 9) (fun _ _ => rfl)) (pa_cons (pe_ix ix_list (pe_ix ix_list (pv 7) (pv 8) (fun _ _ => rfl)) (pv 9) (fun _ _ => rfl)) pa_nil))) (pe_tup (pa_cons (pv 4) (pa_cons (pv 5) pa_nil))) (nomark _)) (pw_or1 (pt_not (pt_chain op_le op_le (pv 4) (pe_ix ix_list (pe_ix ix_list (pv 1) (pv 8) (fun _ _ => rfl)) (pv 9) (fun _ _ => rfl)) (pv 5))))).pt (pss_one (ps_ret pe_bl)) pss_nil)
      (pss_cons (ps_asg (pe_fK Ofences rfences T.g_fences (pa_cons (pv 1) (pa_cons (pv 2) pa_nil)) (pk_cons (pv 3) pk_nil)) (pg_tup (by rfl) (pgs_cons (pg_name (i := 11) sc_right.nd rfl (Or.inl rfl)) (pgs_cons (pg_name (i := 12) sc_right.nd rfl (Or.inl rfl)) pgs_nil))))
      (pss_cons (ps_set (i := 13) sc_right.nd rfl (Or.inl rfl) (pe_ix ix_tup (pe_f O_law_bound r_law_bound T.g__law_bound (pa_cons (pv 1) (pa_cons (pv 2) (pa_cons (pv 3) (pa_cons (pv 11) pa_nil))))) pe_int (fun _ _ => rfl)))
      (Evl.pss_cut (ps_if (pw_or (pw_and (pt_cmpR op_ne (pv 4) pe_int (nomark _)) (pw_and1 (pt_cmpR op_ne (pv 13) (pv 4) (nomark _)))).pt (pw_or1 (pt_cmpR op_ne (pe_ix ix_tup (pe_f O_law_bound r_law_bound T.g__law_bound (pa_cons (pv 1) (pa_cons (pv 2) (pa_cons (pv 3) (pa_cons (pv 12) pa_nil))))) pe_int (fun _ _ => rfl)) (pv 5) (nomark _)))).pt (pss_one (ps_ret pe_bl)) pss_nil)
      (Evl.pss_cut (ps_if (pw_and (pt_cmpR op_eq (pv 4) pe_int (nomark _)) (pw_and1 (pt_cmpR op_notIn_seq (pv 13) (pe_tup (pa_cons pe_non (pa_cons pe_int pa_nil))) (by rfl)))).pt (pss_one (ps_ret pe_bl)) pss_nil)
      (pss_cons (ps_for (passes_of rfl) (by rfl) (pi_list (pe_lst (pa_cons (pv 11) (pa_cons (pv 12) (pa_cons (pe_f O_law_fence r_law_fence T.g__law_fence (pa_cons (pv 0) (pa_cons (pv 1) pa_nil))) (pa_cons (pe_f O_law_fence r_law_fence T.g__law_fence (pa_cons (pv 0) (pa_cons (pv 1) pa_nil))) (pa_cons (pe_tup (pa_cons (pe_tup pa_nil) (pa_cons (pe_tup pa_nil) pa_nil))) pa_nil))))))) (pg_name (i := 14) sc_right.nd rfl (Or.inl rfl)) (pss_cons (ps_set (i := 15) sc_right.nd rfl (Or.inl rfl) (pe_f O_law_bound r_law_bound T.g__law_bound (pa_cons (pv 1) (pa_cons (pv 2) (pa_cons (pv 3) (pa_cons (pv 14) pa_nil))))))
      (pss_cons (ps_if (pt_cmpR (op_neD hu64) (pe_fK Obound rbound T.g_bound (pa_cons (pv 1) (pa_cons (pv 2) pa_nil)) (pk_cons (pv 3) (pk_cons (pv 14) pk_nil))) (pv 15) (nomark _)) (pss_one (ps_ret pe_bl)) pss_nil)
      (pss_one (ps_if (pw_or (pw_and (pt_cmp (pc_notN (pe_ix ix_tup (pv 15) pe_int (fun _ _ => rfl)))) (pw_and1 (pt_cmpR op_gt (pe_ix ix_tup (pv 15) pe_int (fun _ _ => rfl)) (pv 4) (nomark _)))).pt (pw_or1 (pw_and (pt_cmp (pc_notN (pe_ix ix_tup (pv 15) pe_int (fun _ _ => rfl)))) (pw_and1 (pt_cmpR op_lt (pe_ix ix_tup (pv 15) pe_int (fun _ _ => rfl)) (pv 5) (nomark _)))).pt)).pt (pss_one (ps_ret pe_bl)) pss_nil)))))
      (pss_cons (ps_if (pt_cmpR (op_neD hu64) (pe_f O_law_reached r_law_reached T.g__law_reached (pa_cons (pv 10) (pa_cons (pe_callTy call_tuple_of (by rfl) T.z_tuple (by decide +kernel) (pa_cons (pv 2) pa_nil)) (pa_cons (pv 3) pa_nil)))) (pe_f O_law_reached r_law_reached T.g__law_reached (pa_cons (pv 1) (pa_cons (pv 2) (pa_cons (pv 3) pa_nil)))) (nomark _)) (pss_one (ps_ret pe_bl)) pss_nil)
      (pss_one (ps_ret (pe_cmpR (op_eqD hu64) (pe_fK Ofences rfences T.g_fences (pa_cons (pv 1) (pa_cons (pv 2) pa_nil)) (pk_cons (pv 3) pk_nil)) (pe_tup (pa_cons (pv 11) (pa_cons (pv 12) pa_nil))) rfl)))))))))))))), ?_⟩
  have hR := gt.rect
  have m1 := gt.m1
  have n1 := gt.n1
  have m60 : m ≤ 60 := by omega
  have n60 : n ≤ 60 := by omega
  have m30 : m ≤ 30 := by omega
  have n30 : n ≤ 30 := by omega
  have m100 : m ≤ 100 := by omega
  have n100 : n ≤ 100 := by omega
  have hid : HidIn K H (.ref h) hs m n := ⟨h, ws, rfl, .inl (SqL.of hh), hw, hmem, hlen⟩
  obtain ⟨c1, c2, cl⟩ := drop_mem m1 n1 (hmem c hc)
  have self : Fit t hs t m n := grid_fit gt hs
  have lr := ht.rows.length
  have lt := hR.1
  have htG : GT K H g rs t := ht.gt
  have g0 := gt.nn c.1 c1 c.2 c2
  have gr := gt.room c1 c2
  obtain ⟨va, rfl, hva⟩ := id hcv
  walk_at "go"
  refine w_callN ?_
  walk_at "go"
  refine ⟨rfl, rfl, ?_⟩
  refine ⟨g, .ref h, .ref va, rs, t, m, n, hs, c, rfl, htG, hR, m1, n1, (by first | exact m60 | exact m30), (by first | exact n60 | exact n30), hid, hcv, hc, g0, gr, fun cs b H1 np1 rs1 np2 rs2 hcs srt e1 hb0 hb tab1 R1 tab2 R2 _ _ _ _ _ _ _ => ?_⟩
  have d := Deal.of gt hmem hlen hc hcs srt
  have ex := d.ext
  have l0 := d.low0
  have dF := d.first
  have dS := d.second
  have lf := (fit_mem d.mem).mp (least_ok d.g d.inn d.len d.hc).1
  have mf := (fit_mem d.mem).mp (most_ok d.g d.inn d.len d.hc d.last).1
  have fE : firstF m n cs t c = firstF m n cs t c := rfl
  generalize hL : leastF m n cs t c = L at hb tab1 R1 ex l0 dF lf
  generalize hM : mostF m n cs t c = M at hb tab2 R2 ex dS mf
  refine w_gtup (SqT.of hb) rfl (w_g4 ?_)
  dsimp only
  walk_at "go"
  refine w_gtup (SqT.of (e1 _ _ hva)) rfl (w_gnn ?_)
  dsimp only
  walk_at "go"
  refine ⟨g, np1, .ref h, rs, rs1, t, L, m, n, m, n, hs, rfl, htG.same e1, hR, m1, n1, (by first | exact m60 | exact m30), (by first | exact n60 | exact n30), hid.same e1, tab1.gt, R1, m1, n1, (by first | exact m60 | exact m30), (by first | exact n60 | exact n30), fun b2 H2 e2 hb2 => ?_⟩
  rw [hb2.mpr lf]
  have e12 := e1.trans e2
  walk_at "go"
  refine ⟨g, np2, .ref h, rs, rs2, t, M, m, n, m, n, hs, rfl, htG.same e12, hR, m1, n1, (by first | exact m60 | exact m30), (by first | exact n60 | exact n30), hid.same e12, (tab2.same e2).gt, R2, m1, n1, (by first | exact m60 | exact m30), (by first | exact n60 | exact n30), fun b3 H3 e3 hb3 => ?_⟩
  rw [hb3.mpr mf]
  have e13 := e12.trans e3
  have e23 := e2.trans e3
  walk_at "go"
  refine lcAt_open (list_open ?_)
  walk_at "go"
  refine ⟨g, rfl, ⟨_, SqL.of (e13 _ _ ht.at_)⟩, fun D hD => ?_⟩
  refine items_gen (F := RowL) (G := RowU) (fun e h => RowL.same e h) (fun e h => RowU.tk e h) (fun _ => true) (fun r => r) (SqL.of (e13 _ _ ht.at_)) (rowL_of (ht.same e13).rows) hD (by rw [List.length_map]; omega) ?_ ?_
  · rintro v' r H4 e4 hr ⟨a, rfl, ha⟩ R' _ r2
    walk_at "go"
    refine ⟨rfl, ?_⟩
    walk_at "go"
    refine ⟨a, _, rfl, .inl ⟨SqL.of ha, fun t1 ht1 => ?_⟩⟩
    exact r2 _ _ (Same.new ht1 _) rfl ⟨t1, rfl, upd_same⟩
  intro H4 zs e4 hD4 hz
  rw [List.filter_eq_self.mpr fun _ _ => rfl, List.map_id'] at hz
  walk_at "go"
  refine ⟨D, _, rfl, .inl ⟨SqL.of hD4, fun f hf => ?_⟩⟩
  have e5 := Same.new hf (.tup zs)
  have F5 : FirmT (upd H4 f (.tup zs)) f zs t := ⟨upd_same, L2.Paired.mapP hz fun _ _ z => z.tk (Tk.of e5)⟩
  generalize upd H4 f (.tup zs) = H5 at e5 F5 ⊢
  have e35 := e4.trans e5
  have e15 := e23.trans e35
  have e05 := e1.trans e15
  -- the same of tuples
  have hidT : ∀ (H' : Hp) (th : Addr), Same H H' → H' th = some (.tup ws) → HidIn K H' (.ref th) hs m n := fun H' th e h => ⟨th, ws, rfl, .inr (SqT.of h), L2.Paired.mapP hw fun _ _ z => z.same e, hmem, hlen⟩
  walk_at "go"
  refine w_callN ?_
  walk_at "go"
  refine ⟨h, _, rfl, .inl ⟨SqL.of (e05 _ _ hh), fun th hth => ?_⟩⟩
  have e6 := Same.new hth (.tup ws)
  have h6 : (upd H5 th (.tup ws)) th = some (.tup ws) := upd_same
  generalize upd H5 th (.tup ws) = H6 at e6 h6 ⊢
  have e06 := e05.trans e6
  walk_at "go"
  refine ⟨rfl, rfl, ?_⟩
  obtain ⟨fr, hfr⟩ := (F5.tk (Tk.of e6)).gt (K := K)
  refine ⟨f, .ref th, .ref va, fr, t, m, n, hs, c, rfl, hfr, hR, m1, n1, (by first | exact m60 | exact m30), (by first | exact n60 | exact n30), hidT _ _ e06 h6, hcv.same e06, hc, g0, gr, fun cs' b' H7 q1 _ q2 _ hcs' srt' e7 _ hb' _ _ _ _ _ _ _ _ _ _ _ => ?_⟩
  rw [d.one (t' := t) hcs' srt', hL, hM] at hb'
  have e07 := e06.trans e7
  walk_at "go"
  refine ⟨b', _, rfl, SqT.of hb', (by show ¬ (HT.sIx 4 0 none = 0 ∧ HT.sIx 4 4 (some 2) = 4); decide), fun p8 hp8 => ?_⟩
  generalize hlo : at2 L c.1 c.2 = lo at hb hb' ex l0 dF ⊢
  generalize hhi : at2 M c.1 c.2 = hi at hb hb' ex dS ⊢
  have okk : SeqAt.shaped (.tuple [PyData.int lo, .int hi]) = true ∧ PyData.eqv (.tuple [.int lo, .int hi]) (.tuple [.int lo, .int hi]) = true := ints_ok [lo, hi] (by simp)
  have dp2 : ∀ {H' : Hp} {p : Addr}, H' p = some (.tup [V.int lo, .int hi]) → Dp K H' (.ref p) (.tuple [.int lo, .int hi]) := fun h => Dp.tup (SqT.of h) (.cons (.int _) (.cons (.int _) .nil))
  have e8 := Same.new hp8 (.tup (cutV [V.int lo, .int hi, .ref q1, .ref q2] none (some 2)))
  have h8 : (upd H7 p8 (.tup (cutV [V.int lo, .int hi, .ref q1, .ref q2] none (some 2)))) p8 = some (.tup [.int lo, .int hi]) := by rw [upd_same]; rfl
  generalize upd H7 p8 (.tup (cutV [V.int lo, .int hi, .ref q1, .ref q2] none (some 2))) = H8 at e8 h8 ⊢
  walk_at "go"
  refine ⟨(by show 2 ≤ sizeLine; decide), fun p9 hp9 => ?_⟩
  have e9 := Same.new hp9 (.tup [V.int lo, .int hi])
  refine ⟨_, _, dp2 (e9 _ _ h8), dp2 upd_same, okk.1, okk.1, ?_⟩
  rw [okk.2]
  have e89 := e8.trans e9
  have e09 := e07.trans e89
  have e59 := e6.trans (e7.trans e89)
  have e19 := e15.trans e59
  generalize upd H8 p9 (.tup [V.int lo, .int hi]) = H9 at e9 e89 e09 e59 e19 ⊢
  walk_at "go"
  refine ⟨h, _, rfl, .inl ⟨SqL.of (e09 _ _ hh), fun th2 hth2 => ?_⟩⟩
  have e10 := Same.new hth2 (.tup ws)
  have h10 : (upd H9 th2 (.tup ws)) th2 = some (.tup ws) := upd_same
  generalize upd H9 th2 (.tup ws) = H10 at e10 h10 ⊢
  have e510 := e59.trans e10
  have e110 := e19.trans e10
  have e010 := e09.trans e10
  walk_at "go"
  obtain ⟨fr2, hfr2⟩ := (F5.tk (Tk.of e510)).gt (K := K)
  refine ⟨f, f, .ref th2, fr2, fr2, t, t, m, n, m, n, hs, rfl, hfr2, hR, m1, n1, (by first | exact m60 | exact m30), (by first | exact n60 | exact n30), hidT _ _ e010 h10, hfr2, hR, m1, n1, (by first | exact m60 | exact m30), (by first | exact n60 | exact n30), fun b4 H11 e11 hb4 => ?_⟩
  rw [hb4.mpr self]
  have e511 := e510.trans e11
  have e111 := e110.trans e11
  have e011 := e010.trans e11
  walk_at "go"
  have tb1 := tab1.same e111
  have tb2 := tab2.same e111
  have htB := ht.same e011
  obtain ⟨aL, rL, haL, hrL, hxL⟩ := row_of tb1 (i := c.1) (by rw [R1.1]; exact c1)
  obtain ⟨aM, rM, haM, hrM, hxM⟩ := row_of tb2 (i := c.1) (by rw [R2.1]; exact c1)
  obtain ⟨aG, rG, haG, hrG, hxG⟩ := row_of htB (i := c.1) (by omega)
  have lrL := R1.2 rL (List.mem_of_getElem? hrL)
  have lrM := R2.2 rM (List.mem_of_getElem? hrM)
  have lrG := hR.2 rG (List.mem_of_getElem? hrG)
  refine w_ixL tb1.at_ (ref_at haL) ?_
  walk_at "go"
  refine w_ixL hxL (at_getD (by omega)) ?_
  rw [← at2_of hrL, hlo]
  walk_at "go"
  refine w_ixL tb2.at_ (ref_at haM) ?_
  walk_at "go"
  refine w_ixL hxM (at_getD (by omega)) ?_
  rw [← at2_of hrM, hhi]
  walk_at "go"
  refine ⟨(by show 2 ≤ sizeLine; decide), fun p12 hp12 => ?_⟩
  have e12' := Same.new hp12 (.tup [V.int lo, .int hi])
  have h12 : (upd H11 p12 (.tup [V.int lo, .int hi])) p12 = some (.tup [.int lo, .int hi]) := upd_same
  generalize upd H11 p12 (.tup [V.int lo, .int hi]) = H12 at e12' h12 ⊢
  walk_at "go"
  refine ⟨(by show 2 ≤ sizeLine; decide), fun p13 hp13 => ?_⟩
  have e13' := Same.new hp13 (.tup [V.int lo, .int hi])
  refine ⟨_, _, dp2 (e13' _ _ h12), dp2 upd_same, okk.1, okk.1, ?_⟩
  rw [okk.2]
  have e1113 := e12'.trans e13'
  generalize upd H12 p13 (.tup [V.int lo, .int hi]) = H13 at e13' e1113 ⊢
  have e513 := e511.trans e1113
  have e013 := e011.trans e1113
  walk_at "go"
  refine w_ixL (e1113 _ _ htB.at_) (ref_at haG) ?_
  walk_at "go"
  refine w_ixL (e1113 _ _ hxG) (at_getD (by omega)) ?_
  rw [← at2_of hrG]
  walk_at "go"
  rw [decide_eq_true (ex.2.1 t self)]
  walk_at "go"
  rw [decide_eq_true (ex.2.2.2 t self)]
  walk_at "go"
  refine w_callN ?_
  walk_at "go"
  refine ⟨rfl, rfl, ?_⟩
  refine ⟨g, .ref h, .ref va, rs, t, m, n, hs, c, rfl, htG.same e013, hR, m1, n1, (by first | exact m60 | exact m30), (by first | exact n60 | exact n30), hid.same e013, hcv.same e013, hc, g0, gr, fun cs2 af v1 v2 H14 hcs2 srt2 e14 haf f1 f2 => ?_⟩
  rw [d.one (t' := t) hcs2 srt2] at f1 f2
  have lF1 := Nat.le_trans (rows_len m (firstF m n cs t c)) m100
  have lF2 := Nat.le_trans (cols_len n (firstF m n cs t c)) n100
  have lS1 := Nat.le_trans (rows_len m (secondF m n cs t c)) m100
  have lS2 := Nat.le_trans (cols_len n (secondF m n cs t c)) n100
  clear e2 e3 e12 e13 e23 hb hb' tab1 tab2 R1 R2 lf mf tb1 tb2 htB haL hrL hxL haM hrM hxM haG hrG hxG lrL lrM lrG e4 hD4 hz e5 e35 e15 e6 h6 e06 hfr e7 e07 e8 h8 e9 e89 e09 e59 e19 e10 h10 e510 e110 e010 hfr2 e11 e511 e111 e011 e12' h12 e13' e1113 hb2 hb3 hb4 hid htG hcs hcs' hcs2
  refine w_gtup (SqT.of haf) rfl (w_gnn ?_)
  dsimp only
  have e514 := e513.trans e14
  have e014 := e013.trans e14
  walk_at "go"
  refine ⟨g, h, .ref va, v1, rs, t, m, n, ws, hs, c, _, _, rfl, ht.same e014, hR, m1, n1, (by first | exact m60 | exact m30), (by first | exact n60 | exact n30), e014 _ _ hh, L2.Paired.mapP hw fun _ _ z => z.same e014, hcv.same e014, hc, c1, c2, f1.at, lF1, lF2, fun a15 H15 e15' ha15 => ?_⟩
  rw [dF] at ha15
  refine w_ixT (SqT.of ha15) rfl ?_
  have e515 := e514.trans e15'
  have e015 := e014.trans e15'
  have f1 := f1.same e15'
  have f2 := f2.same e15'
  walk_at "go"
  generalize hal : optV (if 0 < lo then some lo else none) = al
  refine Evl.q_cut (M := fun σ' H' => σ' = [some (.ref s), some (.ref g), some (.ref h), some (.ref va), some (.int lo), some (.int hi), some (.ref np1), some (.ref np2), some (.int (c.1 : Int)), some (.int (c.2 : Int)), some (.ref f), some v1, some v2, some al, none, none, none] ∧ Same H15 H') ?_ ?_
  · walk_at "go"
    refine w_neI ?_
    by_cases z : lo = 0
    · rw [decide_eq_true z]
      walk_at "go"
      refine ⟨g, h, .ref va, v2, rs, t, m, n, ws, hs, c, _, _, rfl, ht.same e015, hR, m1, n1, (by first | exact m60 | exact m30), (by first | exact n60 | exact n30), e015 _ _ hh, L2.Paired.mapP hw fun _ _ z => z.same e015, hcv.same e015, hc, c1, c2, f2.at, lS1, lS2, fun a H'' e2 ha => ?_⟩
      rw [dS] at ha
      walk_at "go"
      refine w_ixT (SqT.of ha) rfl ?_
      walk_at "go"
      refine w_neI (i := hi) (j := hi) ?_
      rw [decide_eq_true rfl]
      walk_at "go"
      exact ⟨rfl, e2⟩
    · rw [decide_eq_false z]
      have z2 : 0 < lo := by omega
      rw [if_pos z2] at hal
      subst hal
      walk_at "go"
      refine w_neI (i := lo) (j := lo) ?_
      rw [decide_eq_true rfl]
      walk_at "go"
      refine ⟨g, h, .ref va, v2, rs, t, m, n, ws, hs, c, _, _, rfl, ht.same e015, hR, m1, n1, (by first | exact m60 | exact m30), (by first | exact n60 | exact n30), e015 _ _ hh, L2.Paired.mapP hw fun _ _ z => z.same e015, hcv.same e015, hc, c1, c2, f2.at, lS1, lS2, fun a H'' e2 ha => ?_⟩
      rw [dS] at ha
      walk_at "go"
      refine w_ixT (SqT.of ha) rfl ?_
      walk_at "go"
      refine w_neI (i := hi) (j := hi) ?_
      rw [decide_eq_true rfl]
      walk_at "go"
      exact ⟨rfl, e2⟩
  rintro σ' H16 ⟨rfl, e16⟩
  refine Evl.q_cut (M := fun σ' H' => σ' = [some (.ref s), some (.ref g), some (.ref h), some (.ref va), some (.int lo), some (.int hi), some (.ref np1), some (.ref np2), some (.int (c.1 : Int)), some (.int (c.2 : Int)), some (.ref f), some v1, some v2, some al, none, none, none] ∧ Same H15 H') ?_ ?_
  · walk_at "go"
    refine w_eqI ?_
    rw [decV]
    by_cases z : lo = 0
    · rw [decide_eq_true z]
      rw [if_neg (show ¬ 0 < lo by omega)] at hal
      subst hal
      walk_at "go"
      refine ⟨(by show 2 ≤ sizeLine; decide), fun p hp => ?_⟩
      refine ⟨p, _, rfl, .inr (SqT.of upd_same), rfl, rfl, ?_⟩
      rw [if_pos rfl, show inV (optV none) [V.non, .int 0] = true from rfl]
      walk_at "go"
      exact ⟨rfl, e16.trans (Same.new hp _)⟩
    · rw [decide_eq_false z]
      walk_at "go"
      exact ⟨rfl, e16⟩
  rintro σ' H17 ⟨rfl, e17⟩
  have e017 := e015.trans e17
  have e517 := e515.trans e17
  have f1 := f1.same e17
  have f2 := f2.same e17
  have sd17 := hs0.same e017
  have ht17 := ht.same e017
  walk_at "go"
  refine list_open ?_
  walk_at "go"
  refine ⟨s, g, rs, t, m, n, rfl, sd17, gs, ht17, hR, m1, m7, n7, fun p3 a3 b3 H18 R3 C3 bm18 sd18 as3 hp3 ha3 hb3 lR3 lC3 => ?_⟩
  have ht18 := ht17.bm bm18 gs.1 gs.2
  walk_at "go"
  refine ⟨s, g, rs, t, m, n, rfl, sd18, gs, ht18, hR, m1, m7, n7, fun p4 a4 b4 H19 R4 C4 bm19 sd19 as4 hp4 ha4 hb4 lR4 lC4 => ?_⟩
  have bm := bm18.trans bm19
  have tk := tk_bm sd17 bm
  have tk9 := tk_bm sd18 bm19
  have ht19 := ht18.bm bm19 gs.1 gs.2
  have hh19 := bm.at (e017 _ _ hh) (by simpa using hns)
  have hw19 : Paired (CellAt H19) ws hs := L2.Paired.mapP hw fun _ _ z => (z.same e017).tk tk
  have hcv19 := (hcv.same e017).tk tk
  have F19 := (F5.tk (Tk.of e517)).tk tk
  have f1 := f1.bm sd17 bm
  have f2 := f2.bm sd17 bm
  have x3 : FenceAt K H19 (.ref p3) R3 C3 := ⟨p3, a3, b3, rfl, SqT.of (tk9 _ _ hp3), .lst (bm19.at ha3 (by simpa using as3)), .tup (tk9 _ _ hb3)⟩
  have x4 : FenceAt K H19 (.ref p4) R4 C4 := ⟨p4, a4, b4, rfl, SqT.of hp4, .lst ha4, .tup hb4⟩
  have b019 := (BM.of e017).trans bm
  walk_at "go"
  refine ⟨Nat.zero_le _, fun p5 hp5 => ?_⟩
  have e20 := Same.new hp5 (.tup [])
  have h20 : (upd H19 p5 (.tup [])) p5 = some (.tup ([] : List V)) := upd_same
  generalize upd H19 p5 (.tup []) = H20 at e20 h20 ⊢
  walk_at "go"
  refine ⟨Nat.zero_le _, fun p6 hp6 => ?_⟩
  have e21 := Same.new hp6 (.tup [])
  have h21 : (upd H20 p6 (.tup [])) p6 = some (.tup ([] : List V)) := upd_same
  generalize upd H20 p6 (.tup []) = H21 at e21 h21 ⊢
  walk_at "go"
  refine ⟨(by show 2 ≤ sizeLine; decide), fun p7 hp7 => ?_⟩
  have e22 := Same.new hp7 (.tup [V.ref p5, .ref p6])
  have h22 : (upd H21 p7 (.tup [V.ref p5, .ref p6])) p7 = some (.tup [V.ref p5, .ref p6]) := upd_same
  generalize upd H21 p7 (.tup [V.ref p5, .ref p6]) = H22 at e22 h22 ⊢
  have e1922 := e20.trans (e21.trans e22)
  have x5 : FenceAt K H22 (.ref p7) [] [] := ⟨p7, p5, p6, rfl, SqT.of h22, .tup ((e21.trans e22) _ _ h20), .tup (e22 _ _ h21)⟩
  walk_at "go"
  refine ⟨(by show 5 ≤ sizeLine; decide), fun pl hpl => ?_⟩
  have e23' := Same.new hpl (.lst [v1, v2, .ref p3, .ref p4, .ref p7])
  have h23 : (upd H22 pl (.lst [v1, v2, .ref p3, .ref p4, .ref p7])) pl = some (.lst [v1, v2, .ref p3, .ref p4, .ref p7]) := upd_same
  have eL := e1922.trans e23'
  have xs5 : ∀ (i : Nat) (x : V), [v1, v2, V.ref p3, .ref p4, .ref p7][i]? = some x → ∃ R C, FenceAt K (upd H22 pl (.lst [v1, v2, .ref p3, .ref p4, .ref p7])) x R C ∧ R.length ≤ 100 ∧ C.length ≤ 100 := by
    intro i x hx
    match i, hx with
    | 0, hx => cases hx; exact ⟨_, _, (f1.same eL).at, lF1, lF2⟩
    | 1, hx => cases hx; exact ⟨_, _, (f2.same eL).at, lS1, lS2⟩
    | 2, hx => cases hx; exact ⟨_, _, x3.same eL, by omega, by omega⟩
    | 3, hx => cases hx; exact ⟨_, _, x4.same eL, by omega, by omega⟩
    | 4, hx => cases hx; exact ⟨_, _, x5.same e23', by simp, by simp⟩
    | _ + 5, hx => cases hx
  generalize upd H22 pl (.lst [v1, v2, .ref p3, .ref p4, .ref p7]) = HL at e23' h23 eL xs5 ⊢
  generalize [v1, v2, V.ref p3, .ref p4, .ref p7] = xs at h23 xs5 ⊢
  have htL := ht19.same eL
  have hhL := eL _ _ hh19
  have hwL : Paired (CellAt HL) ws hs := L2.Paired.mapP hw19 fun _ _ z => z.same eL
  have hcvL := hcv19.same eL
  have FL := F19.tk (Tk.of eL)
  have f1 := f1.same eL
  have f2 := f2.same eL
  have sdL := sd19.same eL
  have bL := b019.same eL
  have hidL : ∀ H', Same HL H' → HidIn K H' (.ref h) hs m n := fun H' e => ⟨h, ws, rfl, .inl (SqL.of (e _ _ hhL)), L2.Paired.mapP hwL fun _ _ z => z.same e, hmem, hlen⟩
  refine ⟨pl, rfl, ⟨_, SqL.of h23⟩, ?_⟩
  refine for_list (xs := xs) (fun (i : Nat) σ H' => ∃ (o14 o15 : Option V), σ = [some (.ref s), some (.ref g), some (.ref h), some (.ref va), some (.int lo), some (.int hi), some (.ref np1), some (.ref np2), some (.int (c.1 : Int)), some (.int (c.2 : Int)), some (.ref f), some v1, some v2, some al, o14, o15, none] ∧ Same HL H') ⟨none, none, rfl, Same.refl _⟩ (fun i σ H' _ ⟨_, _, _, e⟩ => SqL.of (e _ _ h23)) ?_ ?_
  · rintro i x σ H' hx ⟨o14, o15, rfl, e⟩
    obtain ⟨R, C, hF, lR, lC⟩ := xs5 i x hx
    have ble := bound_le d ex (inF R C)
    walk_at "go"
    refine ⟨g, h, .ref va, x, rs, t, m, n, ws, hs, c, R, C, rfl, htL.same e, hR, m1, n1, (by first | exact m60 | exact m30), (by first | exact n60 | exact n30), e _ _ hhL, L2.Paired.mapP hwL fun _ _ z => z.same e, hcvL.same e, hc, c1, c2, hF.same e, lR, lC, fun a HA eA ha => ?_⟩
    have eLA := e.trans eA
    walk_at "go"
    refine w_callN ?_
    walk_at "go"
    refine ⟨rfl, rfl, ?_⟩
    refine ⟨g, .ref h, .ref va, x, rs, t, m, n, hs, c, R, C, rfl, (htL.same eLA).gt, hR, m1, n1, (by first | exact m60 | exact m30), (by first | exact n60 | exact n30), hidL _ eLA, hcvL.same eLA, hc, hF.same eLA, fun a' HB eB ha' => ?_⟩
    generalize boundF t hs m n (inF R C) c = bd at ble ha ha'
    have ha := eB _ _ ha
    walk_at "go"
    refine ⟨_, _, bnd_dp ha', bnd_dp ha, (bnd_ok bd).1, (bnd_ok bd).1, ?_⟩
    rw [(bnd_ok bd).2]
    have eLB := eLA.trans eB
    obtain ⟨b1, b2⟩ := bd
    walk_at "go"
    refine w_ixT (SqT.of ha) rfl ?_
    walk_at "go"
    have nn0 : decide (optV none = V.non) = true := rfl
    have nn1 : ∀ x : Int, decide (optV (some x) = V.non) = false := fun x => rfl
    have fin : Same HL HB := eLB
    cases b1 with
    | none =>
      rw [nn0]
      walk_at "go"
      refine w_ixT (SqT.of ha) rfl ?_
      walk_at "go"
      cases b2 with
      | none =>
        rw [nn0]
        walk_at "go"
        exact ⟨_, _, rfl, fin⟩
      | some y =>
        rw [nn1]
        walk_at "go"
        refine w_ixT (SqT.of ha) rfl ?_
        walk_at "go"
        refine w_i0 (i := y) (j := hi) ?_
        rw [decide_eq_false (by have := ble.2 y rfl; omega)]
        walk_at "go"
        exact ⟨_, _, rfl, fin⟩
    | some x1 =>
      rw [nn1]
      walk_at "go"
      refine w_ixT (SqT.of ha) rfl ?_
      walk_at "go"
      refine w_i0 (i := x1) (j := lo) ?_
      rw [decide_eq_false (by have := ble.1 x1 rfl; omega)]
      walk_at "go"
      refine w_ixT (SqT.of ha) rfl ?_
      walk_at "go"
      cases b2 with
      | none =>
        rw [nn0]
        walk_at "go"
        exact ⟨_, _, rfl, fin⟩
      | some y =>
        rw [nn1]
        walk_at "go"
        refine w_ixT (SqT.of ha) rfl ?_
        walk_at "go"
        refine w_i0 (i := y) (j := hi) ?_
        rw [decide_eq_false (by have := ble.2 y rfl; omega)]
        walk_at "go"
        exact ⟨_, _, rfl, fin⟩
  · rintro σ H' ⟨o14, o15, rfl, e⟩
    walk_at "go"
    refine ⟨h, _, rfl, .inl ⟨SqL.of (e _ _ hhL), fun th3 hth3 => ?_⟩⟩
    have e30 := Same.new hth3 (.tup ws)
    have h30 : (upd H' th3 (.tup ws)) th3 = some (.tup ws) := upd_same
    generalize upd H' th3 (.tup ws) = H30 at e30 h30 ⊢
    have eL30 := e.trans e30
    walk_at "go"
    obtain ⟨fr3, hfr3⟩ := (FL.tk (Tk.of eL30)).gt (K := K)
    refine ⟨f, .ref th3, .ref va, fr3, t, m, n, hs, c, rfl, hfr3, gt, m30, n30, ⟨th3, ws, rfl, .inr (SqT.of h30), L2.Paired.mapP hwL fun _ _ z => z.same eL30, hmem, hlen⟩, hcvL.same eL30, hc, fun a31 H31 lo1 hi1 ex1 e31 ha31 => ?_⟩
    have eL31 := eL30.trans e31
    walk_at "go"
    refine ⟨g, .ref h, .ref va, rs, t, m, n, hs, c, rfl, (htL.same eL31).gt, gt, m30, n30, hidL _ eL31, hcvL.same eL31, hc, fun a32 H32 lo2 hi2 ex2 e32 ha32 => ?_⟩
    obtain ⟨rfl, rfl⟩ := ext_one ex1 ex2
    have eL32 := eL31.trans e32
    have okk4 : SeqAt.shaped (.tuple [PyData.int lo1, .int hi1, .int lo1, .int hi1]) = true ∧ PyData.eqv (.tuple [.int lo1, .int hi1, .int lo1, .int hi1]) (.tuple [.int lo1, .int hi1, .int lo1, .int hi1]) = true := ints_ok [lo1, hi1, lo1, hi1] (by simp)
    have dp4 : ∀ {p : Addr}, H32 p = some (.tup [V.int lo1, .int hi1, .int lo1, .int hi1]) → Dp K H32 (.ref p) (.tuple [.int lo1, .int hi1, .int lo1, .int hi1]) := fun h => Dp.tup (SqT.of h) (.cons (.int _) (.cons (.int _) (.cons (.int _) (.cons (.int _) .nil))))
    refine ⟨_, _, dp4 (e32 _ _ ha31), dp4 ha32, okk4.1, okk4.1, ?_⟩
    rw [okk4.2]
    walk_at "go"
    refine w_callN ?_
    walk_at "go"
    refine ⟨rfl, rfl, ?_⟩
    refine ⟨g, .ref h, .ref va, rs, t, m, n, hs, c, rfl, (htL.same eL32).gt, hR, m1, n1, (by first | exact m60 | exact m30), (by first | exact n60 | exact n30), hidL _ eL32, hcvL.same eL32, hc, g0, gr, fun cs3 a33 u1 u2 H33 hcs3 srt3 e33 ha33 g1 g2 => ?_⟩
    rw [d.one (t' := t) hcs3 srt3] at g1 g2
    walk_at "go"
    refine ⟨(by show 2 ≤ sizeLine; decide), fun p34 hp34 => ?_⟩
    have e34 := Same.new hp34 (.tup [v1, v2])
    have two := two_fen (rowsOf m (firstF m n cs t c)) (colsOf n (firstF m n cs t c)) (rowsOf m (secondF m n cs t c)) (colsOf n (secondF m n cs t c))
    have eL34 := eL32.trans (e33.trans e34)
    refine ⟨_, _, Dp.tup (SqT.of (e34 _ _ ha33)) (.cons (fen_dp (g1.same e34)) (.cons (fen_dp (g2.same e34)) .nil)), Dp.tup (SqT.of upd_same) (.cons (fen_dp (f1.same eL34)) (.cons (fen_dp (f2.same eL34)) .nil)), two.1, two.1, ?_⟩
    rw [two.2]
    exact ok _ (bL.same eL34) (sdL.same eL34)
end
end K3
end L16_part
section L17_part
set_option Elab.async false
set_option linter.all false
set_option maxRecDepth 100000
set_option maxHeartbeats 1000000
set_option pp.deepTerms.threshold 5
open PySem PySem.Spec PyProof.Rows L2
/-- go on as far as nothing is open -/
local macro_rules | `(tactic| walk_at "go") => `(tactic| repeat (first
  | with_reducible refine w_seq ?_ | with_reducible refine w_next ?_ | with_reducible refine w_set ?_ | with_reducible refine w_drop ?_ | with_reducible refine w_ret ?_ | with_reducible refine w_retN ?_
  | with_reducible refine w_if ?_ | ((with_reducible refine' w_var ?hv ?_); (case hv => exact rfl)) | with_reducible refine w_c ?_ | with_reducible refine w_nil ?_ | with_reducible refine w_cons ?_ | with_reducible refine w_op ?_ | with_reducible refine w_un ?_
  | with_reducible refine w_test ?_ | with_reducible refine w_tB ?_ | with_reducible refine w_not ?_ | with_reducible refine w_and ?_ | with_reducible refine w_or ?_ | with_reducible refine w_bl ?_
  | with_reducible refine w_andV ?_ | with_reducible refine w_orV ?_ | with_reducible refine w_notV ?_ | with_reducible refine w_ifE ?_ | with_reducible refine w_chain ?_ | with_reducible refine w_i0 ?_
  | with_reducible refine w_call ?_ | with_reducible refine w_callS ?_ | with_reducible refine w_cB ?_ | with_reducible refine w_tup ?_ | with_reducible refine w_lst ?_ | with_reducible refine w_fldV ?_
  | with_reducible refine w_neF ?_ | with_reducible refine w_neT ?_ | with_reducible refine w_notN ?_ | with_reducible refine w_isN ?_ | with_reducible refine w_gname ?_ | with_reducible refine w_gsub ?_ | with_reducible refine w_asg ?_ | with_reducible refine w_sl ?_ | with_reducible refine w_noP ?_ | with_reducible refine w_int1 ?_ | with_reducible refine w_part ?_ | with_reducible refine w_yes ?_ | with_reducible refine w_nT ?_ | with_reducible refine w_nF ?_ | with_reducible refine w_iteT ?_ | with_reducible refine w_iteF ?_))
namespace K3
/-! ### four numbers greater by one -/
def plusF (m n k j : Nat) : List (Nat × Nat) := [(k, j), (k, n - 1), (m - 1, j), (m - 1, n - 1)]
def moreF (t : List (List Int)) (cs : List (Nat × Nat)) : List (List Int) := cs.foldl (fun u c => addAt u c 1) t
theorem more_snoc (t : List (List Int)) (cs : List (Nat × Nat)) (c : Nat × Nat) : moreF t (cs ++ [c]) = addAt (moreF t cs) c 1 := by
  unfold moreF
  rw [List.foldl_append]
  rfl
theorem more_rect {t : List (List Int)} {m n : Nat} (h : Rect t m n) : ∀ cs : List (Nat × Nat), Rect (moreF t cs) m n := by
  intro cs
  unfold moreF
  induction cs generalizing t with
  | nil => exact h
  | cons c cs ih => exact ih (addAt_len h)
section
variable {t : List (List Int)} {m n k j : Nat}
theorem plus_grid (g : Grid t m n) (hk : k + 1 < m) (hj : j + 1 < n) : Grid (moreF t (plusF m n k j)) m n ∧ at2 (moreF t (plusF m n k j)) k j ≠ at2 t k j := by
  have r1 : Rect (addAt t (k, j) 1) m n := addAt_len g.rect
  have r2 : Rect (addAt (addAt t (k, j) 1) (k, n - 1) 1) m n := addAt_len r1
  have r3 : Rect (addAt (addAt (addAt t (k, j) 1) (k, n - 1) 1) (m - 1, j) 1) m n := addAt_len r2
  have k1 : k < m := by omega
  have j1 : j < n := by omega
  have m1 : m - 1 < m := by omega
  have n1 : n - 1 < n := by omega
  have one : ∀ {u : List (List Int)} (h : Rect u m n) {c : Nat × Nat} (c1 : c.1 < m) (c2 : c.2 < n) {i l : Nat} (hi : i < m) (hl : l < n), at2 u i l ≤ at2 (addAt u c 1) i l ∧ at2 (addAt u c 1) i l = at2 u i l + (if (i, l) = c then 1 else 0) := fun h c c1 c2 i l hi hl => by
    have e := at2_add h c1 c2 1 hi hl
    refine ⟨?_, e⟩
    rw [e]
    split <;> omega
  have all : ∀ i < m, ∀ l < n, at2 t i l ≤ at2 (moreF t (plusF m n k j)) i l := fun i hi l hl => by
    have a := (one g.rect (c := (k, j)) k1 j1 hi hl).1
    have b := (one r1 (c := (k, n - 1)) k1 n1 hi hl).1
    have c := (one r2 (c := (m - 1, j)) m1 j1 hi hl).1
    have d := (one r3 (c := (m - 1, n - 1)) m1 n1 hi hl).1
    show at2 t i l ≤ at2 (addAt (addAt (addAt (addAt t (k, j) 1) (k, n - 1) 1) (m - 1, j) 1) (m - 1, n - 1) 1) i l
    omega
  refine ⟨⟨more_rect g.rect _, g.m1, g.n1, fun i hi l hl => Int.le_trans (g.nn i hi l hl) (all i hi l hl), fun p hp => ?_⟩, ?_⟩
  · show net m n (at2 (addAt (addAt (addAt (addAt t (k, j) 1) (k, n - 1) 1) (m - 1, j) 1) (m - 1, n - 1) 1)) p = 0
    rw [net_addAt r3 m1 n1 1 hp, net_addAt r2 m1 j1 1 hp, net_addAt r1 k1 n1 1 hp, net_addAt g.rect k1 j1 1 hp, g.bal p hp]
    have dk : decide (k = m - 1) = false := decide_eq_false (by omega)
    have dj : decide (j = n - 1) = false := decide_eq_false (by omega)
    have a1 : arcF m n (k, j) = ((true, k), (false, j)) := by unfold arcF; simp [dk, dj]
    have a2 : arcF m n (k, n - 1) = ((false, n - 1), (true, k)) := by unfold arcF; simp [dk]
    have a3 : arcF m n (m - 1, j) = ((false, j), (true, m - 1)) := by unfold arcF; simp [dj]
    have a4 : arcF m n (m - 1, n - 1) = ((true, m - 1), (false, n - 1)) := by unfold arcF; simp
    rw [a1, a2, a3, a4]
    simp only [Int.one_mul]
    omega
  · have a := (one g.rect (c := (k, j)) k1 j1 k1 j1).2
    have b := (one r1 (c := (k, n - 1)) k1 n1 k1 j1).1
    have c := (one r2 (c := (m - 1, j)) m1 j1 k1 j1).1
    have d := (one r3 (c := (m - 1, n - 1)) m1 n1 k1 j1).1
    rw [if_pos rfl] at a
    show at2 (addAt (addAt (addAt (addAt t (k, j) 1) (k, n - 1) 1) (m - 1, j) 1) (m - 1, n - 1) 1) k j ≠ at2 t k j
    omega
/-- with one hidden cell there is one table -/
theorem one_fit {u : List (List Int)} {c : Nat × Nat} (g : Grid t m n) (hu : Fit t [c] u m n) (c1 : c.1 < m) (c2 : c.2 < n) : at2 u c.1 c.2 = at2 t c.1 c.2 := by
  have gu := fit_grid g.m1 g.n1 hu
  obtain ⟨p1, p2⟩ := arc_place c1 c2
  have e := net_congr (m := m) (n := n) (d := at2 u) (e := at2 (addAt t c (at2 u c.1 c.2 - at2 t c.1 c.2))) (p := (arcF m n c).1) (fun i hi j hj => by
    rw [at2_add g.rect c1 c2 _ hi hj]
    by_cases z : (i, j) = c
    · rw [if_pos z, ← z]
      show at2 u i j = at2 t i j + (at2 u i j - at2 t i j)
      omega
    · rw [if_neg z, hu.2.2.2 i hi j hj (by simpa using z), Int.add_zero]) p1
  rw [gu.bal _ p1, net_addAt g.rect c1 c2 _ p1, g.bal _ p1] at e
  have h1 : chi (arcF m n c).1 (arcF m n c).1 = 1 := by unfold chi; rw [if_pos rfl]
  have h2 : chi (arcF m n c).2 (arcF m n c).1 = 0 := by unfold chi; rw [if_neg (fun z => arc_ne m n c z.symm)]
  rw [h1, h2] at e
  omega
theorem ext_single {c : Nat × Nat} {lo hi : Int} (g : Grid t m n) (c1 : c.1 < m) (c2 : c.2 < n) (h : ExtF t [c] m n c lo hi) : lo = at2 t c.1 c.2 ∧ hi = at2 t c.1 c.2 := by
  obtain ⟨⟨u, a, b⟩, _, ⟨v, a', b'⟩, _⟩ := h
  rw [← b, ← b']
  exact ⟨one_fit g a c1 c2, one_fit g a' c1 c2⟩
end
theorem ixN_any {N q : Nat} {x : Int} (h : x = (q : Int) ∨ x = -1 ∧ q + 1 = N) (hq : q < N) : ixN N x = some q := by
  unfold ixN
  rcases h with rfl | ⟨rfl, e⟩
  · rw [if_pos (by omega), if_pos (by omega)]
    simp
  · rw [if_neg (by omega), if_pos (by omega)]
    congr 1
    omega
theorem atI_any {α : Type} {xs : List α} {q : Nat} {x : Int} {v : α} (h : x = (q : Int) ∨ x = -1 ∧ q + 1 = xs.length) (hv : xs[q]? = some v) : atI xs x = some v := by
  unfold atI
  rw [ixN_any h (List.getElem?_eq_some_iff.mp hv).1]
  exact hv
def PosAt (m n : Nat) (H : Hp) (v : V) (q : Nat × Nat) : Prop := ∃ a x y, v = .ref a ∧ H a = some (.tup [.int x, .int y]) ∧ (x = (q.1 : Int) ∨ x = -1 ∧ q.1 + 1 = m) ∧ (y = (q.2 : Int) ∨ y = -1 ∧ q.2 + 1 = n) ∧ q.1 < m ∧ q.2 < n
theorem PosAt.same {m n : Nat} {H H' : Hp} (e : Same H H') {v : V} {q : Nat × Nat} (h : PosAt m n H v q) : PosAt m n H' v q := let ⟨a, x, y, h1, h2, h3⟩ := h; ⟨a, x, y, h1, e _ _ h2, h3⟩
theorem PosAt.tk {m n : Nat} {H H' : Hp} (e : Tk H H') {v : V} {q : Nat × Nat} (h : PosAt m n H v q) : PosAt m n H' v q := let ⟨a, x, y, h1, h2, h3⟩ := h; ⟨a, x, y, h1, e _ _ h2, h3⟩
theorem Tab.updNe {H : Hp} {p a : Addr} {rs : List Addr} {t : List (List Int)} (h : Tab H p rs t) (ne : p ≠ a) (nr : ∀ r ∈ rs, r ≠ a) (o : HO) : Tab (L2.upd H a o) p rs t :=
  ⟨by rw [upd_ne ne]; exact h.at_, paired_up h.rows fun r row hm z => by show L2.upd H a o r = _; rw [upd_ne (nr r hm)]; exact z⟩
theorem Sd.ne_lst {H : Hp} {s p : Addr} (hs : Sd H s) {B : Hp} (b : B p = none) (e : BM [s] B H) (hb : Sd B s) : p ≠ s := src_ne hb.src b
end K3
end L17_part
section L18_part
set_option Elab.async false
set_option linter.all false
set_option maxRecDepth 100000
set_option maxHeartbeats 1000000
set_option pp.deepTerms.threshold 5
open PySem PySem.Spec PyProof.Rows L2
/-- go on as far as nothing is open -/
local macro_rules | `(tactic| walk_at "go") => `(tactic| repeat (first
  | with_reducible refine w_seq ?_ | with_reducible refine w_next ?_ | with_reducible refine w_set ?_ | with_reducible refine w_drop ?_ | with_reducible refine w_ret ?_ | with_reducible refine w_retN ?_
  | with_reducible refine w_if ?_ | ((with_reducible refine' w_var ?hv ?_); (case hv => exact rfl)) | with_reducible refine w_c ?_ | with_reducible refine w_nil ?_ | with_reducible refine w_cons ?_ | with_reducible refine w_op ?_ | with_reducible refine w_un ?_
  | with_reducible refine w_test ?_ | with_reducible refine w_tB ?_ | with_reducible refine w_not ?_ | with_reducible refine w_and ?_ | with_reducible refine w_or ?_ | with_reducible refine w_bl ?_
  | with_reducible refine w_andV ?_ | with_reducible refine w_orV ?_ | with_reducible refine w_notV ?_ | with_reducible refine w_ifE ?_ | with_reducible refine w_chain ?_ | with_reducible refine w_i0 ?_
  | with_reducible refine w_call ?_ | with_reducible refine w_callS ?_ | with_reducible refine w_cB ?_ | with_reducible refine w_tup ?_ | with_reducible refine w_lst ?_ | with_reducible refine w_fldV ?_
  | with_reducible refine w_neF ?_ | with_reducible refine w_neT ?_ | with_reducible refine w_notN ?_ | with_reducible refine w_isN ?_ | with_reducible refine w_gname ?_ | with_reducible refine w_gsub ?_ | with_reducible refine w_asg ?_ | with_reducible refine w_sl ?_ | with_reducible refine w_noP ?_ | with_reducible refine w_int1 ?_ | with_reducible refine w_part ?_ | with_reducible refine w_yes ?_ | with_reducible refine w_nT ?_ | with_reducible refine w_nF ?_ | with_reducible refine w_iteT ?_ | with_reducible refine w_iteF ?_))
namespace K3
def spLChanged (K : PySem.W.Frag) : Sp := fun vs H Q _ => ∃ (s g h : Addr) (v : V) (rs : List Addr) (t : List (List Int)) (m n : Nat) (ws : List V) (hs : List (Nat × Nat)) (c : Nat × Nat), vs = [.ref s, .ref g, .ref h, v] ∧ Sd H s ∧ (g ≠ s ∧ ∀ r ∈ rs, r ≠ s) ∧ h ≠ s ∧ Tab H g rs t ∧ Grid t m n ∧ 2 ≤ m ∧ 2 ≤ n ∧ m ≤ 7 ∧ n ≤ 7 ∧
  H h = some (.lst ws) ∧ Paired (CellAt H) ws hs ∧ (∀ k ∈ hs, k ∈ (cellsOf m n).dropLast) ∧ hs.length ≤ 60 ∧ CellAt H v c ∧ c ∈ hs ∧ ∀ H', BM [s] H H' → Sd H' s → Q (.bl true) H'
section
variable {P : Program} {w : World} {K : PySem.W.Frag} {mg : Str → Option Value} {base : Heap}
set_option maxHeartbeats 0
theorem sc_changed_right : FnScope ["_law_s", "_law_grid", "_law_hidden_here", "_law_place", "_law_handed", "_law_gone", "_law_k", "_law_j", "_law_at", "_law_side", "_law_fresh", "_law_due", "_law_number", "_law_row"] ["_law_s", "_law_grid", "_law_hidden_here", "_law_place"] (defScope s__law_changed_right) := ⟨rfl, rfl, rfl, by decide +kernel, rfl, by decide +kernel, by decide +kernel⟩
theorem ok_changed_right (T : Tx K mg) : Ok P w K mg base 10 (He.ga K "_law_changed_right") ["_law_s", "_law_grid", "_law_hidden_here", "_law_place"] (spLChanged K) := by
  obtain ⟨fd, F⟩ := T.f__law_changed_right
  have O_law_reached := ok_reached (P := P) (w := w) (base := base) T
  have Ofits := ok_fits (P := P) (w := w) (base := base) T
  have O_law_digit := ok_digit (P := P) (w := w) (base := base) T
  refine ⟨fd, F.ok (k := 9) sc_changed_right (fun vs H Q E h => ?_) (fun cdv A outer s_ H vs Q E hr h => ?_), F.bindsN fun _ _ _ _ _ _ us hl => match us, hl with | [_, _, _, _], _ => rfl, F.kp⟩
  · obtain ⟨s, g, h, v, rs, t, m, n, ws, hs, c, rfl, hs0, gs, hns, ht, gt, m2, n2, m7, n7, hh, hw, hmem, hlen, hcv, hc, ok⟩ := h
    rfl
  obtain ⟨s, g, h, v, rs, t, m, n, ws, hs, c, rfl, hs0, gs, hns, ht, gt, m2, n2, m7, n7, hh, hw, hmem, hlen, hcv, hc, ok⟩ := h
  have Oreach := ok_reach (P := P) (w := w) (base := base) T
  have rreach : Room 8 _ := hr.mono (by decide)
  have Ofences := ok_fences (P := P) (w := w) (base := base) T
  have rfences : Room 8 _ := hr.mono (by decide)
  have hu65 := K3.Room.units65 hr
  have hu64 := Nat.lt_of_succ_lt hu65
  have hu0 := Nat.lt_of_le_of_lt (Nat.le_add_right _ 65) hu65
  have hu1 := Nat.lt_of_le_of_lt (Nat.add_le_add_left (show 1 ≤ 65 by decide) _) hu65
  have r_law_reached : Room 9 _ := hr.mono (by decide)
  have rfits : Room 3 _ := hr.mono (by decide)
  have r_law_digit : Room 1 _ := hr.mono (by decide)
  refine ⟨_, pss_cons (by exact ps_setLc (i := 4) (own := [("_law_row", 13)]) (g := gName 13) (tt := tYes) (te := (tCB (fun xs H Q => ∃ p ys, xs = [V.ref p] ∧ (SqL K H p ys ∨ SqT K H p ys) ∧ ∀ l, H l = none → Q (.ref l) (upd H l (.lst ys))) (tCons (tVar 13) tNil))) (by rfl) sc_changed_right.nd rfl rfl (by rfl) (pi_list (pv 1)) (blkOk_by (own := [("_law_row", 13)]) (N := ["_law_s", "_law_grid", "_law_hidden_here", "_law_place", "_law_handed", "_law_gone", "_law_k", "_law_j", "_law_at", "_law_side", "_law_fresh", "_law_due", "_law_number", "_law_row"]) (sc := defScope s__law_changed_right) (by decide +kernel)) (fun _ _ _ _ _ => (pg_name (i := 13) sc_changed_right.nd rfl (Or.inl rfl))) (fun _ _ _ _ _ => pts_nil) (fun _ _ _ _ _ => (pe_callTy call_list_of (by rfl) T.z_list (by decide +kernel) (pa_cons (pv 13) pa_nil))))
      (pss_cons (ps_set (i := 5) sc_changed_right.nd rfl (Or.inl rfl) (pe_callTy call_list_of (by rfl) T.z_list (by decide +kernel) (pa_cons (pv 2) pa_nil)))
      (pss_cons (ps_expr (pe_fK Oreach rreach T.g_reach (pa_cons (pv 4) (pa_cons (pv 5) pa_nil)) (pk_cons (pv 3) pk_nil)))
      (pss_cons (ps_expr (pe_fK Ofences rfences T.g_fences (pa_cons (pv 4) (pa_cons (pv 5) pa_nil)) (pk_cons (pv 3) pk_nil)))
      (pss_cons (ps_par (by rfl) sc_changed_right.nd (i := 6) (j := 7) rfl rfl (by decide) rfl rfl (pa_cons (pe_f O_law_digit r_law_digit T.g__law_digit (pa_cons (pv 0) (pa_cons (pe_op op_sub (pe_callB call_len_seq (by rfl) T.z_len PySem.boot_len (pa_cons (pv 1) pa_nil)) pe_int) pa_nil))) (pa_cons (pe_f O_law_digit r_law_digit T.g__law_digit (pa_cons (pv 0) (pa_cons (pe_op op_sub (pe_callB call_len_seq (by rfl) T.z_len PySem.boot_len (pa_cons (pe_ix ix_list (pv 1) pe_int (fun _ _ => rfl)) pa_nil)) pe_int) pa_nil))) pa_nil)) (by rfl))
      (pss_cons (ps_for (passes_of rfl) (by rfl) (pi_list (pe_lst (pa_cons (pe_tup (pa_cons (pv 6) (pa_cons (pv 7) pa_nil))) (pa_cons (pe_tup (pa_cons (pv 6) (pa_cons (pe_un un_neg pe_int) pa_nil))) (pa_cons (pe_tup (pa_cons (pe_un un_neg pe_int) (pa_cons (pv 7) pa_nil))) (pa_cons (pe_tup (pa_cons (pe_un un_neg pe_int) (pa_cons (pe_un un_neg pe_int) pa_nil))) pa_nil)))))) (pg_tup (by rfl) (pgs_cons (pg_name (i := 8) sc_changed_right.nd rfl (Or.inl rfl)) (pgs_cons (pg_name (i := 9) sc_changed_right.nd rfl (Or.inl rfl)) pgs_nil))) (pss_one (ps_asg (pe_op op_add (pe_ix ix_list (pe_ix ix_list (pv 4) (pv 8) (fun _ _ => rfl)) (pv 9) (fun _ _ => rfl)) pe_int) (pg_sub (pe_ix ix_list (pv 4) (pv 8) (fun _ _ => rfl)) (pv 9) set_list))))
      (pss_cons (by exact ps_setLc (i := 10) (own := [("_law_row", 13)]) (g := gName 13) (tt := tYes) (te := (tCB (fun xs H Q => ∃ p ys, xs = [V.ref p] ∧ (SqL K H p ys ∨ SqT K H p ys) ∧ ∀ l, H l = none → Q (.ref l) (upd H l (.lst ys))) (tCons (tVar 13) tNil))) (by rfl) sc_changed_right.nd rfl rfl (by rfl) (pi_list (pv 4)) (blkOk_by (own := [("_law_row", 13)]) (N := ["_law_s", "_law_grid", "_law_hidden_here", "_law_place", "_law_handed", "_law_gone", "_law_k", "_law_j", "_law_at", "_law_side", "_law_fresh", "_law_due", "_law_number", "_law_row"]) (sc := defScope s__law_changed_right) (by decide +kernel)) (fun _ _ _ _ _ => (pg_name (i := 13) sc_changed_right.nd rfl (Or.inl rfl))) (fun _ _ _ _ _ => pts_nil) (fun _ _ _ _ _ => (pe_callTy call_list_of (by rfl) T.z_list (by decide +kernel) (pa_cons (pv 13) pa_nil))))
      (pss_cons (ps_set (i := 11) sc_changed_right.nd rfl (Or.inl rfl) (pe_f O_law_reached r_law_reached T.g__law_reached (pa_cons (pv 10) (pa_cons (pe_callTy call_tuple_of (by rfl) T.z_tuple (by decide +kernel) (pa_cons (pv 2) pa_nil)) (pa_cons (pv 3) pa_nil)))))
      (pss_cons (ps_if (pw_or (pt_cmpR (op_neD hu64) (pe_f O_law_reached r_law_reached T.g__law_reached (pa_cons (pv 4) (pa_cons (pv 5) (pa_cons (pv 3) pa_nil)))) (pv 11) (nomark _)) (pw_or (pt_not (pt_val (pe_f Ofits rfits T.g_fits (pa_cons (pv 4) (pa_cons (pv 5) (pa_cons (pv 10) pa_nil)))))) (pw_or1 (pt_val (pe_f Ofits rfits T.g_fits (pa_cons (pv 4) (pa_cons (pe_lst pa_nil) (pa_cons (pv 1) pa_nil)))))))).pt (pss_one (ps_ret pe_bl)) pss_nil)
      (pss_cons (ps_expr (pe_bm0 PySem.F.plainAttrs_list PySem.F.slot_list_clear PySem.F.type_list_clear mt_clear (pv 5)))
      (pss_cons (ps_expr (pe_bm PySem.F.plainAttrs_list PySem.F.slot_list_append PySem.F.type_list_append mt_append (pv 5) (pa_cons (pv 3) pa_nil)))
      (pss_cons (ps_set (i := 12) sc_changed_right.nd rfl (Or.inl rfl) (pe_ix ix_list (pe_ix ix_list (pv 10) (pe_ix ix_tup (pv 3) pe_int (fun _ _ => rfl)) (fun _ _ => rfl)) (pe_ix ix_tup (pv 3) pe_int (fun _ _ => rfl)) (fun _ _ => rfl)))
      (pss_one (ps_ret (pe_cmpR (op_eqD hu64) (pe_f O_law_reached r_law_reached T.g__law_reached (pa_cons (pv 4) (pa_cons (pv 5) (pa_cons (pv 3) pa_nil)))) (pe_tup (pa_cons (pv 12) (pa_cons (pv 12) (pa_cons (pv 12) (pa_cons (pv 12) pa_nil))))) rfl)))))))))))))), ?_⟩
  have hR := gt.rect
  have m1 := gt.m1
  have n1 := gt.n1
  have m60 : m ≤ 60 := by omega
  have n60 : n ≤ 60 := by omega
  have m30 : m ≤ 30 := by omega
  have n30 : n ≤ 30 := by omega
  obtain ⟨c1, c2, cl⟩ := drop_mem m1 n1 (hmem c hc)
  have lr := ht.rows.length
  have lt := hR.1
  have g0 := gt.nn c.1 c1 c.2 c2
  have gr := gt.room c1 c2
  have lt0 : t.length ≤ 10000 := by omega
  obtain ⟨a0, r0, ha0, hr0, hx0⟩ := row_of ht (i := 0) (by omega)
  have hl0 := hR.2 r0 (List.mem_of_getElem? hr0)
  have a0s : a0 ≠ s := gs.2 a0 (List.mem_of_getElem? ha0)
  obtain ⟨va, rfl, hva⟩ := id hcv
  walk_at "go"
  refine lcAt_open (list_open ?_)
  walk_at "go"
  refine ⟨g, rfl, ⟨_, SqL.of ht.at_⟩, fun D hD => ?_⟩
  refine rows_new (fun r => r) ht lt0 hD (fun x => rfl) ?_ ?_
  · intro b r H1 e1 hr hb Q' q'
    walk_at "go"
    refine ⟨b, _, rfl, .inl (SqL.of hb), fun l1 hl1 => ?_⟩
    exact q' l1 _ hl1 (Same.new hl1 _) upd_same
  intro H1 rs1 e1 tab1 nd1 fr1
  rw [List.map_id'] at tab1
  walk_at "go"
  refine ⟨h, _, rfl, .inl (SqL.of (e1 _ _ hh)), fun pg hpg => ?_⟩
  have e2 := Same.new hpg (.lst ws)
  have hg2 : (upd H1 pg (.lst ws)) pg = some (.lst ws) := upd_same
  have pgr : ∀ r ∈ rs1, pg ≠ r := fun r hr z => by
    obtain ⟨row, hrow⟩ := paired_has tab1.rows hr
    have hrow : H1 r = some _ := hrow
    rw [← z, hpg] at hrow
    cases hrow
  have pgD : pg ≠ D := fun z => by
    have := tab1.at_
    rw [← z, hpg] at this
    cases this
  generalize upd H1 pg (.lst ws) = H2 at e2 hg2 ⊢
  have tab2 := tab1.same e2
  have e02 := e1.trans e2
  have pg0 : H pg = none := e1.free hpg
  have hid2 : ∀ H', Same H2 H' → HidIn K H' (.ref pg) hs m n := fun H' e => ⟨pg, ws, rfl, .inl (SqL.of (e _ _ hg2)), L2.Paired.mapP hw fun _ _ z => z.same (e02.trans e), hmem, hlen⟩
  walk_at "go"
  refine w_callN ?_
  walk_at "go"
  refine ⟨rfl, rfl, ?_⟩
  refine ⟨D, .ref pg, .ref va, rs1, t, m, n, hs, c, rfl, tab2.gt, hR, m1, n1, m60, n60, hid2 _ (Same.refl _), hcv.same e02, hc, g0, gr, fun _ _ H3 _ _ _ _ _ _ e3 _ _ _ _ _ _ _ _ _ _ _ _ _ => ?_⟩
  walk_at "go"
  refine w_callN ?_
  walk_at "go"
  refine ⟨rfl, rfl, ?_⟩
  refine ⟨D, .ref pg, .ref va, rs1, t, m, n, hs, c, rfl, (tab2.same e3).gt, hR, m1, n1, m30, n30, hid2 _ e3, hcv.same (e02.trans e3), hc, g0, gr, fun _ _ _ _ H4 _ _ e4 _ _ _ => ?_⟩
  have e24 := e3.trans e4
  have e04 := e02.trans e24
  have tab4 := tab2.same e24
  have hg4 := e24 _ _ hg2
  have sd4 := hs0.same e04
  walk_at "go"
  refine w_par ?_
  walk_at "go"
  refine ⟨g, _, rfl, .inl (SqL.of (e04 _ _ ht.at_)), ?_⟩
  rw [List.length_map, lr, lt]
  walk_at "go"
  refine ⟨s, (m : Int) - 1, rfl, sd4, by omega, by omega, fun k H5 hk b5 sd5 => ?_⟩
  walk_at "go"
  refine w_ixL (b5.at (e04 _ _ ht.at_) (by simpa using gs.1)) (ref_at ha0) ?_
  walk_at "go"
  refine ⟨a0, _, rfl, .inl (SqL.of (b5.at (e04 _ _ hx0) (by simpa using a0s))), ?_⟩
  rw [List.length_map, hl0]
  walk_at "go"
  refine ⟨s, (n : Int) - 1, rfl, sd5, by omega, by omega, fun j H6 hj b6 sd6 => ?_⟩
  have b46 := b5.trans b6
  have b06 := (BM.of e04).trans b46
  have Ds : D ≠ s := src_ne hs0.src hD
  have rss : ∀ r ∈ rs1, r ≠ s := fun r hr => src_ne hs0.src (fr1 r hr).1
  have pgs : pg ≠ s := src_ne hs0.src pg0
  have tab6 := tab4.bm b46 Ds rss
  have hg6 := b46.at hg4 (by simpa using pgs)
  have tk6 := tk_bm sd4 b46
  walk_at "go"
  refine ⟨_, _, rfl, ?_⟩
  dsimp only
  walk_at "go"
  refine list_open ?_
  walk_at "go"
  refine ⟨(by show 2 ≤ sizeLine; decide), fun q1 hq1 => ?_⟩
  have f1 := Same.new hq1 (.tup [V.int (k : Int), .int (j : Int)])
  have g1 : (upd H6 q1 (.tup [V.int (k : Int), .int (j : Int)])) q1 = some (.tup [.int (k : Int), .int (j : Int)]) := upd_same
  generalize upd H6 q1 (.tup [V.int (k : Int), .int (j : Int)]) = G1 at f1 g1 ⊢
  walk_at "go"
  refine ⟨_, rfl, ?_⟩
  walk_at "go"
  refine ⟨(by show 2 ≤ sizeLine; decide), fun q2 hq2 => ?_⟩
  have f2 := Same.new hq2 (.tup [V.int (k : Int), .int (-1)])
  have g2 : (upd G1 q2 (.tup [V.int (k : Int), .int (-1)])) q2 = some (.tup [.int (k : Int), .int (-1)]) := upd_same
  generalize upd G1 q2 (.tup [V.int (k : Int), .int (-1)]) = G2 at f2 g2 ⊢
  walk_at "go"
  refine ⟨_, rfl, ?_⟩
  walk_at "go"
  refine ⟨(by show 2 ≤ sizeLine; decide), fun q3 hq3 => ?_⟩
  have f3 := Same.new hq3 (.tup [V.int (-1), .int (j : Int)])
  have g3 : (upd G2 q3 (.tup [V.int (-1), .int (j : Int)])) q3 = some (.tup [.int (-1), .int (j : Int)]) := upd_same
  generalize upd G2 q3 (.tup [V.int (-1), .int (j : Int)]) = G3 at f3 g3 ⊢
  walk_at "go"
  refine ⟨_, rfl, ?_⟩
  walk_at "go"
  refine ⟨_, rfl, ?_⟩
  walk_at "go"
  refine ⟨(by show 2 ≤ sizeLine; decide), fun q4 hq4 => ?_⟩
  have f4 := Same.new hq4 (.tup [V.int (-1), .int (-1)])
  have g4 : (upd G3 q4 (.tup [V.int (-1), .int (-1)])) q4 = some (.tup [.int (-1), .int (-1)]) := upd_same
  generalize upd G3 q4 (.tup [V.int (-1), .int (-1)]) = G4 at f4 g4 ⊢
  walk_at "go"
  refine ⟨(by show 4 ≤ sizeLine; decide), fun pl hpl => ?_⟩
  have f5 := Same.new hpl (.lst [V.ref q1, .ref q2, .ref q3, .ref q4])
  have h7 : (upd G4 pl (.lst [V.ref q1, .ref q2, .ref q3, .ref q4])) pl = some (.lst [V.ref q1, .ref q2, .ref q3, .ref q4]) := upd_same
  have f14 := f1.trans (f2.trans (f3.trans f4))
  have plr : ∀ r ∈ rs1, pl ≠ r := fun r hr z => by
    obtain ⟨row, hrow⟩ := paired_has (tab6.same f14).rows hr
    have hrow : G4 r = some _ := hrow
    rw [← z, hpl] at hrow
    cases hrow
  have e67 := f14.trans f5
  generalize upd G4 pl (.lst [V.ref q1, .ref q2, .ref q3, .ref q4]) = H7 at f5 h7 e67 ⊢
  have items : Paired (PosAt m n H7) [V.ref q1, .ref q2, .ref q3, .ref q4] (plusF m n k j) :=
    .cons ⟨q1, _, _, rfl, (f2.trans (f3.trans (f4.trans f5))) _ _ g1, .inl rfl, .inl rfl, by show k < m; omega, by show j < n; omega⟩
      (.cons ⟨q2, _, _, rfl, (f3.trans (f4.trans f5)) _ _ g2, .inl rfl, .inr ⟨rfl, by show n - 1 + 1 = n; omega⟩, by show k < m; omega, by show n - 1 < n; omega⟩
      (.cons ⟨q3, _, _, rfl, (f4.trans f5) _ _ g3, .inr ⟨rfl, by show m - 1 + 1 = m; omega⟩, .inl rfl, by show m - 1 < m; omega, by show j < n; omega⟩
      (.cons ⟨q4, _, _, rfl, f5 _ _ g4, .inr ⟨rfl, by show m - 1 + 1 = m; omega⟩, .inr ⟨rfl, by show n - 1 + 1 = n; omega⟩, by show m - 1 < m; omega, by show n - 1 < n; omega⟩ .nil)))
  clear f1 f2 f3 f4 g1 g2 g3 g4 f14 f5 hpl hq1 hq2 hq3 hq4
  generalize [V.ref q1, .ref q2, .ref q3, .ref q4] = xs at h7 items ⊢
  have tab7 := tab6.same e67
  have hg7 := e67 _ _ hg6
  have sd7 := sd6.same e67
  have b07 := b06.same e67
  have hva7 := e67 _ _ (tk6 _ _ (e04 _ _ hva))
  have hw7 : Paired (CellAt H7) ws hs := L2.Paired.mapP hw fun _ _ z => ((z.same e04).tk tk6).same e67
  have ht7 : Tab H7 g rs t := ((ht.same e04).bm b46 gs.1 gs.2).same e67
  have hh7 : H7 h = some (.lst ws) := e67 _ _ (b46.at (e04 _ _ hh) (by simpa using hns))
  have gD : ∀ r ∈ rs1, g ≠ r := fun r hr z => by
    have := (fr1 r hr).1
    rw [← z, ht.at_] at this
    cases this
  have gR : ∀ r ∈ rs1, ∀ q ∈ rs, q ≠ r := fun r hr q hq z => by
    obtain ⟨row, hrow⟩ := paired_has ht.rows hq
    have hrow : H q = some _ := hrow
    rw [z, (fr1 r hr).1] at hrow
    cases hrow
  have hR1 : ∀ r ∈ rs1, h ≠ r := fun r hr z => by
    have := (fr1 r hr).1
    rw [← z, hh] at this
    cases this
  have M7 : Mine s H H7 D rs1 t m n := ⟨tab7, hR, nd1, fun z => (fr1 D z).2 rfl, fun r hr => (fr1 r hr).1, hD, b07, sd7.src, hs0.src⟩
  refine ⟨pl, rfl, ⟨_, SqL.of h7⟩, ?_⟩
  refine for_list (xs := xs) (fun (i : Nat) σ H' => ∃ (o8 o9 : Option V), σ = [some (.ref s), some (.ref g), some (.ref h), some (.ref va), some (.ref D), some (.ref pg), some (.int (k : Int)), some (.int (j : Int)), o8, o9, none, none, none, none] ∧
      Mine s H H' D rs1 (moreF t ((plusF m n k j).take i)) m n ∧ Sd H' s ∧ Tk H7 H' ∧ H' pg = some (.lst ws) ∧ H' pl = some (.lst xs) ∧ Tab H' g rs t ∧ H' h = some (.lst ws))
    ⟨none, none, rfl, M7, sd7, Tk.refl _, hg7, h7, ht7, hh7⟩ (fun i σ H' _ ⟨_, _, _, _, _, _, _, hp, _⟩ => SqL.of hp) ?_ ?_
  · rintro i x σ H' hx ⟨o8, o9, rfl, M, sd, tk, hg, hp, htg, hhg⟩
    obtain ⟨q, hq, hxq⟩ := K3.Paired.get items hx
    obtain ⟨a, x1, y1, rfl, ha, hx1, hy1, c1', c2'⟩ := hxq.tk tk
    have tk1 : (plusF m n k j).take (i + 1) = (plusF m n k j).take i ++ [q] := by rw [List.take_add_one, hq]; rfl
    have mo := more_snoc t ((plusF m n k j).take i) q
    rw [← tk1] at mo
    generalize moreF t ((plusF m n k j).take (i + 1)) = u2 at mo ⊢
    generalize moreF t ((plusF m n k j).take i) = u at mo M ⊢
    subst mo
    obtain ⟨ar, r, har, hr', hxr⟩ := row_of M.tab (i := q.1) (by rw [M.rect.1]; exact c1')
    have lrr : r.length = n := M.rect.2 r (List.mem_of_getElem? hr')
    have lrs : rs1.length = m := by rw [M.tab.rows.length, M.rect.1]
    have ai : atI (rs1.map V.ref) x1 = some (.ref ar) := atI_any (by rw [List.length_map, lrs]; exact hx1) (by rw [List.getElem?_map, har]; rfl)
    have ri : ixN (r.map V.int).length y1 = some q.2 := ixN_any (by rw [List.length_map, lrr]; exact hy1) (by rw [List.length_map, lrr]; exact c2')
    have rv : atI (r.map V.int) y1 = some (.int (r.getD q.2 0)) := by
      unfold atI
      rw [ri]
      have := at_getD (r := r) (c := q.2) (by omega)
      unfold atI at this
      rw [ixN_any (.inl rfl) (by rw [List.length_map, lrr]; exact c2')] at this
      exact this
    refine w_gtup (SqT.of ha) rfl (w_gnn ?_)
    dsimp only
    walk_at "go"
    refine w_ixL M.tab.at_ ai ?_
    walk_at "go"
    refine w_ixL hxr rv ?_
    walk_at "go"
    refine w_ixL M.tab.at_ ai ?_
    walk_at "go"
    refine w_setL hxr ri ?_
    have mem : ar ∈ rs1 := List.mem_of_getElem? har
    have put := M.put har hr' (j := q.2) (r.getD q.2 0 + 1)
    have hadd : u.set q.1 (r.set q.2 (r.getD q.2 0 + 1)) = addAt u q 1 := by
      have : u.getD q.1 [] = r := by
        rw [List.getD_eq_getElem?_getD, hr']
        rfl
      unfold addAt
      rw [at2_of hr', this]
    rw [hadd] at put
    have hset : (r.map V.int).set q.2 (V.int (r.getD q.2 0 + 1)) = (r.set q.2 (r.getD q.2 0 + 1)).map V.int := by rw [List.map_set]
    rw [hset]
    exact ⟨_, _, rfl, put, sd.upd (rss ar mem) _, tk.trans (Tk.upd hxr fun xs e => by cases e), by rw [upd_ne (pgr ar mem)]; exact hg, by rw [upd_ne (plr ar mem)]; exact hp, htg.updNe (gD ar mem) (gR ar mem) _, by rw [upd_ne (hR1 ar mem)]; exact hhg⟩
  rintro σ H8 ⟨o8, o9, rfl, M, sd8, tk8, hg8, hp8, htg8, hh8⟩
  have lx : xs.length = 4 := items.length
  rw [lx, show (plusF m n k j).take 4 = plusF m n k j from rfl] at M
  obtain ⟨gu, nu⟩ := plus_grid gt (k := k) (j := j) (by omega) (by omega)
  generalize moreF t (plusF m n k j) = u at M gu nu
  have hva8 := tk8 _ _ hva7
  have hw8 : Paired (CellAt H8) ws hs := L2.Paired.mapP hw7 fun _ _ z => z.tk tk8
  have u0 : u.length ≤ 10000 := by rw [M.rect.1]; omega
  have tabM := M.tab
  walk_at "go"
  refine lcAt_open (list_open ?_)
  walk_at "go"
  refine ⟨D, rfl, ⟨_, SqL.of tabM.at_⟩, fun D2 hD2 => ?_⟩
  refine rows_new (fun r => r) tabM u0 hD2 (fun x => rfl) ?_ ?_
  · intro b r H1 e1 hr hb Q' q'
    walk_at "go"
    refine ⟨b, _, rfl, .inl (SqL.of hb), fun l1 hl1 => ?_⟩
    exact q' l1 _ hl1 (Same.new hl1 _) upd_same
  intro H9 rs2 e9 tab9 nd2 fr2
  rw [List.map_id'] at tab9
  have D2g : D2 ≠ pg := fun z => by rw [z, hg8] at hD2; cases hD2
  have rs2g : ∀ r ∈ rs2, r ≠ pg := fun r hr z => by
    have := (fr2 r hr).1
    rw [z, hg8] at this
    cases this
  walk_at "go"
  refine ⟨h, _, rfl, .inl ⟨SqL.of (e9 _ _ hh8), fun th hth => ?_⟩⟩
  have e10 := Same.new hth (.tup ws)
  have h10 : (upd H9 th (.tup ws)) th = some (.tup ws) := upd_same
  generalize upd H9 th (.tup ws) = H10 at e10 h10 ⊢
  have e810 := e9.trans e10
  have cv8 : ∀ H', Same H8 H' → CellAt H' (.ref va) c := fun H' e => ⟨va, rfl, e _ _ hva8⟩
  walk_at "go"
  refine ⟨D2, .ref th, .ref va, rs2, u, m, n, hs, c, rfl, (tab9.same e10).gt, gu, m30, n30, ⟨th, ws, rfl, .inr (SqT.of h10), L2.Paired.mapP hw8 fun _ _ z => z.same e810, hmem, hlen⟩, cv8 _ e810, hc, fun a11 H11 lo1 hi1 ex1 e11 ha11 => ?_⟩
  have e811 := e810.trans e11
  have hid8 : ∀ H', Same H8 H' → HidIn K H' (.ref pg) hs m n := fun H' e => ⟨pg, ws, rfl, .inl (SqL.of (e _ _ hg8)), L2.Paired.mapP hw8 fun _ _ z => z.same e, hmem, hlen⟩
  walk_at "go"
  refine ⟨D, .ref pg, .ref va, rs1, u, m, n, hs, c, rfl, (tabM.same e811).gt, gu, m30, n30, hid8 _ e811, cv8 _ e811, hc, fun a12 H12 lo2 hi2 ex2 e12 ha12 => ?_⟩
  obtain ⟨rfl, rfl⟩ := ext_one ex1 ex2
  have okk4 : ∀ lo hi lo' hi' : Int, SeqAt.shaped (.tuple [PyData.int lo, .int hi, .int lo', .int hi']) = true ∧ PyData.eqv (.tuple [.int lo, .int hi, .int lo', .int hi']) (.tuple [.int lo, .int hi, .int lo', .int hi']) = true := fun lo hi lo' hi' => ints_ok [lo, hi, lo', hi'] (by simp)
  have dp4 : ∀ {H' : Hp} {p : Addr} {lo hi lo' hi' : Int}, H' p = some (.tup [V.int lo, .int hi, .int lo', .int hi']) → Dp K H' (.ref p) (.tuple [.int lo, .int hi, .int lo', .int hi']) := fun h => Dp.tup (SqT.of h) (.cons (.int _) (.cons (.int _) (.cons (.int _) (.cons (.int _) .nil))))
  walk_at "go"
  refine ⟨_, _, dp4 ha12, dp4 (e12 _ _ ha11), (okk4 _ _ _ _).1, (okk4 _ _ _ _).1, ?_⟩
  rw [(okk4 _ _ _ _).2]
  have e812 := e811.trans e12
  walk_at "go"
  have tab12 := (tab9.same e10).same (e11.trans e12)
  refine ⟨D, D2, .ref pg, rs1, rs2, u, u, m, n, m, n, hs, rfl, (tabM.same e812).gt, M.rect, m1, n1, m60, n60, hid8 _ e812, tab12.gt, M.rect, m1, n1, m60, n60, fun b13 H13 e13 hb13 => ?_⟩
  rw [hb13.mpr (grid_fit gu hs)]
  have e813 := e812.trans e13
  walk_at "go"
  refine ⟨Nat.zero_le _, fun pe hpe => ?_⟩
  have e14 := Same.new hpe (.lst [])
  have h14 : (upd H13 pe (.lst [])) pe = some (.lst []) := upd_same
  generalize upd H13 pe (.lst []) = H14 at e14 h14 ⊢
  have e814 := e813.trans e14
  walk_at "go"
  refine ⟨D, g, .ref pe, rs1, rs, u, t, m, n, m, n, [], rfl, (tabM.same e814).gt, M.rect, m1, n1, m60, n60, ⟨pe, [], rfl, .inl (SqL.of h14), .nil, fun k hk => (by cases hk), Nat.zero_le _⟩, (htg8.same e814).gt, hR, m1, n1, m60, n60, fun b15 H15 e15 hb15 => ?_⟩
  have nb : b15 = false := by
    rw [← Bool.not_eq_true, hb15]
    exact fun z => nu (z.2.2.2 k (by omega) j (by omega) (by simp)).symm
  rw [nb]
  have e815 := e814.trans e15
  walk_at "go"
  refine ⟨_, rfl, .inl ⟨rfl, _, SqL.of (e815 _ _ hg8)⟩, ?_⟩
  refine ⟨pg, _, rfl, rfl, e815 _ _ hg8, ?_⟩
  have k16 : Tk H15 (upd H15 pg (.lst [])) := Tk.upd (e815 _ _ hg8) fun xs e => by cases e
  have h16 : (upd H15 pg (.lst [])) pg = some (.lst []) := upd_same
  have a16 := (tabM.same e815).updNe pgD.symm (fun r hr z => pgr r hr z.symm) (.lst [])
  have t16 := (tab12.same (e13.trans (e14.trans e15))).updNe D2g rs2g (.lst [])
  have s16 := (sd8.same e815).upd pgs (.lst [])
  have b16 := (M.bm.same e815).mut (o := .lst []) pg0
  generalize upd H15 pg (.lst []) = H16 at k16 h16 a16 t16 s16 b16 ⊢
  walk_at "go"
  refine ⟨_, rfl, .inl ⟨rfl, _, SqL.of h16⟩, ?_⟩
  walk_at "go"
  refine ⟨pg, [], _, rfl, rfl, h16, Nat.lt_of_lt_of_le (show 0 < 1 by decide) (by decide), ?_⟩
  have k17 : Tk H16 (upd H16 pg (.lst ([] ++ [V.ref va]))) := Tk.upd h16 fun xs e => by cases e
  have h17 : (upd H16 pg (.lst ([] ++ [V.ref va]))) pg = some (.lst [V.ref va]) := upd_same
  have a17 := a16.updNe pgD.symm (fun r hr z => pgr r hr z.symm) (.lst ([] ++ [V.ref va]))
  have t17 := t16.updNe D2g rs2g (.lst ([] ++ [V.ref va]))
  have s17 := s16.upd pgs (.lst ([] ++ [V.ref va]))
  have b17 := b16.mut (o := .lst ([] ++ [V.ref va])) pg0
  generalize upd H16 pg (.lst ([] ++ [V.ref va])) = H17 at k17 h17 a17 t17 s17 b17 ⊢
  have hva17 := k17 _ _ (k16 _ _ (e815 _ _ hva8))
  obtain ⟨ar, r, har, hr', hxr⟩ := row_of t17 (i := c.1) (by rw [M.rect.1]; exact c1)
  have lrr : r.length = n := M.rect.2 r (List.mem_of_getElem? hr')
  walk_at "go"
  refine w_ixT (SqT.of hva17) rfl ?_
  walk_at "go"
  refine w_ixL t17.at_ (ref_at har) ?_
  walk_at "go"
  refine w_ixT (SqT.of hva17) rfl ?_
  walk_at "go"
  refine w_ixL hxr (at_getD (by omega)) ?_
  rw [← at2_of hr']
  walk_at "go"
  refine ⟨D, .ref pg, .ref va, rs1, u, m, n, [c], c, rfl, a17.gt, gu, m30, n30, ⟨pg, [.ref va], rfl, .inl (SqL.of h17), .cons ⟨va, rfl, hva17⟩ .nil, fun k hk => by rw [List.mem_singleton.mp hk]; exact hmem c hc, by show 1 ≤ 60; decide⟩, ⟨va, rfl, hva17⟩, List.mem_singleton.mpr rfl, fun a18 H18 lo3 hi3 ex3 e18 ha18 => ?_⟩
  obtain ⟨rfl, rfl⟩ := ext_single gu c1 c2 ex3
  walk_at "go"
  refine ⟨(by show 4 ≤ sizeLine; decide), fun p19 hp19 => ?_⟩
  have e19 := Same.new hp19 (.tup [V.int (at2 u c.1 c.2), .int (at2 u c.1 c.2), .int (at2 u c.1 c.2), .int (at2 u c.1 c.2)])
  refine ⟨_, _, dp4 (e19 _ _ ha18), dp4 upd_same, (okk4 _ _ _ _).1, (okk4 _ _ _ _).1, ?_⟩
  rw [(okk4 _ _ _ _).2]
  exact ok _ (b17.same (e18.trans e19)) (s17.same (e18.trans e19))
end
end K3
end L18_part
section L19_part
set_option Elab.async false
set_option linter.all false
set_option maxRecDepth 100000
set_option maxHeartbeats 1000000
set_option pp.deepTerms.threshold 5
open PySem PySem.Spec PyProof.Rows L2
/-- go on as far as nothing is open -/
local macro_rules | `(tactic| walk_at "go") => `(tactic| repeat (first
  | with_reducible refine w_seq ?_ | with_reducible refine w_next ?_ | with_reducible refine w_set ?_ | with_reducible refine w_drop ?_ | with_reducible refine w_ret ?_ | with_reducible refine w_retN ?_
  | with_reducible refine w_if ?_ | ((with_reducible refine' w_var ?hv ?_); (case hv => exact rfl)) | with_reducible refine w_c ?_ | with_reducible refine w_nil ?_ | with_reducible refine w_cons ?_ | with_reducible refine w_op ?_ | with_reducible refine w_un ?_
  | with_reducible refine w_test ?_ | with_reducible refine w_tB ?_ | with_reducible refine w_not ?_ | with_reducible refine w_and ?_ | with_reducible refine w_or ?_ | with_reducible refine w_bl ?_
  | with_reducible refine w_andV ?_ | with_reducible refine w_orV ?_ | with_reducible refine w_notV ?_ | with_reducible refine w_ifE ?_ | with_reducible refine w_chain ?_ | with_reducible refine w_i0 ?_
  | with_reducible refine w_call ?_ | with_reducible refine w_callS ?_ | with_reducible refine w_cB ?_ | with_reducible refine w_tup ?_ | with_reducible refine w_lst ?_ | with_reducible refine w_fldV ?_
  | with_reducible refine w_neF ?_ | with_reducible refine w_neT ?_ | with_reducible refine w_notN ?_ | with_reducible refine w_isN ?_ | with_reducible refine w_gname ?_ | with_reducible refine w_gsub ?_ | with_reducible refine w_asg ?_ | with_reducible refine w_sl ?_ | with_reducible refine w_noP ?_ | with_reducible refine w_int1 ?_ | with_reducible refine w_part ?_ | with_reducible refine w_yes ?_ | with_reducible refine w_nT ?_ | with_reducible refine w_nF ?_ | with_reducible refine w_iteT ?_ | with_reducible refine w_iteF ?_))
namespace K3
/-! ### two lists put together, whatever they are -/
def rCatL (K : PySem.W.Frag) : R2 := fun x y H Q => ∃ a b xs ys, x = .ref a ∧ y = .ref b ∧ SqL K H a xs ∧ SqL K H b ys ∧ xs.length + ys.length ≤ sizeLine ∧ ∀ p, H p = none → Q (.ref p) (upd H p (.lst (xs ++ ys)))
theorem op_catL {X : Cx} : OpR X (binaryOp .Add) (rCatL X.K) := by
  intro pins s σ H x y v u Q I rx ry ⟨a, b, xs, ys, ex, ey, ha, hb, hz, q⟩
  subst ex ey
  cases rx
  cases ry
  obtain ⟨is, r1, ⟨⟨c1, d1, t1, sl1⟩, n1, g1, hc1, _, hd1⟩, _⟩ := I.list ha
  obtain ⟨js, r2, ⟨⟨c2, d2, t2, sl2⟩, n2, g2, hc2, _, hd2⟩, _⟩ := I.list hb
  simp only at hc1 hd1 hc2 hd2
  subst hc1 hd1 hc2 hd2
  have hs : is.toArray.size + js.toArray.size ≤ sizeLine := by rw [List.size_toArray, List.size_toArray, ← r1.length, ← r2.length]; exact hz
  refine concat_meets ⟨_, g1, rfl⟩ ⟨_, g2, rfl⟩ noFill_list_add seq_list_add PySem.F.slot_list_add PySem.F.entry_list_add (PySem.F.args_list_add_2 _ _) (list_addW a b is.toArray js.toArray n1 n2 d1 d2 sl1 sl2 hs) ⟨g1, g2, ?_⟩
  rw [show is.toArray ++ js.toArray = (is ++ js).toArray by simp]
  exact ⟨.ref _, _, I.lnew (t' := s.toks) (r1.append r2) (by rw [List.length_append]; exact hz), rfl, q _ I.fresh⟩
/-! ### sorted(set(..)) of a list of cells -/
theorem sorted_cells {K : PySem.W.Frag} {P : Program} {w : World} {H : Hp} {ws : List V} {hs : List (Nat × Nat)} {m n : Nat} (m1 : 1 ≤ m) (n1 : 1 ≤ n) (m2 : m ≤ 60) (n2 : n ≤ 60) (hw : Paired (CellAt H) ws hs) (hmem : ∀ c ∈ hs, c ∈ (cellsOf m n).dropLast) (hlen : hs.length ≤ 60) :
    ∃ ks : List (Addr × List Int), ws = ks.map (fun p => V.ref p.1) ∧ (∀ p ∈ ks, SqT K H p.1 (p.2.map V.int)) ∧ ks.length ≤ 60 ∧ ∀ (a : Addr) (L : List (Addr × List Int)) (Q : VK), H a = none → (∀ p ∈ L, p ∈ ks) → (∀ p ∈ ks, p.2 ∈ L.map (·.2)) →
      (∀ p' H' ws' hs', Same H H' → H' p' = some (.lst ws') → Paired (CellAt H') ws' hs' → (∀ c, c ∈ hs' ↔ c ∈ hs) → hs'.length ≤ 60 → Q (.ref p') H') → rSortedT K P w [.ref a] (upd H a (SetTO P w a L)) Q := by
  obtain ⟨ks, k1, k2, k3, k4⟩ := hid_keys hw
  have hk : ∀ p ∈ ks, SqT K H p.1 (p.2.map V.int) := fun p hp => by
    obtain ⟨c, _, _, ha⟩ := k2 p hp
    exact SqT.of ha
  refine ⟨ks, k1, hk, by omega, fun a L Q ha hs1 hs2 q => ?_⟩
  have e2 := Same.new ha (SetTO P w a L)
  have kb : ∀ p ∈ L, ∃ c ∈ hs, p.2 = [(c.1 : Int), (c.2 : Int)] ∧ H p.1 = some (.tup (p.2.map V.int)) := fun p hp => k2 p (hs1 p hp)
  refine ⟨a, L, 2, 64, rfl, upd_same, fun p hp => e2.sqt (hk p (hs1 p hp)), by decide, fun p hp => ?_, fun L' p' pm nd few pw hp' => ?_⟩
  · obtain ⟨c, hc, e, _⟩ := kb p hp
    obtain ⟨c1, c2, _⟩ := drop_mem m1 n1 (hmem c hc)
    rw [e]
    refine ⟨rfl, fun z hz => ?_⟩
    simp only [List.mem_cons, List.not_mem_nil, or_false] at hz
    rcases hz with rfl | rfl <;> omega
  · have e3 := Same.new hp' (.lst (L'.map fun q => V.ref q.1))
    have e23 := e2.trans e3
    obtain ⟨hs', h1, h2, h3, h4⟩ := keys_hid (H := upd (upd H a (SetTO P w a L)) p' (.lst (L'.map fun q => V.ref q.1))) (hs := hs) (L := L') fun q hq => by
      obtain ⟨c, hc, e, hx⟩ := kb q (pm.mem_iff.mp hq)
      exact ⟨c, hc, e, e23 _ _ hx⟩
    refine q p' _ _ hs' e23 upd_same h1 (fun c => ?_) ?_
    · rw [h2]
      refine ⟨fun z => z.1, fun z => ⟨z, ?_⟩⟩
      obtain ⟨x, hx, e⟩ := k3 c z
      rw [← e, (pm.map (·.2)).mem_iff]
      exact hs2 x hx
    · have l1 := pm.length_eq
      have sub : L'.length ≤ 60 := by
        have nd2 : (hs'.map fun c => [(c.1 : Int), (c.2 : Int)]).Nodup := by rw [h4]; exact nd
        have nd3 : hs'.Nodup := (List.pairwise_map.mp nd2).imp fun h e => h (by rw [e])
        have := nodup_len nd3 (k := hs) fun x hx => ((h2 x).mp hx).1
        omega
      omega
theorem Sd.ne_tup {H : Hp} {s x : Addr} {zs : List V} (h : Sd H s) (hx : H x = some (.tup zs)) : x ≠ s := fun z => by
  obtain ⟨a, b, c, hs, _⟩ := h
  rw [z, hs] at hx
  cases hx
theorem w_enum {K : PySem.W.Frag} {ta : TA} {σ : L2.St} {H : Hp} {R : It → Hp → Prop} (h : ta σ H fun vs H1 => ∃ a xs, vs = [.ref a] ∧ SqL K H1 a xs ∧ R (Ite K a) H1) : iEnum K ta σ H R := h
theorem one_more (r : Nat) : (1 : Int) + (r : Int) = ((r + 1 : Nat) : Int) := by omega
section
variable {P : Program} {w : World} {K : PySem.W.Frag} {mg : Str → Option Value} {base : Heap}
theorem sc_law : FnScope ["_law_script", "_law_turn", "_law_number", "_law_s", "_law_tall", "_law_wide", "_law_is_great", "_law_grid", "_law_hidden_here", "_law_some", "_law_at", "_law_place"] ["_law_script"] (defScope s_law) := ⟨rfl, rfl, rfl, by decide +kernel, rfl, by decide +kernel, by decide +kernel⟩
set_option maxHeartbeats 0
theorem ok_law (T : Tx K mg) {fd : FuncData} (F : FunD K "law" "law" (defArgs s_law) (defBody s_law) (defScope s_law) [] [] (He.ga K "law") fd) : FnOk P w K mg base L2.CX0 11 (He.ga K "law") fd ["_law_script"] (spLaw K) := by
  have O_law_digit := ok_digit (P := P) (w := w) (base := base) T
  have O_law_changed_right := ok_changed_right (P := P) (w := w) (base := base) T
  have O_law_right := ok_right (P := P) (w := w) (base := base) T
  have O_law_hidden := ok_hidden (P := P) (w := w) (base := base) T
  have O_law_drawn_grid := ok_drawn_grid (P := P) (w := w) (base := base) T
  have O_law_state := ok_state (P := P) (w := w) (base := base) T
  refine F.ok (k := 10) sc_law (fun vs H Q E h => ?_) (fun cdv A outer s_ H vs Q E hr h => ?_)
  · obtain ⟨a, ns, rfl, _⟩ := h
    rfl
  obtain ⟨a, ns, rfl, hns, h63, q⟩ := h
  have hu65 := K3.Room.units65 hr
  have hu64 := Nat.lt_of_succ_lt hu65
  have r_law_digit : Room 1 _ := hr.mono (by decide)
  have r_law_changed_right : Room 10 _ := hr.mono (by decide)
  have r_law_right : Room 10 _ := hr.mono (by decide)
  have r_law_hidden : Room 2 _ := hr.mono (by decide)
  have r_law_drawn_grid : Room 2 _ := hr.mono (by decide)
  have r_law_state : Room 1 _ := hr.mono (by decide)
  refine ⟨_, pss_cons (ps_for (passes_of rfl) (by rfl) (pi_enum (by rfl) T.z_enumerate (pa_cons (pe_slice sl_list (pe_op op_catL (pv 0) (pe_lst (pa_cons pe_int pa_nil))) po_none (po_some pe_int)) pa_nil)) (pg_tup (by rfl) (pgs_cons (pg_name (i := 1) sc_law.nd rfl (Or.inl rfl)) (pgs_cons (pg_name (i := 2) sc_law.nd rfl (Or.inl rfl)) pgs_nil))) (pss_cons (ps_set (i := 3) sc_law.nd rfl (Or.inl rfl) (pe_f O_law_state r_law_state T.g__law_state (pa_cons (pv 2) pa_nil)))
      (pss_cons (ps_par (by rfl) sc_law.nd (i := 4) (j := 5) rfl rfl (by decide) rfl rfl (pa_cons (pe_op op_add pe_int (pe_f O_law_digit r_law_digit T.g__law_digit (pa_cons (pv 3) (pa_cons pe_int pa_nil)))) (pa_cons (pe_op op_add pe_int (pe_f O_law_digit r_law_digit T.g__law_digit (pa_cons (pv 3) (pa_cons pe_int pa_nil)))) pa_nil)) (by rfl))
      (Evl.pss_cut (ps_set (i := 6) sc_law.nd rfl (Or.inl rfl) (pe_and (pe_cmpR op_eq (pv 1) pe_int rfl) (pe_one (pe_cmpR op_eq (pe_f O_law_digit r_law_digit T.g__law_digit (pa_cons (pv 3) (pa_cons pe_int pa_nil))) pe_int rfl))))
      (Evl.pss_cut (ps_if (pt_val (pv 6)) (pss_one (ps_asg (pe_ix ix_list (pe_lst (pa_cons (pe_tup (pa_cons pe_int (pa_cons pe_int pa_nil))) (pa_cons (pe_tup (pa_cons pe_int (pa_cons pe_int pa_nil))) (pa_cons (pe_tup (pa_cons pe_int (pa_cons pe_int pa_nil))) (pa_cons (pe_tup (pa_cons pe_int (pa_cons pe_int pa_nil))) pa_nil))))) (pe_f O_law_digit r_law_digit T.g__law_digit (pa_cons (pv 3) (pa_cons pe_int pa_nil))) (fun _ _ => rfl)) (pg_tup (by rfl) (pgs_cons (pg_name (i := 4) sc_law.nd rfl (Or.inl rfl)) (pgs_cons (pg_name (i := 5) sc_law.nd rfl (Or.inl rfl)) pgs_nil))))) pss_nil)
      (pss_cons (ps_set (i := 7) sc_law.nd rfl (Or.inl rfl) (pe_f O_law_drawn_grid r_law_drawn_grid T.g__law_drawn_grid (pa_cons (pv 3) (pa_cons (pv 4) (pa_cons (pv 5) (pa_cons (pe_ix ix_list (pe_lst (pa_cons pe_int (pa_cons pe_int (pa_cons pe_int (pa_cons (pe_op op_pow pe_int pe_int) pa_nil))))) (pe_f O_law_digit r_law_digit T.g__law_digit (pa_cons (pv 3) (pa_cons pe_int pa_nil))) (fun _ _ => rfl)) pa_nil))))))
      (pss_cons (ps_set (i := 8) sc_law.nd rfl (Or.inl rfl) (pe_f O_law_hidden r_law_hidden T.g__law_hidden (pa_cons (pv 3) (pa_cons (pv 7) (pa_cons (pe_op op_add pe_int (pe_f O_law_digit r_law_digit T.g__law_digit (pa_cons (pv 3) (pa_cons pe_int pa_nil)))) pa_nil)))))
      (pss_cons (ps_set (i := 9) sc_law.nd rfl (Or.inl rfl) (pe_callB (cr_sortedT (by rfl)) (by rfl) T.z_sorted (by decide +kernel) (pa_cons (pe_callTy (cr_setOfT (by rfl) hu64) (by rfl) T.z_set (by decide +kernel) (pa_cons (pv 8) pa_nil)) pa_nil)))
      (pss_cons (ps_set (i := 10) sc_law.nd rfl (Or.inl rfl) (pe_f O_law_digit r_law_digit T.g__law_digit (pa_cons (pv 3) (pa_cons (pe_callB call_len_seq (by rfl) T.z_len PySem.boot_len (pa_cons (pv 9) pa_nil)) pa_nil))))
      (pss_cons (ps_for (passes_of rfl) (by rfl) (pi_list (pe_slice sl_list (pe_op op_cat (pe_slice sl_list (pv 9) (po_some (pv 10)) po_none) (pe_slice sl_list (pv 9) po_none (po_some (pv 10)))) po_none (po_some (pe_op op_sub pe_int (pe_op op_mul pe_int (pe_callTy call_int1 (by rfl) T.z_int (by decide +kernel) (pa_cons (pv 6) pa_nil))))))) (pg_name (i := 11) sc_law.nd rfl (Or.inl rfl)) (pss_one (ps_if (pt_not (pt_val (pe_f O_law_right r_law_right T.g__law_right (pa_cons (pv 3) (pa_cons (pv 7) (pa_cons (pv 8) (pa_cons (pv 11) pa_nil))))))) (pss_one (ps_ret pe_bl)) pss_nil)))
      (pss_one (ps_if (pt_not (pt_val (pe_f O_law_changed_right r_law_changed_right T.g__law_changed_right (pa_cons (pv 3) (pa_cons (pv 7) (pa_cons (pv 8) (pa_cons (pe_ix ix_list (pv 9) (pv 10) (fun _ _ => rfl)) pa_nil))))))) (pss_one (ps_ret pe_bl)) pss_nil))))))))))))
      (pss_one (ps_ret pe_bl)), ?_⟩
  walk_at "go"
  refine w_enum ?_
  walk_at "go"
  refine ⟨(by show 1 ≤ sizeLine; decide), fun p1 hp1 => ?_⟩
  have e1 := Same.new hp1 (.lst [V.int 0])
  refine ⟨a, p1, _, _, rfl, rfl, e1.seq hns, SqL.of upd_same, Nat.le_trans (show (ns.map V.int).length + 1 ≤ 64 by rw [List.length_map]; omega) (by decide), fun p2 hp2 => ?_⟩
  walk_at "go"
  refine ⟨p2, _, rfl, SqL.of upd_same, fun p3 hp3 => ?_⟩
  have hx2 : ∀ x ∈ cutV (ns.map V.int ++ [V.int 0]) none (some 3), ∃ c, x = V.int c := fun x hx => by
    rcases List.mem_append.mp (cut_mem hx) with hx | hx
    · obtain ⟨c, _, rfl⟩ := List.mem_map.mp hx
      exact ⟨c, rfl⟩
    · exact ⟨0, List.mem_singleton.mp hx⟩
  generalize cutV (ns.map V.int ++ [V.int 0]) none (some 3) = cells at hp3 hx2 ⊢
  have h3 : (upd (upd (upd H p1 (.lst [V.int 0])) p2 (.lst (ns.map V.int ++ [V.int 0]))) p3 (.lst cells)) p3 = some (.lst cells) := upd_same
  generalize upd (upd (upd H p1 (.lst [V.int 0])) p2 (.lst (ns.map V.int ++ [V.int 0]))) p3 (.lst cells) = H0 at h3 ⊢
  clear e1 hns hp3 hp2 hp1
  refine ⟨p3, _, rfl, SqL.of h3, ?_⟩
  refine for_it (walk_enum (K := K) (a := p3) (xs := cells)) (fun (i : Nat) σ H' => ∃ o1 o2 o3 o4 o5 o6 o7 o8 o9 o10 o11 : Option V, σ = [some (.ref a), o1, o2, o3, o4, o5, o6, o7, o8, o9, o10, o11] ∧ Same H0 H')
    ⟨none, none, none, none, none, none, none, none, none, none, none, rfl, Same.refl _⟩ (fun i σ H' _ ⟨_, _, _, _, _, _, _, _, _, _, _, _, e⟩ => SqL.of (e _ _ h3)) ?_ ?_
  · rintro i x σ H1' H1 hi ⟨o1, o2, o3, o4, o5, o6, o7, o8, o9, o10, o11, rfl, e0⟩ hy
    obtain ⟨TT, x1, x2, rfl, hT1, rfl, hf, hxi⟩ := hy
    obtain rfl := Option.some.inj hf
    obtain ⟨c, rfl⟩ := hx2 x2 (List.mem_of_getElem? hxi)
    have eT := Same.new hT1 (.tup [V.int ((i : Nat) : Int), .int c])
    have gT : (upd H1' TT (.tup [V.int ((i : Nat) : Int), .int c])) TT = some (.tup [V.int ((i : Nat) : Int), .int c]) := upd_same
    generalize upd H1' TT (.tup [V.int ((i : Nat) : Int), .int c]) = H1 at eT gT ⊢
    have e1 := e0.trans eT
    refine w_gtup (SqT.of gT) rfl (w_gnn ?_)
    dsimp only
    walk_at "go"
    refine ⟨c, rfl, fun s H2 hs1 e2 s2 => ?_⟩
    walk_at "go"
    refine w_par ?_
    walk_at "go"
    refine ⟨s, 3, rfl, s2, by decide, by decide, fun r1 H3 r11 b3 s3 => ?_⟩
    walk_at "go"
    refine ⟨s, 3, rfl, s3, by decide, by decide, fun r2 H4 r21 b4 s4 => ?_⟩
    walk_at "go"
    refine ⟨_, _, rfl, ?_⟩
    dsimp only
    rw [one_more, one_more]
    have b24 := b3.trans b4
    refine Evl.q_cut (M := fun σ' H' => ∃ z : Bool, σ' = [some (.ref a), some (.int (i : Nat)), some (.int c), some (.ref s), some (.int ((r1 + 1 : Nat) : Int)), some (.int ((r2 + 1 : Nat) : Int)), some (.bl z), o7, o8, o9, o10, o11] ∧ BM [s] H2 H' ∧ Sd H' s) ?_ ?_
    · walk_at "go"
      refine w_eqI ?_
      generalize decide (V.int (i : Nat) = V.int 0) = z1
      walk_at "go"
      cases z1 with
      | true =>
        walk_at "go"
        refine ⟨s, 3, rfl, s4, by decide, by decide, fun r H5 _ b5 s5 => ?_⟩
        walk_at "go"
        refine w_eqI ?_
        exact ⟨_, rfl, b24.trans b5, s5⟩
      | false =>
        walk_at "go"
        exact ⟨_, rfl, b24, s4⟩
    rintro σ' H5 ⟨z, rfl, b5, s5⟩
    refine Evl.q_cut (M := fun σ' H' => ∃ m k : Nat, 1 ≤ m ∧ m ≤ 6 ∧ 1 ≤ k ∧ k ≤ 6 ∧ σ' = [some (.ref a), some (.int (i : Nat)), some (.int c), some (.ref s), some (.int (m : Int)), some (.int (k : Int)), some (.bl z), o7, o8, o9, o10, o11] ∧ BM [s] H2 H' ∧ Sd H' s) ?_ ?_
    · walk_at "go"
      cases z with
      | false =>
        walk_at "go"
        exact ⟨r1 + 1, r2 + 1, by omega, by omega, by omega, by omega, rfl, b5, s5⟩
      | true =>
        walk_at "go"
        refine ⟨(by show 2 ≤ sizeLine; decide), fun a1 h1 => ?_⟩
        have f1 := Same.new h1 (.tup [V.int 6, V.int 6])
        have g1 : (upd H5 a1 (.tup [V.int 6, V.int 6])) a1 = some (.tup [V.int 6, V.int 6]) := upd_same
        generalize upd H5 a1 (.tup [V.int 6, V.int 6]) = G1 at f1 g1 ⊢
        walk_at "go"
        refine ⟨(by show 2 ≤ sizeLine; decide), fun a2 h2 => ?_⟩
        have f2 := Same.new h2 (.tup [V.int 4, V.int 6])
        have g2 : (upd G1 a2 (.tup [V.int 4, V.int 6])) a2 = some (.tup [V.int 4, V.int 6]) := upd_same
        generalize upd G1 a2 (.tup [V.int 4, V.int 6]) = G2 at f2 g2 ⊢
        walk_at "go"
        refine ⟨(by show 2 ≤ sizeLine; decide), fun a3 h3' => ?_⟩
        have f3 := Same.new h3' (.tup [V.int 6, V.int 3])
        have g3 : (upd G2 a3 (.tup [V.int 6, V.int 3])) a3 = some (.tup [V.int 6, V.int 3]) := upd_same
        generalize upd G2 a3 (.tup [V.int 6, V.int 3]) = G3 at f3 g3 ⊢
        walk_at "go"
        refine ⟨(by show 2 ≤ sizeLine; decide), fun a4 h4 => ?_⟩
        have f4 := Same.new h4 (.tup [V.int 5, V.int 4])
        have g4 : (upd G3 a4 (.tup [V.int 5, V.int 4])) a4 = some (.tup [V.int 5, V.int 4]) := upd_same
        generalize upd G3 a4 (.tup [V.int 5, V.int 4]) = G4 at f4 g4 ⊢
        walk_at "go"
        refine ⟨(by show 4 ≤ sizeLine; decide), fun al hl => ?_⟩
        have f5 := Same.new hl (.lst [V.ref a1, .ref a2, .ref a3, .ref a4])
        have g5 : (upd G4 al (.lst [V.ref a1, .ref a2, .ref a3, .ref a4])) al = some (.lst [V.ref a1, .ref a2, .ref a3, .ref a4]) := upd_same
        have als : al ≠ s := src_ne (s5.same (f1.trans (f2.trans (f3.trans f4)))).src hl
        generalize upd G4 al (.lst [V.ref a1, .ref a2, .ref a3, .ref a4]) = G5 at f5 g5 ⊢
        have F35 := f4.trans f5
        have F25 := f3.trans F35
        have F15 := f2.trans F25
        have F05 := f1.trans F15
        have sG := s5.same F05
        have pick : ∀ r : Nat, (r : Int) < 4 → ∃ (ar : Addr) (m k : Nat), atI [V.ref a1, .ref a2, .ref a3, .ref a4] (r : Int) = some (.ref ar) ∧ G5 ar = some (.tup [V.int (m : Int), V.int (k : Int)]) ∧ 1 ≤ m ∧ m ≤ 6 ∧ 1 ≤ k ∧ k ≤ 6 := by
          intro r hr
          obtain rfl | rfl | rfl | rfl : r = 0 ∨ r = 1 ∨ r = 2 ∨ r = 3 := by omega
          · exact ⟨a1, 6, 6, rfl, F15 _ _ g1, by decide, by decide, by decide, by decide⟩
          · exact ⟨a2, 4, 6, rfl, F25 _ _ g2, by decide, by decide, by decide, by decide⟩
          · exact ⟨a3, 6, 3, rfl, F35 _ _ g3, by decide, by decide, by decide, by decide⟩
          · exact ⟨a4, 5, 4, rfl, f5 _ _ g4, by decide, by decide, by decide, by decide⟩
        walk_at "go"
        refine ⟨s, 4, rfl, sG, by decide, by decide, fun r H6 r1 b6 s6 => ?_⟩
        obtain ⟨ar, m, k, har, hat, m1, m2, k1, k3⟩ := pick r r1
        refine w_ixL (b6.at g5 (by simpa using als)) har ?_
        refine w_gtup (SqT.of (b6.at hat (by simpa using sG.ne_tup hat))) rfl (w_gnn ?_)
        dsimp only
        exact ⟨m, k, m1, m2, k1, k3, rfl, (b5.same F05).trans b6, s6⟩
    rintro σ' H6 ⟨m, k, m1, m6, k1, k6, rfl, b6, s6⟩
    walk_at "go"
    refine w_i (by refine ⟨?_, ?_, ?_⟩ <;> decide) ?_
    walk_at "go"
    refine ⟨(by show 4 ≤ sizeLine; decide), fun al hl => ?_⟩
    have f7 := Same.new hl (.lst [V.int 4, .int 9, .int 3, .int (10 ^ (12 : Int).toNat)])
    have h7 : (upd H6 al (.lst [V.int 4, .int 9, .int 3, .int (10 ^ (12 : Int).toNat)])) al = some (.lst [V.int 4, .int 9, .int 3, .int (10 ^ (12 : Int).toNat)]) := upd_same
    have als : al ≠ s := src_ne s6.src hl
    have pick : ∀ r : Nat, (r : Int) < 4 → ∃ x : Int, atI [V.int 4, .int 9, .int 3, .int (10 ^ (12 : Int).toNat)] (r : Int) = some (.int x) ∧ 0 < x ∧ x < 2 ^ 62 := by
      intro r hr
      obtain rfl | rfl | rfl | rfl : r = 0 ∨ r = 1 ∨ r = 2 ∨ r = 3 := by omega
      · exact ⟨_, rfl, by decide, by decide⟩
      · exact ⟨_, rfl, by decide, by decide⟩
      · exact ⟨_, rfl, by decide, by decide⟩
      · exact ⟨_, rfl, by decide, by decide⟩
    generalize upd H6 al (.lst [V.int 4, .int 9, .int 3, .int (10 ^ (12 : Int).toNat)]) = H7 at f7 h7 ⊢
    have s7 := s6.same f7
    walk_at "go"
    refine ⟨s, 4, rfl, s7, by decide, by decide, fun r H8 r1 b8 s8 => ?_⟩
    obtain ⟨x, hx, x0, x62⟩ := pick r r1
    refine w_ixL (b8.at h7 (by simpa using als)) hx ?_
    walk_at "go"
    refine ⟨s, m, k, x, rfl, s8, m1, m6, k1, k6, x0, x62, fun g H9 rs t b9 s9 new9 tab9 lt hk => ?_⟩
    have b29 := ((b6.same f7).trans b8).trans b9
    have hk0 : ∀ r ∈ t, r.length = k ∧ ∀ x ∈ r, 0 ≤ x := fun r hr => ⟨(hk r hr).1, fun x hx => ((hk r hr).2 x hx).1⟩
    have gG : Grid (withSums k t) (m + 1) (k + 1) := fit_grid (by omega) (by omega) (fit_self hk0 lt [])
    have gs : g ≠ s ∧ ∀ r ∈ rs, r ≠ s := ⟨src_ne s8.src new9.p0, fun r hr => src_ne s8.src (new9.rs0 r hr)⟩
    generalize withSums k t = G at tab9 gG
    clear pick h7 hx x0 x62 hk0 hk lt new9 b8 b9 f7 b24 b3 b4
    have m7 : m + 1 ≤ 7 := by omega
    have k7 : k + 1 ≤ 7 := by omega
    have m2 : 2 ≤ m + 1 := by omega
    have k2 : 2 ≤ k + 1 := by omega
    walk_at "go"
    refine ⟨s, 3, rfl, s9, by decide, by decide, fun r3 H10 r31 b10 s10 => ?_⟩
    walk_at "go"
    have tab10 := tab9.bm b10 gs.1 gs.2
    refine ⟨s, g, rs, G, m + 1, k + 1, _, rfl, s10, gs, tab10, gG.rect, m2, m7, k2, k7, fun h H11 ws hs hp11 b11 s11 h11 c11 mem11 ne11 l11 => ?_⟩
    have tab11 := tab10.bm b11 gs.1 gs.2
    have b211 := (b29.trans b10).trans b11
    have hns : h ≠ s := src_ne s10.src hp11
    obtain ⟨ks, hk1, hk2, hk3, rest⟩ := sorted_cells (K := K) (P := P) (w := w) (m := m + 1) (n := k + 1) (by omega) (by omega) (by omega) (by omega) c11 mem11 l11
    walk_at "go"
    refine ⟨_, ks, rfl, by rw [← hk1]; exact SqL.of h11, hk2, by omega, fun aS LS hS hs1' hs2' => ?_⟩
    walk_at "go"
    refine rest aS LS _ hS hs1' hs2' fun p12 H12 w12 hs12 e12 h12 c12 mem12 l12 => ?_
    have s12 := s11.same e12
    have tab12 := tab11.same e12
    have hh12 := e12 _ _ h11
    have ch12 := L2.Paired.mapP c11 fun _ _ z => z.same e12
    have b212 := b211.same e12
    have p12s : p12 ≠ s := fun z => by
      obtain ⟨x, y, u, hu, _⟩ := s12
      rw [← z, h12] at hu
      obtain rfl : w12 = [.int x, .int y, .int u] := by cases hu; rfl
      cases c12 with
      | cons hh _ =>
        obtain ⟨_, e, _⟩ := hh
        cases e
    have ne12 : hs12 ≠ [] := fun z => by
      obtain ⟨c0, hc0⟩ := List.exists_mem_of_ne_nil hs ne11
      have := (mem12 c0).mpr hc0
      rw [z] at this
      cases this
    have len0 : 0 < w12.length := by rw [c12.length]; exact List.length_pos_iff.mpr ne12
    have len60 : w12.length ≤ 60 := by rw [c12.length]; exact l12
    clear hk1 hk2 hk3 rest
    walk_at "go"
    refine ⟨p12, _, rfl, .inl (SqL.of h12), ?_⟩
    walk_at "go"
    refine ⟨s, _, rfl, s12, by omega, by omega, fun ra H13 ra1 b13 s13 => ?_⟩
    have h13 := b13.at h12 (by simpa using p12s)
    have c13 := L2.Paired.mapP c12 fun _ _ z => z.bmS s12 b13
    have tab13 := tab12.bm b13 gs.1 gs.2
    have hh13 := b13.at hh12 (by simpa using hns)
    have ch13 := L2.Paired.mapP ch12 fun _ _ z => z.bmS s12 b13
    have b213 := b212.trans b13
    clear b13 b212 tab12 hh12 ch12 h12 c12 s12
    walk_at "go"
    refine list_open ?_
    walk_at "go"
    refine ⟨p12, w12, rfl, SqL.of h13, fun p14 hp14 => ?_⟩
    rw [cut_from]
    have e14 := Same.new hp14 (.lst (w12.drop ra))
    have h14 : (upd H13 p14 (.lst (w12.drop ra))) p14 = some (.lst (w12.drop ra)) := upd_same
    generalize upd H13 p14 (.lst (w12.drop ra)) = H14 at e14 h14 ⊢
    walk_at "go"
    refine ⟨p12, w12, rfl, SqL.of (e14 _ _ h13), fun p15 hp15 => ?_⟩
    rw [cut_to]
    have e15 := Same.new hp15 (.lst (w12.take ra))
    have h15 : (upd H14 p15 (.lst (w12.take ra))) p15 = some (.lst (w12.take ra)) := upd_same
    generalize upd H14 p15 (.lst (w12.take ra)) = H15 at e15 h15 ⊢
    refine ⟨p14, p15, _, _, rfl, rfl, e15 _ _ h14, h15, Nat.le_trans (show (w12.drop ra).length + (w12.take ra).length ≤ 200 by rw [List.length_drop, List.length_take]; omega) (by decide), fun p16 hp16 => ?_⟩
    have e16 := Same.new hp16 (.lst (w12.drop ra ++ w12.take ra))
    have h16 : (upd H15 p16 (.lst (w12.drop ra ++ w12.take ra))) p16 = some (.lst (w12.drop ra ++ w12.take ra)) := upd_same
    generalize upd H15 p16 (.lst (w12.drop ra ++ w12.take ra)) = H16 at e16 h16 ⊢
    walk_at "go"
    refine .inr ⟨_, rfl, ?_⟩
    refine w_i (mul01 _ _) ?_
    walk_at "go"
    refine ⟨p16, _, rfl, SqL.of h16, fun p17 hp17 => ?_⟩
    have hx17 : ∀ y ∈ cutV (w12.drop ra ++ w12.take ra) none (some (3 - 2 * (if z = true then 1 else 0))), y ∈ w12 := fun y hy => by
      rcases List.mem_append.mp (cut_mem hy) with hy | hy
      · exact List.mem_of_mem_drop hy
      · exact List.mem_of_mem_take hy
    generalize cutV (w12.drop ra ++ w12.take ra) none (some (3 - 2 * (if z = true then 1 else 0))) = pls at hp17 hx17 ⊢
    have e17 := Same.new hp17 (.lst pls)
    have h17 : (upd H16 p17 (.lst pls)) p17 = some (.lst pls) := upd_same
    have eX := e14.trans (e15.trans (e16.trans e17))
    have p17s : p17 ≠ s := src_ne (s13.same (e14.trans (e15.trans e16))).src hp17
    generalize upd H16 p17 (.lst pls) = H17 at e17 h17 eX ⊢
    have s17 := s13.same eX
    have h17' := eX _ _ h13
    have c17 := L2.Paired.mapP c13 fun _ _ z => z.same eX
    have tab17 := tab13.same eX
    have hh17 := eX _ _ hh13
    have ch17 := L2.Paired.mapP ch13 fun _ _ z => z.same eX
    have b217 := b213.same eX
    clear e14 e15 e16 e17 h14 h15 h16 hp14 hp15 hp16 hp17 eX h13 c13 tab13 hh13 ch13 b213
    refine ⟨p17, rfl, ⟨_, SqL.of h17⟩, ?_⟩
    refine for_list (xs := pls) (fun (l : Nat) σ H' => ∃ o11' : Option V, σ = [some (.ref a), some (.int (i : Nat)), some (.int c), some (.ref s), some (.int (m : Int)), some (.int (k : Int)), some (.bl z), some (.ref g), some (.ref h), some (.ref p12), some (.int (ra : Int)), o11'] ∧ BM [s] H17 H' ∧ Sd H' s)
      ⟨_, rfl, BM.refl _ _, s17⟩ (fun i σ H' _ ⟨_, _, b, _⟩ => SqL.of (b.at h17 (by simpa using p17s))) ?_ ?_
    · rintro l v σ H18 hx ⟨o11', rfl, b18, s18⟩
      obtain ⟨iv, hiv⟩ := List.getElem?_of_mem (hx17 v (List.mem_of_getElem? hx))
      obtain ⟨cc, hcc, hv⟩ := K3.Paired.get c17 hiv
      have hin : cc ∈ hs := (mem12 cc).mp (List.mem_of_getElem? hcc)
      walk_at "go"
      refine ⟨s, g, h, v, rs, G, m + 1, k + 1, ws, hs, cc, rfl, s18, gs, hns, tab17.bm b18 gs.1 gs.2, gG, m7, k7, b18.at hh17 (by simpa using hns), L2.Paired.mapP ch17 fun _ _ z => z.bmS s17 b18, mem11, l11, hv.bmS s17 b18, hin, fun H19 b19 s19 => ?_⟩
      walk_at "go"
      exact ⟨_, rfl, b18.trans b19, s19⟩
    rintro σ H18 ⟨o11', rfl, b18, s18⟩
    dsimp only
    have hra : ra < w12.length := by omega
    obtain ⟨cc, hcc, hv⟩ := K3.Paired.get c17 (List.getElem?_eq_getElem hra)
    have hin : cc ∈ hs := (mem12 cc).mp (List.mem_of_getElem? hcc)
    walk_at "go"
    refine w_ixL (b18.at h17' (by simpa using p12s)) (atI_nat (List.getElem?_eq_getElem hra)) ?_
    walk_at "go"
    refine ⟨s, g, h, _, rs, G, m + 1, k + 1, ws, hs, cc, rfl, s18, gs, hns, tab17.bm b18 gs.1 gs.2, gG, m2, k2, m7, k7, b18.at hh17 (by simpa using hns), L2.Paired.mapP ch17 fun _ _ z => z.bmS s17 b18, mem11, l11, hv.bmS s17 b18, hin, fun H19 b19 s19 => ?_⟩
    walk_at "go"
    exact ⟨_, _, _, _, _, _, _, _, _, _, _, rfl, e1.trans (same_new hs1 e2 (b217.trans (b18.trans b19)))⟩
  · rintro σ H1 ⟨o1, o2, o3, o4, o5, o6, o7, o8, o9, o10, o11, rfl, e1⟩
    walk_at "go"
    exact q H1
end
end K3
end L19_part
section M1_part
set_option Elab.async false
set_option linter.all false
set_option maxRecDepth 100000
set_option maxHeartbeats 0
namespace K3
open PySem PySem.Spec PyProof.Rows L2
theorem facts {P : Program} {w : World} {K : PySem.W.Frag} {h : Heap} {mg : Str → Option Value} {f : Addr} (X : K.In h) (G : h.Ns mainGlobals mg) (hfa : mg ("law" : Str) = some (.ref f)) (c : He.SaysD D.fa D.fn K) (e : ex K = true) :
    ∃ fd : FuncData, (∀ (s : Shared) (v : Value), BindsTo s fd ⟨[v], []⟩ [("_law_script", v)]) ∧ ∀ base : Heap, K.In base → base.Ns mainGlobals mg → FnOk P w K mg base L2.CX0 11 f fd ["_law_script"] (spLaw K) := by
  have T : Tx K mg := ⟨c, e, h, X, G⟩
  obtain ⟨fd, F⟩ := T.f_law
  have e2 := hfa.symm.trans T.g_law
  cases e2
  have b := FunD.bindsA (ps := ["_law_script"]) F fun _ _ _ _ _ _ us hl => match us, hl with | [_], _ => rfl
  exact ⟨fd, fun s v => b s [v] rfl, fun base _ _ => ok_law T F⟩
end K3
open PySem PySem.W PySem.Calls PyProof.Rows
theorem PySem.Challenge.cw_skiphall_k32_fences_show_the_reach_holds : PySem.Challenge.rw_skiphall_k32_fences_show_the_reach.Holds := by
  w_on; o_law
  refine HandSHeadRun.head_any (r := OpenLaw.row PySem.Challenge.rw_skiphall_k32_fences_show_the_reach) (q := K3.qv) (H := K3.hookE 4) (ob := K3.ob 4) (M := 8000) (loose := K3.loose) (d := HandSHeadRun.topDef (OpenLaw.row PySem.Challenge.rw_skiphall_k32_fences_show_the_reach).prog 49) (kwd := []) (K3.ob_eq 4)
    (by kernel_rfl) (fun s => by kernel_rfl) K3.run (by kernel_rfl) (by kernel_rfl) (by kernel_rfl) (by rfl) (by first | assumption | decide +kernel) (by decide +kernel) ⟨rfl, rfl, rfl, rfl, rfl, by decide +kernel⟩ ?hw ?hc
  case hw => w_witness2
  case hc =>
    refine L2.walk_ofE (l := PySem.Challenge.rw_skiphall_k32_fences_show_the_reach) (n := 63) (k := 11) (x := "_law_script") (CX := L2.CX0) rfl (by decide) (by kernel_rfl) ⟨rfl, by decide, by decide⟩ ?F (fun _ _ _ _ z => z)
    intro w mg fa h Y G hmg0
    obtain ⟨K, KX, c, e⟩ := Y
    have hmg : mg ("law" : PySem.Str) = some (.ref fa) := by
      have e : (HandSHeadRun.topDef (OpenLaw.row PySem.Challenge.rw_skiphall_k32_fences_show_the_reach).prog 49).name = ("law" : PySem.Str) := by kernel_rfl
      rw [← e]
      exact hmg0
    obtain ⟨fd, hb, hF⟩ := K3.facts (P := (PySem.Challenge.rw_skiphall_k32_fences_show_the_reach).prog) (w := w) KX G hmg c e
    exact ⟨K, fd, K3.spLaw K, KX, hb, fun H a ns hl _ hS => ⟨a, ns, rfl, hS, hl, fun _ => rfl⟩, hF⟩
end M1_part
