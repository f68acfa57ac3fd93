import PyProof.Rows.All
import Wide.All
import OpenK.AllK
import Wide.FinOn
import KE.KStateDown
import HandS.Base
import HandS.Call
import HandS.Ends
import HandS.More
import HandS.Words
import HandS.WordsExc
import HandS.Defaults
import HandS.Head0
import HandS.Head1
import HandS.Head2
import HandS.HeadEnd
import HandS.HeadHook1
import HandS.HeadHook2
import HandS.ExcInit
import HandS.ExcField
import HandS.ExcIs
import PySem.Challenge.RW_skiphall_k38_tables_that_fit_but_for_one
import HandS.ForMost
import HandS.ForExc
import HandS.Walk
import HandS.IsInst
import HandS.TupAny
import HandS.MakeKwOnly
import HandS.DictComp
import HandS.SetKeys
import HandS.Flow
import PyProof.StrBlock2
import HandS.Wide
import PyProof.NeKinds
import PyProof.Rows.InDataRows
import HandS.TupSets
import HandS.Evl
import HandS.Style
section H0_part
set_option Elab.async false
set_option linter.all false
set_option maxRecDepth 100000
set_option maxHeartbeats 0
namespace K3
open PySem PySem.Spec PyProof.Rows L2
def top (i : Nat) : Stmt := PySem.Challenge.pw_skiphall_k38_tables_that_fit_but_for_one.main.body.getD i (.Pass ⟨0, 0, 0, 0⟩)
abbrev s__wall : Stmt := top 0
abbrev s_HallError_told : Stmt := inClass (top 2) 0
abbrev s_NoCell_init : Stmt := inClass (top 3) 0
abbrev s_NoCell_told : Stmt := inClass (top 3) 1
abbrev s_cells_of : Stmt := top 5
abbrev s_last_cell : Stmt := top 6
abbrev s_number_at : Stmt := top 7
abbrev s_read_hidden : Stmt := top 8
abbrev s_refuse_no_cell : Stmt := top 9
abbrev s_fits : Stmt := top 11
abbrev s_is_as_wide : Stmt := top 12
abbrev s_has_right_sums : Stmt := top 13
abbrev s__law_cell : Stmt := top 15
abbrev s__law_rng : Stmt := top 16
abbrev s__law_draw : Stmt := top 17
abbrev s__law_pick : Stmt := top 18
abbrev s__law_sample : Stmt := top 19
abbrev s__law_with_sums : Stmt := top 20
abbrev s__law_random_grid : Stmt := top 21
abbrev s__law_cells : Stmt := top 22
abbrev s__law_random_hidden : Stmt := top 23
abbrev s__law_fits : Stmt := top 24
abbrev s__law_shifted : Stmt := top 25
abbrev s__law_square : Stmt := top 26
abbrev s__law_broken : Stmt := top 27
abbrev s_law : Stmt := top 28
namespace D
def d__wall : He.DefD := ⟨("_wall", none), "_wall", "_wall", defArgs s__wall, defBody s__wall, defScope s__wall, [], []⟩
def d_HallError_told : He.DefD := ⟨("HallError", some "told"), "told", "HallError.told", defArgs s_HallError_told, defBody s_HallError_told, defScope s_HallError_told, [], []⟩
def d_NoCell_init : He.DefD := ⟨("NoCell", some "__init__"), "__init__", "NoCell.__init__", defArgs s_NoCell_init, defBody s_NoCell_init, defScope s_NoCell_init, [], []⟩
def d_NoCell_told : He.DefD := ⟨("NoCell", some "told"), "told", "NoCell.told", defArgs s_NoCell_told, defBody s_NoCell_told, defScope s_NoCell_told, [], []⟩
def d_cells_of : He.DefD := ⟨("cells_of", none), "cells_of", "cells_of", defArgs s_cells_of, defBody s_cells_of, defScope s_cells_of, [], []⟩
def d_last_cell : He.DefD := ⟨("last_cell", none), "last_cell", "last_cell", defArgs s_last_cell, defBody s_last_cell, defScope s_last_cell, [], []⟩
def d_number_at : He.DefD := ⟨("number_at", none), "number_at", "number_at", defArgs s_number_at, defBody s_number_at, defScope s_number_at, [], []⟩
def d_read_hidden : He.DefD := ⟨("read_hidden", none), "read_hidden", "read_hidden", defArgs s_read_hidden, defBody s_read_hidden, defScope s_read_hidden, [], []⟩
def d_refuse_no_cell : He.DefD := ⟨("refuse_no_cell", none), "refuse_no_cell", "refuse_no_cell", defArgs s_refuse_no_cell, defBody s_refuse_no_cell, defScope s_refuse_no_cell, [], []⟩
def d_fits : He.DefD := ⟨("fits", none), "fits", "fits", defArgs s_fits, defBody s_fits, defScope s_fits, [], []⟩
def d_is_as_wide : He.DefD := ⟨("is_as_wide", none), "is_as_wide", "is_as_wide", defArgs s_is_as_wide, defBody s_is_as_wide, defScope s_is_as_wide, [], []⟩
def d_has_right_sums : He.DefD := ⟨("has_right_sums", none), "has_right_sums", "has_right_sums", defArgs s_has_right_sums, defBody s_has_right_sums, defScope s_has_right_sums, [], []⟩
def d__law_cell : He.DefD := ⟨("_law_cell", none), "_law_cell", "_law_cell", defArgs s__law_cell, defBody s__law_cell, defScope s__law_cell, [], []⟩
def d__law_rng : He.DefD := ⟨("_law_rng", none), "_law_rng", "_law_rng", defArgs s__law_rng, defBody s__law_rng, defScope s__law_rng, [], []⟩
def d__law_draw : He.DefD := ⟨("_law_draw", none), "_law_draw", "_law_draw", defArgs s__law_draw, defBody s__law_draw, defScope s__law_draw, [], []⟩
def d__law_pick : He.DefD := ⟨("_law_pick", none), "_law_pick", "_law_pick", defArgs s__law_pick, defBody s__law_pick, defScope s__law_pick, [], []⟩
def d__law_sample : He.DefD := ⟨("_law_sample", none), "_law_sample", "_law_sample", defArgs s__law_sample, defBody s__law_sample, defScope s__law_sample, [], []⟩
def d__law_with_sums : He.DefD := ⟨("_law_with_sums", none), "_law_with_sums", "_law_with_sums", defArgs s__law_with_sums, defBody s__law_with_sums, defScope s__law_with_sums, [], []⟩
def d__law_random_grid : He.DefD := ⟨("_law_random_grid", none), "_law_random_grid", "_law_random_grid", defArgs s__law_random_grid, defBody s__law_random_grid, defScope s__law_random_grid, [], []⟩
def d__law_cells : He.DefD := ⟨("_law_cells", none), "_law_cells", "_law_cells", defArgs s__law_cells, defBody s__law_cells, defScope s__law_cells, [], []⟩
def d__law_random_hidden : He.DefD := ⟨("_law_random_hidden", none), "_law_random_hidden", "_law_random_hidden", defArgs s__law_random_hidden, defBody s__law_random_hidden, defScope s__law_random_hidden, [], []⟩
def d__law_fits : He.DefD := ⟨("_law_fits", none), "_law_fits", "_law_fits", defArgs s__law_fits, defBody s__law_fits, defScope s__law_fits, [], []⟩
def d__law_shifted : He.DefD := ⟨("_law_shifted", none), "_law_shifted", "_law_shifted", defArgs s__law_shifted, defBody s__law_shifted, defScope s__law_shifted, [], []⟩
def d__law_square : He.DefD := ⟨("_law_square", none), "_law_square", "_law_square", defArgs s__law_square, defBody s__law_square, defScope s__law_square, [], []⟩
def d__law_broken : He.DefD := ⟨("_law_broken", none), "_law_broken", "_law_broken", defArgs s__law_broken, defBody s__law_broken, defScope s__law_broken, [], []⟩
def d_law : He.DefD := ⟨("law", none), "law", "law", defArgs s_law, defBody s_law, defScope s_law, [], []⟩
def fn : List He.DefD := [d__wall, d_HallError_told, d_NoCell_init, d_NoCell_told, d_cells_of, d_last_cell, d_number_at, d_read_hidden, d_refuse_no_cell, d_fits, d_is_as_wide, d_has_right_sums, d__law_cell, d__law_rng, d__law_draw, d__law_pick, d__law_sample, d__law_with_sums, d__law_random_grid, d__law_cells, d__law_random_hidden, d__law_fits, d__law_shifted, d__law_square, d__law_broken, d_law]
def fa : List He.Fa := [.glo "_wall",
  .glo "HallError",
  .keep "HallError",
  .glo "NoCell",
  .keep "NoCell",
  .glo "cells_of",
  .glo "last_cell",
  .glo "number_at",
  .glo "read_hidden",
  .glo "refuse_no_cell",
  .glo "fits",
  .glo "is_as_wide",
  .glo "has_right_sums",
  .glo "_law_cell",
  .glo "_law_rng",
  .glo "_law_draw",
  .glo "_law_pick",
  .glo "_law_sample",
  .glo "_law_with_sums",
  .glo "_law_random_grid",
  .glo "_law_cells",
  .glo "_law_random_hidden",
  .glo "_law_fits",
  .glo "_law_shifted",
  .glo "_law_square",
  .glo "_law_broken",
  .glo "law",
  .free "abs",
  .free "all",
  .free "any",
  .free "int",
  .free "len",
  .free "list",
  .free "max",
  .free "min",
  .free "range",
  .free "set",
  .free "sorted",
  .free "sum",
  .free "tuple",
  .noat "NoCell" "row",
  .noat "NoCell" "column",
  .meth "NoCell" "__init__"]
end D
/-! ### what an own exception class with its __init__ says -/
def oexB (K : PySem.W.Frag) (C : Addr) : Bool := (match K.lookup C with
  | some ⟨.type "type", _, .cls cd, sl⟩ => (match cd.mro, sl.toList with
    | .ref C' :: bm, [_, _, _, _, some (.builtin n), _] => C' == C && (n == "ValueError.__new__" && (!cd.hasDel && (cd.hasDict && PySem.HandSPX.refsVE bm)))
    | _, _ => false)
  | _ => false) && (eqB (PySem.W.findIn K (.ref C) "__setattr__") (some (some (.builtin "object.__setattr__"))) && (eqB (PySem.W.subIn K (.ref C) (.type "BaseException")) (some true) && (eqB (PySem.W.typeIn K (.ref C)) (some (.type "type")) && PySem.W.keepIn K (.ref C))))
where eqB {α : Type} [DecidableEq α] (a b : α) : Bool := decide (a = b)
/-! done -/
end K3
end H0_part
section HX_part
set_option Elab.async false
set_option linter.all false
set_option maxRecDepth 100000
set_option maxHeartbeats 0
namespace K3
open PySem PySem.Spec PyProof.Rows L2
abbrev hk : PySem.W.Hook := He.hookD 4 D.fa D.fn
def ob (s : PySem.W.SharedT) : He.AlD := He.obsDG 4 D.fa D.fn (HandSHeadRun.getT s)
theorem ob_eq (s : PySem.W.SharedT) : ob s = hk.obs s.abs := He.obsDG_eq (HandSHeadRun.getT_eq s)
theorem and2 {a b : Bool} (h : (a && b) = true) : a = true ∧ b = true := Bool.and_eq_true_iff.mp h
end K3
end HX_part
section H1_part
set_option Elab.async false
set_option linter.all false
set_option maxRecDepth 100000
set_option maxHeartbeats 0
namespace K3
open PySem PySem.Spec PyProof.Rows L2 PySem.W PySem.Calls HandSHeadRun
abbrev R : PySem.W.OpenRow := PySem.W.OpenLaw.row PySem.Challenge.rw_skiphall_k38_tables_that_fit_but_for_one
def loose : List Str := [("_wall" : Str), ("HallError" : Str), ("NoCell" : Str), ("cells_of" : Str), ("last_cell" : Str), ("number_at" : Str), ("read_hidden" : Str), ("refuse_no_cell" : Str), ("fits" : Str), ("is_as_wide" : Str), ("has_right_sums" : Str), ("_law_cell" : Str), ("_law_rng" : Str), ("_law_draw" : Str), ("_law_pick" : Str), ("_law_sample" : Str), ("_law_with_sums" : Str), ("_law_random_grid" : Str), ("_law_cells" : Str), ("_law_random_hidden" : Str), ("_law_fits" : Str), ("_law_shifted" : Str), ("_law_square" : Str), ("_law_broken" : Str)]
abbrev qv : Program := PySem.W.view R.prog [28]
theorem run1 (w : World) (os : OsState) : (endF (stepQ (denQ tabQ) R.prog w) 8000 R.prog w os).map (fun s => looksF R.prog (boot_heap w.params) s.abs) = some true := by
  kernel_rfl
theorem run2 (w : World) (os : OsState) : (endF (stepQ (denQ tabQ) R.prog w) 8000 R.prog w os).map (fun s => seenQ qv loose (importedModules R.prog.main.body) (fun s => xlAt qv [] s && recOk R.toRowW.records s) s.abs) = some (openGood qv loose) := by
  kernel_rfl
theorem run3 (w : World) (os : OsState) : (endF (stepQ (denQ tabQ) R.prog w) 8000 R.prog w os).map (fun s => ob s) = some (hk.val w) := by
  kernel_rfl
theorem join3 {A B C D : Type} {f : A → B} {g : A → C} {h : A → D} {b : B} {c : C} {d : D} : ∀ {o : Option A}, o.map f = some b → o.map g = some c → o.map h = some d → o.map (fun s => (f s, g s, h s)) = some (b, c, d)
  | none, q, _, _ => by cases q
  | some s, q1, q2, q3 => by
    have k1 := Option.some.inj q1
    have k2 := Option.some.inj q2
    have k3 := Option.some.inj q3
    show some (f s, g s, h s) = _
    rw [k1, k2, k3]
theorem run (w : World) : HandSHeadRun.RunEq R qv hk ob 8000 loose w := fun os => join3 (run1 w os) (run2 w os) (run3 w os)
end K3
end H1_part
section A0_part
set_option Elab.async false
set_option linter.all false
set_option maxRecDepth 100000
set_option maxHeartbeats 0
namespace K3
open PySem PySem.Spec PyProof.Rows L2
/-- what the top has written -/
structure Tx (K : PySem.W.Frag) (mg : Str → Option Value) : Prop where
  c : He.SaysD D.fa D.fn K
  h : ∃ h : Heap, K.In h ∧ h.Ns mainGlobals mg
section
variable {K : PySem.W.Frag} {mg : Str → Option Value}
theorem Tx.glo (T : Tx K mg) {x : Str} (c : (He.Fa.glo x).ok K = true) : mg x = some (.ref (He.ga K x)) := by
  obtain ⟨h, X, G⟩ := T.h
  exact He.glo_ok X G c
theorem Tx.free (T : Tx K mg) {x : Str} (c : (He.Fa.free x).ok K = true) : mg x = none := by
  obtain ⟨h, X, G⟩ := T.h
  exact He.free_ok X G c
theorem Tx.int (T : Tx K mg) {x : Str} {i : Int} (c : (He.Fa.int x i).ok K = true) : ∃ t, mg x = some (.int i t) := by
  obtain ⟨h, X, G⟩ := T.h
  exact He.int_ok X G c
theorem Tx.str (T : Tx K mg) {x z : Str} (c : (He.Fa.str x z).ok K = true) : ∃ t, mg x = some (.str z t) := by
  obtain ⟨h, X, G⟩ := T.h
  exact He.str_ok X G c
theorem Tx.g__wall (T : Tx K mg) : mg "_wall" = some (.ref (He.ga K "_wall")) := T.glo (T.c.fact 0 rfl)
theorem Tx.g_HallError (T : Tx K mg) : mg "HallError" = some (.ref (He.ga K "HallError")) := T.glo (T.c.fact 1 rfl)
theorem Tx.k_HallError (T : Tx K mg) : PySem.W.keepIn K (.ref (He.ga K "HallError")) = true := He.keep_ok (x := "HallError") (T.c.fact 2 rfl)
theorem Tx.g_NoCell (T : Tx K mg) : mg "NoCell" = some (.ref (He.ga K "NoCell")) := T.glo (T.c.fact 3 rfl)
theorem Tx.k_NoCell (T : Tx K mg) : PySem.W.keepIn K (.ref (He.ga K "NoCell")) = true := He.keep_ok (x := "NoCell") (T.c.fact 4 rfl)
theorem Tx.g_cells_of (T : Tx K mg) : mg "cells_of" = some (.ref (He.ga K "cells_of")) := T.glo (T.c.fact 5 rfl)
theorem Tx.g_last_cell (T : Tx K mg) : mg "last_cell" = some (.ref (He.ga K "last_cell")) := T.glo (T.c.fact 6 rfl)
theorem Tx.g_number_at (T : Tx K mg) : mg "number_at" = some (.ref (He.ga K "number_at")) := T.glo (T.c.fact 7 rfl)
theorem Tx.g_read_hidden (T : Tx K mg) : mg "read_hidden" = some (.ref (He.ga K "read_hidden")) := T.glo (T.c.fact 8 rfl)
theorem Tx.g_refuse_no_cell (T : Tx K mg) : mg "refuse_no_cell" = some (.ref (He.ga K "refuse_no_cell")) := T.glo (T.c.fact 9 rfl)
theorem Tx.g_fits (T : Tx K mg) : mg "fits" = some (.ref (He.ga K "fits")) := T.glo (T.c.fact 10 rfl)
theorem Tx.g_is_as_wide (T : Tx K mg) : mg "is_as_wide" = some (.ref (He.ga K "is_as_wide")) := T.glo (T.c.fact 11 rfl)
theorem Tx.g_has_right_sums (T : Tx K mg) : mg "has_right_sums" = some (.ref (He.ga K "has_right_sums")) := T.glo (T.c.fact 12 rfl)
theorem Tx.g__law_cell (T : Tx K mg) : mg "_law_cell" = some (.ref (He.ga K "_law_cell")) := T.glo (T.c.fact 13 rfl)
theorem Tx.g__law_rng (T : Tx K mg) : mg "_law_rng" = some (.ref (He.ga K "_law_rng")) := T.glo (T.c.fact 14 rfl)
theorem Tx.g__law_draw (T : Tx K mg) : mg "_law_draw" = some (.ref (He.ga K "_law_draw")) := T.glo (T.c.fact 15 rfl)
theorem Tx.g__law_pick (T : Tx K mg) : mg "_law_pick" = some (.ref (He.ga K "_law_pick")) := T.glo (T.c.fact 16 rfl)
theorem Tx.g__law_sample (T : Tx K mg) : mg "_law_sample" = some (.ref (He.ga K "_law_sample")) := T.glo (T.c.fact 17 rfl)
theorem Tx.g__law_with_sums (T : Tx K mg) : mg "_law_with_sums" = some (.ref (He.ga K "_law_with_sums")) := T.glo (T.c.fact 18 rfl)
theorem Tx.g__law_random_grid (T : Tx K mg) : mg "_law_random_grid" = some (.ref (He.ga K "_law_random_grid")) := T.glo (T.c.fact 19 rfl)
theorem Tx.g__law_cells (T : Tx K mg) : mg "_law_cells" = some (.ref (He.ga K "_law_cells")) := T.glo (T.c.fact 20 rfl)
theorem Tx.g__law_random_hidden (T : Tx K mg) : mg "_law_random_hidden" = some (.ref (He.ga K "_law_random_hidden")) := T.glo (T.c.fact 21 rfl)
theorem Tx.g__law_fits (T : Tx K mg) : mg "_law_fits" = some (.ref (He.ga K "_law_fits")) := T.glo (T.c.fact 22 rfl)
theorem Tx.g__law_shifted (T : Tx K mg) : mg "_law_shifted" = some (.ref (He.ga K "_law_shifted")) := T.glo (T.c.fact 23 rfl)
theorem Tx.g__law_square (T : Tx K mg) : mg "_law_square" = some (.ref (He.ga K "_law_square")) := T.glo (T.c.fact 24 rfl)
theorem Tx.g__law_broken (T : Tx K mg) : mg "_law_broken" = some (.ref (He.ga K "_law_broken")) := T.glo (T.c.fact 25 rfl)
theorem Tx.g_law (T : Tx K mg) : mg "law" = some (.ref (He.ga K "law")) := T.glo (T.c.fact 26 rfl)
theorem Tx.z_abs (T : Tx K mg) : mg "abs" = none := T.free (T.c.fact 27 rfl)
theorem Tx.z_all (T : Tx K mg) : mg "all" = none := T.free (T.c.fact 28 rfl)
theorem Tx.z_any (T : Tx K mg) : mg "any" = none := T.free (T.c.fact 29 rfl)
theorem Tx.z_int (T : Tx K mg) : mg "int" = none := T.free (T.c.fact 30 rfl)
theorem Tx.z_len (T : Tx K mg) : mg "len" = none := T.free (T.c.fact 31 rfl)
theorem Tx.z_list (T : Tx K mg) : mg "list" = none := T.free (T.c.fact 32 rfl)
theorem Tx.z_max (T : Tx K mg) : mg "max" = none := T.free (T.c.fact 33 rfl)
theorem Tx.z_min (T : Tx K mg) : mg "min" = none := T.free (T.c.fact 34 rfl)
theorem Tx.z_range (T : Tx K mg) : mg "range" = none := T.free (T.c.fact 35 rfl)
theorem Tx.z_set (T : Tx K mg) : mg "set" = none := T.free (T.c.fact 36 rfl)
theorem Tx.z_sorted (T : Tx K mg) : mg "sorted" = none := T.free (T.c.fact 37 rfl)
theorem Tx.z_sum (T : Tx K mg) : mg "sum" = none := T.free (T.c.fact 38 rfl)
theorem Tx.z_tuple (T : Tx K mg) : mg "tuple" = none := T.free (T.c.fact 39 rfl)
theorem Tx.n_NoCell_row (T : Tx K mg) : NoAttr K (He.ga K "NoCell") "row" := He.noat_ok (x := "NoCell") (f := "row") (T.c.fact 40 rfl)
theorem Tx.n_NoCell_column (T : Tx K mg) : NoAttr K (He.ga K "NoCell") "column" := He.noat_ok (x := "NoCell") (f := "column") (T.c.fact 41 rfl)
theorem Tx.m_NoCell_init (T : Tx K mg) : Meth K (He.ga K "NoCell") "__init__" (He.ma K (He.ga K "NoCell") "__init__") := He.meth_ok (x := "NoCell") (m := "__init__") (T.c.fact 42 rfl)
theorem Tx.f__wall (T : Tx K mg) : ∃ fd, FunD K "_wall" "_wall" (defArgs s__wall) (defBody s__wall) (defScope s__wall) [] [] (He.ga K "_wall") fd := T.c.def_ 0 (d := D.d__wall) rfl
theorem Tx.f_HallError_told (T : Tx K mg) : ∃ fd, FunD K "told" "HallError.told" (defArgs s_HallError_told) (defBody s_HallError_told) (defScope s_HallError_told) [] [] (He.ma K (He.ga K "HallError") "told") fd := T.c.def_ 1 (d := D.d_HallError_told) rfl
theorem Tx.f_NoCell_init (T : Tx K mg) : ∃ fd, FunD K "__init__" "NoCell.__init__" (defArgs s_NoCell_init) (defBody s_NoCell_init) (defScope s_NoCell_init) [] [] (He.ma K (He.ga K "NoCell") "__init__") fd := T.c.def_ 2 (d := D.d_NoCell_init) rfl
theorem Tx.f_NoCell_told (T : Tx K mg) : ∃ fd, FunD K "told" "NoCell.told" (defArgs s_NoCell_told) (defBody s_NoCell_told) (defScope s_NoCell_told) [] [] (He.ma K (He.ga K "NoCell") "told") fd := T.c.def_ 3 (d := D.d_NoCell_told) rfl
theorem Tx.f_cells_of (T : Tx K mg) : ∃ fd, FunD K "cells_of" "cells_of" (defArgs s_cells_of) (defBody s_cells_of) (defScope s_cells_of) [] [] (He.ga K "cells_of") fd := T.c.def_ 4 (d := D.d_cells_of) rfl
theorem Tx.f_last_cell (T : Tx K mg) : ∃ fd, FunD K "last_cell" "last_cell" (defArgs s_last_cell) (defBody s_last_cell) (defScope s_last_cell) [] [] (He.ga K "last_cell") fd := T.c.def_ 5 (d := D.d_last_cell) rfl
theorem Tx.f_number_at (T : Tx K mg) : ∃ fd, FunD K "number_at" "number_at" (defArgs s_number_at) (defBody s_number_at) (defScope s_number_at) [] [] (He.ga K "number_at") fd := T.c.def_ 6 (d := D.d_number_at) rfl
theorem Tx.f_read_hidden (T : Tx K mg) : ∃ fd, FunD K "read_hidden" "read_hidden" (defArgs s_read_hidden) (defBody s_read_hidden) (defScope s_read_hidden) [] [] (He.ga K "read_hidden") fd := T.c.def_ 7 (d := D.d_read_hidden) rfl
theorem Tx.f_refuse_no_cell (T : Tx K mg) : ∃ fd, FunD K "refuse_no_cell" "refuse_no_cell" (defArgs s_refuse_no_cell) (defBody s_refuse_no_cell) (defScope s_refuse_no_cell) [] [] (He.ga K "refuse_no_cell") fd := T.c.def_ 8 (d := D.d_refuse_no_cell) rfl
theorem Tx.f_fits (T : Tx K mg) : ∃ fd, FunD K "fits" "fits" (defArgs s_fits) (defBody s_fits) (defScope s_fits) [] [] (He.ga K "fits") fd := T.c.def_ 9 (d := D.d_fits) rfl
theorem Tx.f_is_as_wide (T : Tx K mg) : ∃ fd, FunD K "is_as_wide" "is_as_wide" (defArgs s_is_as_wide) (defBody s_is_as_wide) (defScope s_is_as_wide) [] [] (He.ga K "is_as_wide") fd := T.c.def_ 10 (d := D.d_is_as_wide) rfl
theorem Tx.f_has_right_sums (T : Tx K mg) : ∃ fd, FunD K "has_right_sums" "has_right_sums" (defArgs s_has_right_sums) (defBody s_has_right_sums) (defScope s_has_right_sums) [] [] (He.ga K "has_right_sums") fd := T.c.def_ 11 (d := D.d_has_right_sums) rfl
theorem Tx.f__law_cell (T : Tx K mg) : ∃ fd, FunD K "_law_cell" "_law_cell" (defArgs s__law_cell) (defBody s__law_cell) (defScope s__law_cell) [] [] (He.ga K "_law_cell") fd := T.c.def_ 12 (d := D.d__law_cell) rfl
theorem Tx.f__law_rng (T : Tx K mg) : ∃ fd, FunD K "_law_rng" "_law_rng" (defArgs s__law_rng) (defBody s__law_rng) (defScope s__law_rng) [] [] (He.ga K "_law_rng") fd := T.c.def_ 13 (d := D.d__law_rng) rfl
theorem Tx.f__law_draw (T : Tx K mg) : ∃ fd, FunD K "_law_draw" "_law_draw" (defArgs s__law_draw) (defBody s__law_draw) (defScope s__law_draw) [] [] (He.ga K "_law_draw") fd := T.c.def_ 14 (d := D.d__law_draw) rfl
theorem Tx.f__law_pick (T : Tx K mg) : ∃ fd, FunD K "_law_pick" "_law_pick" (defArgs s__law_pick) (defBody s__law_pick) (defScope s__law_pick) [] [] (He.ga K "_law_pick") fd := T.c.def_ 15 (d := D.d__law_pick) rfl
theorem Tx.f__law_sample (T : Tx K mg) : ∃ fd, FunD K "_law_sample" "_law_sample" (defArgs s__law_sample) (defBody s__law_sample) (defScope s__law_sample) [] [] (He.ga K "_law_sample") fd := T.c.def_ 16 (d := D.d__law_sample) rfl
theorem Tx.f__law_with_sums (T : Tx K mg) : ∃ fd, FunD K "_law_with_sums" "_law_with_sums" (defArgs s__law_with_sums) (defBody s__law_with_sums) (defScope s__law_with_sums) [] [] (He.ga K "_law_with_sums") fd := T.c.def_ 17 (d := D.d__law_with_sums) rfl
theorem Tx.f__law_random_grid (T : Tx K mg) : ∃ fd, FunD K "_law_random_grid" "_law_random_grid" (defArgs s__law_random_grid) (defBody s__law_random_grid) (defScope s__law_random_grid) [] [] (He.ga K "_law_random_grid") fd := T.c.def_ 18 (d := D.d__law_random_grid) rfl
theorem Tx.f__law_cells (T : Tx K mg) : ∃ fd, FunD K "_law_cells" "_law_cells" (defArgs s__law_cells) (defBody s__law_cells) (defScope s__law_cells) [] [] (He.ga K "_law_cells") fd := T.c.def_ 19 (d := D.d__law_cells) rfl
theorem Tx.f__law_random_hidden (T : Tx K mg) : ∃ fd, FunD K "_law_random_hidden" "_law_random_hidden" (defArgs s__law_random_hidden) (defBody s__law_random_hidden) (defScope s__law_random_hidden) [] [] (He.ga K "_law_random_hidden") fd := T.c.def_ 20 (d := D.d__law_random_hidden) rfl
theorem Tx.f__law_fits (T : Tx K mg) : ∃ fd, FunD K "_law_fits" "_law_fits" (defArgs s__law_fits) (defBody s__law_fits) (defScope s__law_fits) [] [] (He.ga K "_law_fits") fd := T.c.def_ 21 (d := D.d__law_fits) rfl
theorem Tx.f__law_shifted (T : Tx K mg) : ∃ fd, FunD K "_law_shifted" "_law_shifted" (defArgs s__law_shifted) (defBody s__law_shifted) (defScope s__law_shifted) [] [] (He.ga K "_law_shifted") fd := T.c.def_ 22 (d := D.d__law_shifted) rfl
theorem Tx.f__law_square (T : Tx K mg) : ∃ fd, FunD K "_law_square" "_law_square" (defArgs s__law_square) (defBody s__law_square) (defScope s__law_square) [] [] (He.ga K "_law_square") fd := T.c.def_ 23 (d := D.d__law_square) rfl
theorem Tx.f__law_broken (T : Tx K mg) : ∃ fd, FunD K "_law_broken" "_law_broken" (defArgs s__law_broken) (defBody s__law_broken) (defScope s__law_broken) [] [] (He.ga K "_law_broken") fd := T.c.def_ 24 (d := D.d__law_broken) rfl
theorem Tx.f_law (T : Tx K mg) : ∃ fd, FunD K "law" "law" (defArgs s_law) (defBody s_law) (defScope s_law) [] [] (He.ga K "law") fd := T.c.def_ 25 (d := D.d_law) rfl
end
end K3
end A0_part
section V0_part
set_option Elab.async false
set_option linter.all false
set_option maxRecDepth 100000
set_option maxHeartbeats 0
namespace L2
open PySem PySem.Spec PyProof.Rows
/-! ### a def and its promise, for all callers -/
structure Ok (P : Program) (w : World) (K : PySem.W.Frag) (mg : Str → Option Value) (base : Heap) (k : Nat) (f : Addr) (ps : List Str) (sp : Sp) : Prop where
  run : ∃ fd, FnOk P w K mg base (L2.CX P w) k f fd ps sp ∧ Binds K fd ps [] ∧ PySem.W.keepIn K (.ref f) = true
section
variable {X : Cx} {k : Nat} {f : Addr} {ps : List Str} {sp : Sp} {x : Str} {e : Expr} {es : List Expr} {p pos : Pos} {t : TA}
/-- f(e, ..), nothing is raised -/
theorem pe_f (O : Ok X.prog X.w X.K X.mg X.base k f ps sp) (hr : Room k X.A) (hm : X.mg x = some (.ref f)) (ha : PA X (e :: es) t) (hg : Gl X x := by rfl) (hdb : (x == ("__debug__" : Str)) = false := by decide)
    (he : starEach (e :: es) X.env = (false, eval e X.env) :: starEach es X.env := by rfl) (hpl : (backTo pos (starEach es X.env)).any (·.1) = false := by rfl) :
    PE X (.Call (.Name x p) (e :: es) [] pos) (tCall sp [] E0 t) := by
  obtain ⟨fd, F, b, kp⟩ := O.run
  exact pe_call F hr hg hm kp b .nil passL ha hdb he hpl
/-- f(e, ..), what is raised is wished for by W at the slots -/
theorem pe_fE {W : WX} (tk : Takes X W) (O : Ok X.prog X.w X.K X.mg X.base k f ps sp) (hr : Room k X.A) (hm : X.mg x = some (.ref f)) (ha : PA X (e :: es) t) (hg : Gl X x := by rfl) (hdb : (x == ("__debug__" : Str)) = false := by decide)
    (he : starEach (e :: es) X.env = (false, eval e X.env) :: starEach es X.env := by rfl) (hpl : (backTo pos (starEach es X.env)).any (·.1) = false := by rfl) :
    PE X (.Call (.Name x p) (e :: es) [] pos) (tCallS sp (WE W) t) := by
  obtain ⟨fd, F, b, kp⟩ := O.run
  exact pe_callS F hr hg hm kp b (fun σ => passAt tk σ) ha hdb he hpl
theorem pe_gint {i : Int} (hm : ∃ t, X.mg x = some (.int i t)) (hg : Gl X x := by rfl) (hd : (x == ("__debug__" : Str)) = false := by decide) : PE X (.Name x pos) (tC (.int i)) := by
  obtain ⟨t, h⟩ := hm
  exact pe_glob hg h ⟨_, rfl⟩ hd
theorem pe_gstr {i : Str} (hm : ∃ t, X.mg x = some (.str i t)) (hg : Gl X x := by rfl) (hd : (x == ("__debug__" : Str)) = false := by decide) : PE X (.Name x pos) (tC (.str i)) := by
  obtain ⟨t, h⟩ := hm
  exact pe_glob hg h ⟨_, rfl⟩ hd
theorem pe_gref {a : Addr} (hm : X.mg x = some (.ref a)) (hg : Gl X x := by rfl) (hd : (x == ("__debug__" : Str)) = false := by decide) : PE X (.Name x pos) (tC (.ref a)) := pe_glob hg hm rfl hd
end
/-! ### readings, step by step -/
section
variable {σ : St} {H : Hp} {D : Ends} {t u : TS} {te ta tb tc : TE} {tt tt2 : TT} {tr : TA} {Q : VK} {QB : Bool → Hp → Prop} {QA : List V → Hp → Prop} {i : Nat} {v x y : V}
theorem w_seq (h : t { D with nx := u D } σ H) : tSeq t u D σ H := h
theorem w_next (h : D.nx σ H) : tNext D σ H := h
theorem w_set (h : te σ H fun x H1 => D.nx (σ.set i (some x)) H1) : tAsg te (gName i) D σ H := h
theorem w_drop (h : te σ H fun _ H1 => D.nx σ H1) : tDrop te D σ H := h
theorem w_ret (h : te σ H D.rt) : tRet te D σ H := h
theorem w_retN (h : D.rt .non H) : tRetN D σ H := h
theorem w_if (h : tt σ H fun b H1 => if b = true then t D σ H1 else u D σ H1) : tIfS tt t u D σ H := h
theorem w_var (h : σ[i]? = some (some v)) (q : Q v H) : tVar i σ H Q := ⟨v, h, q⟩
theorem w_c (q : Q v H) : tC v σ H Q := q
theorem w_nil (q : QA [] H) : tNil σ H QA := q
theorem w_cons (h : te σ H fun x H1 => tr σ H1 fun xs H2 => QA (x :: xs) H2) : tCons te tr σ H QA := h
theorem w_op {r : R2} (h : ta σ H fun x H1 => tb σ H1 fun y H2 => r x y H2 Q) : tOp r ta tb σ H Q := h
theorem w_un {r : V → Hp → VK → Prop} (h : ta σ H fun x H1 => r x H1 Q) : tUn r ta σ H Q := h
theorem w_test (h : te σ H fun x H' => ∃ k, x = .bl k ∧ QB k H') : tTest te σ H QB := h
theorem w_tB (h : te σ H fun x H' => ∃ k, x = .bl k ∧ QB k H') : tB te σ H QB := h
theorem w_not (h : tt σ H fun c H1 => QB (!c) H1) : tNot tt σ H QB := h
theorem w_and (h : tt σ H fun c H1 => if c = true then tt2 σ H1 QB else QB false H1) : tAnd tt tt2 σ H QB := h
theorem w_or (h : tt σ H fun c H1 => if c = true then QB true H1 else tt2 σ H1 QB) : tOr tt tt2 σ H QB := h
theorem w_bl {b : Bool} {P : Bool → Prop} (h : P b) : ∃ k, V.bl b = .bl k ∧ P k := ⟨b, rfl, h⟩
theorem w_nT {A B : Prop} (h : B) : if (!true) = true then A else B := iteF h
theorem w_nF {A B : Prop} (h : A) : if (!false) = true then A else B := iteT h
theorem w_nN {A B : Prop} {b : Bool} (h : if b = true then B else A) : if (!b) = true then A else B := by cases b <;> exact h
theorem w_andV (h : ta σ H fun x H1 => ∃ c, x = .bl c ∧ if c = true then tb σ H1 Q else Q (.bl false) H1) : tAndV ta tb σ H Q := h
theorem w_orV (h : ta σ H fun x H1 => ∃ c, x = .bl c ∧ if c = true then Q (.bl true) H1 else tb σ H1 Q) : tOrV ta tb σ H Q := h
theorem w_notV (h : ta σ H fun x H1 => ∃ c, x = .bl c ∧ Q (.bl (!c)) H1) : tNotV ta σ H Q := h
theorem w_ifE (h : tt σ H fun c H1 => if c = true then ta σ H1 Q else tb σ H1 Q) : tIf tt ta tb σ H Q := h
theorem w_chain {r r' : R2} (h : ta σ H fun x H1 => tb σ H1 fun y H2 => r x y H2 fun z H3 => ∃ k, z = .bl k ∧ (if k = true then tc σ H3 fun w' H4 => r' y w' H4 Q else Q (.bl false) H3)) : tChain r r' ta tb tc σ H Q := h
theorem w_i0 {g : Int → Int → V} {i j : Int} (h : Q (g i j) H) : rI0 g (.int i) (.int j) H Q := ⟨i, j, rfl, rfl, h⟩
theorem w_i {C : Int → Int → Prop} {g : Int → Int → V} {i j : Int} (c : C i j) (h : Q (g i j) H) : rI C g (.int i) (.int j) H Q := ⟨i, j, rfl, rfl, c, h⟩
theorem w_call {sp : Sp} {dvs : List V} {E : XK} (h : tr σ H fun vs H1 => sp (vs ++ dvs) H1 Q E) : tCall sp dvs E tr σ H Q := h
theorem w_callS {sp : Sp} {E : St → XK} (h : tr σ H fun vs H1 => sp vs H1 Q (E σ)) : tCallS sp E tr σ H Q := h
theorem w_cB {r : List V → Hp → VK → Prop} (h : tr σ H fun vs H1 => r vs H1 Q) : tCB r tr σ H Q := h
theorem w_tup (h : tr σ H fun xs H1 => xs.length ≤ sizeLine ∧ ∀ p, H1 p = none → Q (.ref p) (upd H1 p (.tup xs))) : tTup tr σ H Q := h
theorem w_lst (h : tr σ H fun xs H1 => xs.length ≤ sizeLine ∧ ∀ p, H1 p = none → Q (.ref p) (upd H1 p (.lst xs))) : tLst tr σ H Q := h
theorem w_fldV {K : PySem.W.Frag} {f : Str} (h : ta σ H fun x H1 => ∃ a C dx fs v, x = .ref a ∧ H1 a = some (.ins C dx fs) ∧ Cls K C ∧ NoAttr K C f ∧ fs.lookup f = some v ∧ Q v H1) : tFld K ta f σ H Q := h
theorem w_eqS {a b : Str} (h : Q (.bl (decide (V.str a = V.str b))) H) : rEq (.str a) (.str b) H Q := ⟨rfl, h⟩
theorem w_neF {A B : Prop} {a b : Bool} (h : if b = true then A else B) : if (if false = true then a else b) = true then A else B := by
  rw [if_neg Bool.false_ne_true]
  exact h
theorem w_neT {A B : Prop} {a b : Bool} (h : if a = true then A else B) : if (if true = true then a else b) = true then A else B := by
  rw [if_pos (rfl : true = true)]
  exact h
theorem w_yes (h : QB true H) : tYes σ H QB := h
theorem w_notN (h : ta σ H fun x H1 => Q (.bl (!decide (x = .non))) H1) : tNotN ta σ H Q := h
theorem w_isN (h : ta σ H fun x H1 => Q (.bl (decide (x = .non))) H1) : tIsN ta σ H Q := h
theorem w_gname {QS : L2.St → Hp → Prop} (h : QS (σ.set i (some v)) H) : gName i v σ H QS := h
theorem w_gsub {to ti : TE} {t : TSet} {QS : L2.St → Hp → Prop} (h : to σ H fun o H1 => ti σ H1 fun i H2 => t o i v H2 fun H3 => QS σ H3) : gSub to ti t v σ H QS := h
theorem w_asg {g : TG} (h : te σ H fun x H1 => g x σ H1 D.nx) : tAsg te g D σ H := h
theorem w_ixL {K : PySem.W.Frag} {p : Addr} {xs : List V} {i : Int} (hl : H p = some (.lst xs)) (ha : atI xs i = some v) (h : Q v H) : rIxL K (.ref p) (.int i) H Q := ⟨p, xs, i, v, rfl, rfl, SqL.of hl, ha, h⟩
theorem w_ixT {K : PySem.W.Frag} {p : Addr} {xs : List V} {i : Int} (hl : SqT K H p xs) (ha : atI xs i = some v) (h : Q v H) : rIxT K (.ref p) (.int i) H Q := ⟨p, xs, i, v, rfl, rfl, hl, ha, h⟩
theorem w_setL {p : Addr} {xs : List V} {i : Int} {j : Nat} {QH : Hp → Prop} (hl : H p = some (.lst xs)) (hj : ixN xs.length i = some j) (h : QH (upd H p (.lst (xs.set j v)))) : rSetL (.ref p) (.int i) v H QH := ⟨p, xs, i, j, rfl, rfl, hl, hj, h⟩
theorem w_iteT {A B : Prop} (h : A) : if true = true then A else B := iteT h
theorem w_iteF {A B : Prop} (h : B) : if false = true then A else B := iteF h
end
end L2
namespace L2
open PySem PySem.Spec PyProof.Rows
theorem Same.new {H : Hp} {p : Addr} (h : H p = none) (o : HO) : Same H (upd H p o) := fun b u q => by rw [upd_ne (ne_of_none q h)]; exact q
theorem Same.at {H H' : Hp} (s : Same H H') {a : Addr} {o : HO} (h : H a = some o) : H' a = some o := s _ _ h
/-- an object that H does not know may change -/
theorem Same.mut {H H' : Hp} {p : Addr} {o : HO} (e : Same H H') (h : H p = none) : Same H (upd H' p o) := fun a u ha => by
  rw [upd_ne (ne_of_none ha h)]
  exact e a u ha
theorem Same.sqt {K : PySem.W.Frag} {H H' : Hp} {a : Addr} {xs : List V} (e : Same H H') (h : SqT K H a xs) : SqT K H' a xs := by
  rcases h with (h | ⟨o, h⟩) | h
  · exact .inl (.inl (e _ _ h))
  · exact .inl (.inr ⟨o, e _ _ h⟩)
  · exact .inr h
/-- instances and tuples stand -/
def keepF : List (Str × V) → Bool
  | [] => false
  | [(f, _)] => decide (f = ("inner" : Str))
  | [_, (g, _)] => !decide (g = ("questions" : Str))
  | _ => true
def keepO : HO → Bool
  | .ins _ _ fs => keepF fs
  | .tup _ => true
  | .frz _ _ => true
  | _ => false
def SI (H H' : Hp) : Prop := ∀ b o, keepO o = true → H b = some o → H' b = some o
theorem Same.si {H H' : Hp} (e : Same H H') : SI H H' := fun b o _ h => e b o h
theorem SI.trans {H H1 H2 : Hp} (a : SI H H1) (b : SI H1 H2) : SI H H2 := fun c o k h => b c o k (a c o k h)
theorem SI.refl (H : Hp) : SI H H := fun _ _ _ h => h
theorem SI.upd {H : Hp} {p : Addr} {u : HO} (h : H p = some u) (hu : keepO u = false) (o : HO) : SI H (upd H p o) := fun b o' k q => by
  rw [upd_ne (fun z => by rw [z, h] at q; rw [← Option.some.inj q, hu] at k; cases k)]
  exact q
theorem SI.sqt {K : PySem.W.Frag} {H H' : Hp} {a : Addr} {xs : List V} (e : SI H H') (h : SqT K H a xs) : SqT K H' a xs := by
  rcases h with (h | ⟨o, h⟩) | h
  · exact .inl (.inl (e _ _ rfl h))
  · exact .inl (.inr ⟨o, e _ _ rfl h⟩)
  · exact .inr h
/-- [te for c in z]: each element is f c -/
theorem lc_strF {z : Str} {f : Nat → V} {σ : St} {i : Nat} {vs : List Nat} {ta te : TE} {H : Hp} {Q : VK} (ha : ∀ (Q : VK), Q (.str z) H → ta σ H Q) (hz : z.cps.size ≤ 1000) (hw : ∀ x, wipe ((wipe σ vs).set i (some x)) vs = wipe σ vs)
    (he : ∀ (c : Nat) (H' : Hp) (Q : VK), Same H H' → Q (f c) H' → te ((wipe σ vs).set i (some (.str ⟨#[c]⟩))) H' Q)
    (q : ∀ (p : Addr) (H' : Hp), H p = none → Same H H' → H' p = some (.lst (z.cps.toList.map f)) → Q (.ref p) H') : tLc (iStr ta) (gName i) tYes te vs σ H Q := by
  refine ha _ ⟨z, rfl, fun p hp => ?_⟩
  refine lc_it (n := z.cps.size) walk_str (fun n H' => Same H H' ∧ H' p = some (.lst ((z.cps.toList.take n).map f))) ⟨Same.new hp _, upd_same⟩ (fun _ _ _ _ => trivial) ?_ ?_
  · rintro n x H1 H2 hn ⟨s1, e1⟩ ⟨rfl, c, hc, rfl⟩
    refine ⟨hw _, ?_⟩
    refine w_yes ?_
    refine w_iteT ?_
    refine (he c _ _ s1 ⟨_, e1, ?_, s1.mut hp, ?_⟩)
    · rw [List.length_map, List.length_take, Array.length_toList]
      exact Nat.lt_of_lt_of_le (Nat.lt_of_le_of_lt (Nat.min_le_left _ _) (Nat.lt_of_lt_of_le hn hz)) (by decide)
    · rw [upd_same, List.take_add_one]
      have : z.cps.toList[n]? = some c := by rw [Array.getElem?_toList]; exact hc
      rw [this]
      simp
  · rintro H' ⟨s1, e1⟩
    refine q p H' hp s1 ?_
    rw [e1, List.take_of_length_le (by rw [Array.length_toList] <;> exact Nat.le_refl _)]
end L2
end V0_part
section G0_part
set_option Elab.async false
set_option linter.all false
set_option maxRecDepth 100000
set_option maxHeartbeats 1000000
set_option pp.deepTerms.threshold 5
open PySem PySem.Spec PyProof.Rows L2
/-- go on as far as nothing is open -/
local macro_rules | `(tactic| walk_at "go") => `(tactic| repeat (first
  | with_reducible refine w_seq ?_ | with_reducible refine w_next ?_ | with_reducible refine w_set ?_ | with_reducible refine w_drop ?_ | with_reducible refine w_ret ?_ | with_reducible refine w_retN ?_
  | with_reducible refine w_if ?_ | ((with_reducible refine' w_var ?hv ?_); (case hv => exact rfl)) | with_reducible refine w_c ?_ | with_reducible refine w_nil ?_ | with_reducible refine w_cons ?_ | with_reducible refine w_op ?_ | with_reducible refine w_un ?_
  | with_reducible refine w_test ?_ | with_reducible refine w_tB ?_ | with_reducible refine w_not ?_ | with_reducible refine w_and ?_ | with_reducible refine w_or ?_ | with_reducible refine w_bl ?_
  | with_reducible refine w_andV ?_ | with_reducible refine w_orV ?_ | with_reducible refine w_notV ?_ | with_reducible refine w_ifE ?_ | with_reducible refine w_chain ?_ | with_reducible refine w_i0 ?_
  | with_reducible refine w_call ?_ | with_reducible refine w_callS ?_ | with_reducible refine w_cB ?_ | with_reducible refine w_tup ?_ | with_reducible refine w_lst ?_ | with_reducible refine w_fldV ?_
  | with_reducible refine w_neF ?_ | with_reducible refine w_neT ?_ | with_reducible refine w_notN ?_ | with_reducible refine w_isN ?_ | with_reducible refine w_gname ?_ | with_reducible refine w_gsub ?_ | with_reducible refine w_asg ?_ | with_reducible refine w_yes ?_ | with_reducible refine w_nT ?_ | with_reducible refine w_nF ?_ | with_reducible refine w_iteT ?_ | with_reducible refine w_iteF ?_))
namespace L2
open PySem PySem.Spec PyProof.Rows
section
variable {σ : St} {H : Hp} {te : TE} {tl th : TO} {Q : VK} {QO : Option Int → Hp → Prop} {r : V → Option Int → Option Int → Hp → VK → Prop}
theorem w_sl (h : te σ H fun x H1 => tl σ H1 fun l H2 => th σ H2 fun u H3 => r x l u H3 Q) : tSl r te tl th σ H Q := h
theorem w_noP (h : QO none H) : tNoPart σ H QO := h
theorem w_part (h : te σ H fun x H1 => ∃ i, x = .int i ∧ QO (some i) H1) : tPart te σ H QO := h
theorem w_int1 {i : Int} {P : Int → Prop} (h : P i) : ∃ j, V.int i = .int j ∧ P j := ⟨i, rfl, h⟩
end
end L2

namespace K3
/-! ### heaps less what may change -/
def less (H : Hp) (M : List Addr) : Hp := fun b => if b ∈ M then none else H b
/-- all stands, what is in M perhaps changed -/
def BM (M : List Addr) (H H' : Hp) : Prop := ∀ b o, H b = some o → ∃ o', H' b = some o' ∧ (b ∉ M → o' = o)
theorem BM.refl (M : List Addr) (H : Hp) : BM M H H := fun _ o h => ⟨o, h, fun _ => rfl⟩
theorem BM.trans {M : List Addr} {H H1 H2 : Hp} (a : BM M H H1) (b : BM M H1 H2) : BM M H H2 := fun c o h => by
  obtain ⟨o1, h1, k1⟩ := a c o h
  obtain ⟨o2, h2, k2⟩ := b c o1 h1
  exact ⟨o2, h2, fun k => (k2 k).trans (k1 k)⟩
theorem BM.at {M : List Addr} {H H1 : Hp} (a : BM M H H1) {b : Addr} {o : HO} (h : H b = some o) (k : b ∉ M) : H1 b = some o := by
  obtain ⟨o1, h1, k1⟩ := a b o h
  rw [h1, k1 k]
theorem BM.of {M : List Addr} {H H1 : Hp} (a : Same H H1) : BM M H H1 := fun c o h => ⟨o, a c o h, fun _ => rfl⟩
theorem BM.mono {M N : List Addr} {H H1 : Hp} (a : BM M H H1) (s : ∀ b ∈ M, b ∈ N) : BM N H H1 := fun c o h => by
  obtain ⟨o1, h1, k1⟩ := a c o h
  exact ⟨o1, h1, fun k => k1 fun z => k (s c z)⟩
theorem BM.upd {M : List Addr} {H : Hp} {p : Addr} (hp : p ∈ M) (o : HO) : BM M H (upd H p o) := fun b u h => by
  by_cases c : b = p
  · exact ⟨o, by rw [c]; exact upd_same, fun k => absurd (by rw [c]; exact hp) k⟩
  · exact ⟨u, by rw [upd_ne c]; exact h, fun _ => rfl⟩
theorem BM.less {M : List Addr} {H H1 : Hp} (a : BM M H H1) : Same (less H M) (less H1 M) := fun b o h => by
  unfold K3.less at h ⊢
  by_cases c : b ∈ M
  · rw [if_pos c] at h; cases h
  · rw [if_neg c] at h ⊢
    exact a.at h c
theorem BM.free {M : List Addr} {H H1 : Hp} (h : BM M H H1) {p : Addr} (hp : H1 p = none) : H p = none := by
  cases e : H p with
  | none => rfl
  | some o =>
    obtain ⟨o1, h1, _⟩ := h p o e
    rw [hp] at h1
    cases h1
theorem less_at {H : Hp} {M : List Addr} {b : Addr} {o : HO} (h : less H M b = some o) : H b = some o ∧ b ∉ M := by
  unfold less at h
  by_cases c : b ∈ M
  · rw [if_pos c] at h; cases h
  · rw [if_neg c] at h; exact ⟨h, c⟩
theorem less_of {H : Hp} {M : List Addr} {b : Addr} {o : HO} (h : H b = some o) (c : b ∉ M) : less H M b = some o := by
  unfold less
  rw [if_neg c]
  exact h
theorem less_same {H : Hp} {M : List Addr} : Same (less H M) H := fun b o h => (less_at h).1
/-- all of M is there -/
def In (M : List Addr) (H : Hp) : Prop := ∀ m ∈ M, ∃ o, H m = some o
theorem In.new {M : List Addr} {H : Hp} {p : Addr} (h : In M H) (hp : H p = none) : p ∉ M := fun z => by obtain ⟨o, e⟩ := h p z; rw [hp] at e; cases e
theorem In.bm {M N : List Addr} {H H' : Hp} (h : In M H) (e : BM N H H') : In M H' := fun m hm => by
  obtain ⟨o, q⟩ := h m hm
  obtain ⟨o', q', _⟩ := e m o q
  exact ⟨o', q'⟩
/-- the source of draws -/
def Src (H : Hp) (s : Addr) : Prop := ∃ a b c : Int, H s = some (.lst [.int a, .int b, .int c])
theorem Src.bm {M : List Addr} {H H' : Hp} {s : Addr} (h : Src H s) (e : BM M H H') (k : s ∉ M) : Src H' s := let ⟨a, b, c, q⟩ := h; ⟨a, b, c, e.at q k⟩
theorem Src.same {H H' : Hp} {s : Addr} (h : Src H s) (e : Same H H') : Src H' s := let ⟨a, b, c, q⟩ := h; ⟨a, b, c, e _ _ q⟩
theorem Paired.app {α β : Type} {F : α → β → Prop} : ∀ {l1 l3 : List α} {l2 l4 : List β}, Paired F l1 l2 → Paired F l3 l4 → Paired F (l1 ++ l3) (l2 ++ l4)
  | _, _, _, _, .nil, h => h
  | _, _, _, _, .cons a t, h => .cons a (Paired.app t h)
theorem Paired.get {α β : Type} {F : α → β → Prop} : ∀ {l1 : List α} {l2 : List β}, Paired F l1 l2 → ∀ {i : Nat} {x : α}, l1[i]? = some x → ∃ y, l2[i]? = some y ∧ F x y
  | _, _, .nil, i, x, h => by simp at h
  | _, _, .cons (a := a) (b := b) h t, 0, x, e => by
    have e' : a = x := by simpa using e
    subst e'
    exact ⟨b, rfl, h⟩
  | _, _, .cons h t, i + 1, x, e => Paired.get t (i := i) (by simpa using e)
def rEqE (K : PySem.W.Frag) : R2 := fun x y H Q => ∃ (a b : Addr) (xs ys : List V), x = .ref a ∧ y = .ref b ∧ SqL K H a xs ∧ SqL K H b ys ∧ (xs = [] ∨ ys = [] ∨ xs.length ≠ ys.length) ∧ Q (.bl (decide (xs = [] ∧ ys = []))) H
def rNeE (K : PySem.W.Frag) : R2 := fun x y H Q => ∃ (a b : Addr) (xs ys : List V), x = .ref a ∧ y = .ref b ∧ SqL K H a xs ∧ SqL K H b ys ∧ (xs = [] ∨ ys = [] ∨ xs.length ≠ ys.length) ∧ Q (.bl (!decide (xs = [] ∧ ys = []))) H
theorem sizes {xs ys : List V} {is js : List Value} (r1 : Vals xs is) (r2 : Vals ys js) (h : xs = [] ∨ ys = [] ∨ xs.length ≠ ys.length) (c : ¬ (xs = [] ∧ ys = [])) : (is.toArray.size != js.toArray.size) = true := by
  have e1 := r1.length
  have e2 := r2.length
  simp only [List.size_toArray, bne_iff_ne, ne_eq]
  rw [← e1, ← e2]
  intro z
  rcases h with h | h | h
  · rw [h] at z
    exact c ⟨h, List.length_eq_zero_iff.mp z.symm⟩
  · rw [h] at z
    exact c ⟨List.length_eq_zero_iff.mp z, h⟩
  · exact h z
theorem op_eqE {X : Cx} (hu : X.A.units < cLine) : OpR X (compareOp .Eq) (rEqE X.K) := by
  intro pins s σ H x y v u Q I rx ry h
  obtain ⟨a, b, xs, ys, rfl, rfl, ha, hb, hs, q⟩ := h
  cases rx
  cases ry
  obtain ⟨is, r1, p1, _⟩ := I.list ha
  obtain ⟨js, r2, p2, _⟩ := I.list hb
  by_cases c : xs = [] ∧ ys = []
  · rw [decide_eq_true c] at q
    obtain ⟨rfl, rfl⟩ := c
    cases r1
    cases r2
    exact SeqAt.eq_listAt (e := fun _ => true) p1.isList p2.isList rfl hu (fun j h1 => absurd h1 (Nat.not_lt_zero _)) ⟨.bl true, H, I, rfl, q⟩
  · rw [decide_eq_false c] at q
    exact SeqAt.eq_list_lengthsAt p1.isList p2.isList (sizes r1 r2 hs c) hu ⟨.bl false, H, I, rfl, q⟩
theorem op_neE {X : Cx} (hu : X.A.units < cLine) : OpR X (compareOp .NotEq) (rNeE X.K) := by
  intro pins s σ H x y v u Q I rx ry h
  obtain ⟨a, b, xs, ys, rfl, rfl, ha, hb, hs, q⟩ := h
  cases rx
  cases ry
  obtain ⟨is, r1, p1, _⟩ := I.list ha
  obtain ⟨js, r2, p2, _⟩ := I.list hb
  by_cases c : xs = [] ∧ ys = []
  · rw [decide_eq_true c] at q
    obtain ⟨rfl, rfl⟩ := c
    cases r1
    cases r2
    exact SeqAt.RcNeAt.lists (e := fun _ => true) p1.isList p2.isList rfl hu (fun j h1 => absurd h1 (Nat.not_lt_zero _)) X.prog X.w X.xe _ ⟨.bl false, H, I, rfl, q⟩
  · rw [decide_eq_false c] at q
    exact SeqAt.RcNeAt.lists_lengths p1.isList p2.isList (sizes r1 r2 hs c) hu X.prog X.w X.xe _ ⟨.bl true, H, I, rfl, q⟩

theorem cut_to (xs : List V) (i : Nat) : cutV xs none (some (i : Int)) = xs.take i := by
  unfold cutV
  rw [HT.sIx_none, HT.sIx_nat, List.drop_zero, Nat.sub_zero]
  by_cases h : i ≤ xs.length
  · rw [Nat.min_eq_left h]
  · rw [Nat.min_eq_right (by omega), List.take_length, List.take_of_length_le (by omega)]
theorem cut_from (xs : List V) (i : Nat) : cutV xs (some (i : Int)) none = xs.drop i := by
  unfold cutV
  rw [HT.sIx_none, HT.sIx_nat]
  by_cases h : i ≤ xs.length
  · rw [Nat.min_eq_left h, List.take_of_length_le (by rw [List.length_drop]; omega)]
  · rw [Nat.min_eq_right (by omega), List.drop_length, List.take_nil, List.drop_of_length_le (by omega)]
theorem w_ifR {tt : TT} {t u : TS} {D : L2.Ends} {σ : L2.St} {H : Hp} (R : Bool → Hp → Prop) (h : ∀ QB : Bool → Hp → Prop, (∀ b H', R b H' → QB b H') → tt σ H QB) (h1 : ∀ H', R true H' → t D σ H') (h2 : ∀ H', R false H' → u D σ H') : tIfS tt t u D σ H :=
  h _ fun b H' r => by
    cases b with
    | true => exact h1 H' r
    | false => exact h2 H' r
theorem less_upd {H : Hp} {M : List Addr} {p : Addr} (h : p ∈ M) (o : HO) : less (upd H p o) M = less H M := by
  funext b
  unfold K3.less
  by_cases c : b ∈ M
  · rw [if_pos c, if_pos c]
  · rw [if_neg c, if_neg c, upd_ne (fun z => c (by rw [z]; exact h))]
theorem less_sub {H : Hp} {M N : List Addr} (h : ∀ b ∈ M, b ∈ N) : Same (less H N) (less H M) := fun b o q => less_of (less_at q).1 fun z => (less_at q).2 (h b z)
end K3
end G0_part
section L1_part
set_option Elab.async false
set_option linter.all false
set_option maxRecDepth 100000
set_option maxHeartbeats 1000000
set_option pp.deepTerms.threshold 5
open PySem PySem.Spec PyProof.Rows L2
/-- go on as far as nothing is open -/
local macro_rules | `(tactic| walk_at "go") => `(tactic| repeat (first
  | with_reducible refine w_seq ?_ | with_reducible refine w_next ?_ | with_reducible refine w_set ?_ | with_reducible refine w_drop ?_ | with_reducible refine w_ret ?_ | with_reducible refine w_retN ?_
  | with_reducible refine w_if ?_ | ((with_reducible refine' w_var ?hv ?_); (case hv => exact rfl)) | with_reducible refine w_c ?_ | with_reducible refine w_nil ?_ | with_reducible refine w_cons ?_ | with_reducible refine w_op ?_ | with_reducible refine w_un ?_
  | with_reducible refine w_test ?_ | with_reducible refine w_tB ?_ | with_reducible refine w_not ?_ | with_reducible refine w_and ?_ | with_reducible refine w_or ?_ | with_reducible refine w_bl ?_
  | with_reducible refine w_andV ?_ | with_reducible refine w_orV ?_ | with_reducible refine w_notV ?_ | with_reducible refine w_ifE ?_ | with_reducible refine w_chain ?_ | with_reducible refine w_i0 ?_
  | with_reducible refine w_call ?_ | with_reducible refine w_callS ?_ | with_reducible refine w_cB ?_ | with_reducible refine w_tup ?_ | with_reducible refine w_lst ?_ | with_reducible refine w_fldV ?_
  | with_reducible refine w_neF ?_ | with_reducible refine w_neT ?_ | with_reducible refine w_notN ?_ | with_reducible refine w_isN ?_ | with_reducible refine w_gname ?_ | with_reducible refine w_gsub ?_ | with_reducible refine w_asg ?_ | with_reducible refine w_yes ?_ | with_reducible refine w_nT ?_ | with_reducible refine w_nF ?_ | with_reducible refine w_iteT ?_ | with_reducible refine w_iteF ?_))
namespace K3
def spCell (K : PySem.W.Frag) : Sp := fun vs H Q _ => ∃ (a : Addr) (ns : List Int), vs = [.ref a, .int 0] ∧ SqL K H a (ns.map V.int) ∧ ∀ c, Q (.int c) H
def spRng (K : PySem.W.Frag) : Sp := fun vs H Q _ => ∃ c : Int, vs = [.int c] ∧ ∀ p H', H p = none → Same H H' → Src H' p → Q (.ref p) H'
def spDraw (K : PySem.W.Frag) : Sp := fun vs H Q _ => ∃ (s : Addr) (m : Int), vs = [.ref s, .int m] ∧ Src H s ∧ 0 < m ∧ m < 2 ^ 64 ∧ ∀ r H', 0 ≤ r → r < m → BM [s] H H' → Src H' s → Q (.int r) H'
/-- one of the items -/
def spPick (K : PySem.W.Frag) : Sp := fun vs H Q _ => ∃ (s l : Addr) (xs : List V), vs = [.ref s, .ref l] ∧ Src H s ∧ H l = some (.lst xs) ∧ l ≠ s ∧ 0 < xs.length ∧ xs.length ≤ 1000 ∧ ∀ v H', v ∈ xs → BM [s] H H' → Src H' s → Q v H'
section
variable {P : Program} {w : World} {K : PySem.W.Frag} {mg : Str → Option Value} {base : Heap}
theorem sc_rng : FnScope ["_law_cell_here"] ["_law_cell_here"] (defScope s__law_rng) := ⟨rfl, rfl, rfl, by decide +kernel, rfl, by decide +kernel, by decide +kernel⟩
theorem ok_rng (T : Tx K mg) : Ok P w K mg base 1 (He.ga K "_law_rng") ["_law_cell_here"] (spRng K) := by
  obtain ⟨fd, F⟩ := T.f__law_rng
  refine ⟨fd, F.ok sc_rng (fun vs H Q E h => ?_) (fun cdv A outer s H vs Q E hr h => ?_), F.bindsN fun _ _ _ _ _ _ us hl => match us, hl with | [_], _ => rfl, F.kp⟩
  · obtain ⟨c, rfl, _⟩ := h
    rfl
  obtain ⟨c, rfl, q⟩ := h
  refine ⟨_, pss_one (ps_ret (pe_lst (pa_cons (pe_callB call_abs (by rfl) T.z_abs (by decide +kernel) (pa_cons (pv 0) pa_nil)) (pa_cons (pe_op op_mod (pe_callTy call_int1 (by rfl) T.z_int (by decide +kernel) (pa_cons (pv 0) pa_nil)) pe_int) (pa_cons pe_int pa_nil))))), ?_⟩
  walk_at "go"
  refine ⟨c, rfl, ?_⟩
  walk_at "go"
  refine .inl ⟨c, rfl, ?_⟩
  walk_at "go"
  refine w_i (by decide) ?_
  walk_at "go"
  exact ⟨(by show 3 ≤ sizeLine; decide), fun p hp => q p _ hp (Same.new hp _) ⟨_, _, _, upd_same⟩⟩
theorem sc_draw : FnScope ["_law_rng_here", "_law_limit", "_law_digit", "_law_mixed"] ["_law_rng_here", "_law_limit"] (defScope s__law_draw) := ⟨rfl, rfl, rfl, by decide +kernel, rfl, by decide +kernel, by decide +kernel⟩
theorem ok_draw (T : Tx K mg) : Ok P w K mg base 1 (He.ga K "_law_draw") ["_law_rng_here", "_law_limit"] (spDraw K) := by
  obtain ⟨fd, F⟩ := T.f__law_draw
  refine ⟨fd, F.ok sc_draw (fun vs H Q E h => ?_) (fun cdv A outer s H vs Q E hr h => ?_), F.bindsN fun _ _ _ _ _ _ us hl => match us, hl with | [_, _], _ => rfl, F.kp⟩
  · obtain ⟨s, m, rfl, _⟩ := h
    rfl
  obtain ⟨s, m, rfl, ⟨a, b, c, hs⟩, m0, m1, q⟩ := h
  refine ⟨_, pss_cons (ps_if (pt_cmpR op_ge (pe_ix ix_list (pv 0) pe_int (fun _ _ => rfl)) (pe_op op_pow pe_int pe_int) (nomark _)) (pss_cons (ps_set (i := 2) sc_draw.nd rfl (Or.inl rfl) (pe_op op_mod (pe_callTy call_int1 (by rfl) T.z_int (by decide +kernel) (pa_cons (pe_ix ix_list (pv 0) pe_int (fun _ _ => rfl)) pa_nil)) (pv 1)))
      (pss_cons (ps_asg (pe_op op_fdivW (pe_ix ix_list (pv 0) pe_int (fun _ _ => rfl)) (pv 1)) (pg_sub (pv 0) pe_int set_list))
      (pss_one (ps_ret (pv 2))))) pss_nil)
      (pss_cons (ps_asg (pe_op op_add (pe_ix ix_list (pv 0) pe_int (fun _ _ => rfl)) pe_int) (pg_sub (pv 0) pe_int set_list))
      (pss_cons (ps_set (i := 3) sc_draw.nd rfl (Or.inl rfl) (pe_op op_mod (pe_callTy call_int1 (by rfl) T.z_int (by decide +kernel) (pa_cons (pe_op op_mul (pe_op op_add (pe_op op_add (pe_ix ix_list (pv 0) pe_int (fun _ _ => rfl)) (pe_op op_mul pe_int (pe_ix ix_list (pv 0) pe_int (fun _ _ => rfl)))) pe_int) pe_int) pa_nil)) pe_int))
      (pss_cons (ps_set (i := 3) sc_draw.nd rfl (Or.inl rfl) (pe_op op_mod (pe_callTy call_int1 (by rfl) T.z_int (by decide +kernel) (pa_cons (pe_op op_mul (pv 3) (pe_op op_add (pe_op op_fdiv (pv 3) pe_int) pe_int)) pa_nil)) pe_int))
      (pss_one (ps_ret (pe_op op_mod (pe_callTy call_int1 (by rfl) T.z_int (by decide +kernel) (pa_cons (pe_op op_mod (pe_callTy call_int1 (by rfl) T.z_int (by decide +kernel) (pa_cons (pe_op op_add (pe_op op_fdiv (pv 3) pe_int) (pe_op op_mul (pe_op op_mod (pe_callTy call_int1 (by rfl) T.z_int (by decide +kernel) (pa_cons (pv 3) pa_nil)) pe_int) pe_int)) pa_nil)) pe_int) pa_nil)) (pv 1))))))), ?_⟩
  have dv : CDivW a m := wide_div (b := 64) m0 (by omega) (by decide) (by decide)
  walk_at "go"
  refine w_ixL hs rfl ?_
  walk_at "go"
  refine w_i (by refine ⟨?_, ?_, ?_⟩ <;> decide) ?_
  walk_at "go"
  by_cases c0 : (10 : Int) ^ (18 : Int).toNat ≤ a
  · rw [decide_eq_true c0]
    walk_at "go"
    refine w_ixL hs rfl ?_
    walk_at "go"
    (refine .inl ⟨_, rfl, ?_⟩; walk_at "go")
    refine w_i m0 ?_
    walk_at "go"
    refine w_ixL hs rfl ?_
    walk_at "go"
    refine w_i dv ?_
    walk_at "go"
    refine w_setL hs rfl ?_
    walk_at "go"
    exact q _ _ (Int.emod_nonneg _ (by omega)) (Int.emod_lt_of_pos _ m0) (BM.upd (List.mem_singleton.mpr rfl) _) ⟨_, _, _, upd_same⟩
  · rw [decide_eq_false c0]
    walk_at "go"
    refine w_ixL hs rfl ?_
    walk_at "go"
    refine w_setL hs rfl ?_
    have hs2 : (upd H s (.lst ([V.int a, V.int b, V.int c].set 2 (V.int (c + 1))))) s = some (.lst [.int a, .int b, .int (c + 1)]) := upd_same
    have e2 : BM [s] H (upd H s (.lst ([V.int a, V.int b, V.int c].set 2 (V.int (c + 1))))) := BM.upd (List.mem_singleton.mpr rfl) _
    show tSeq _ _ _ _ (upd H s (.lst ([V.int a, V.int b, V.int c].set 2 (V.int (c + 1)))))
    generalize upd H s (.lst ([V.int a, V.int b, V.int c].set 2 (V.int (c + 1)))) = H2 at hs2 e2
    walk_at "go"
    refine w_ixL hs2 rfl ?_
    walk_at "go"
    refine w_ixL hs2 rfl ?_
    walk_at "go"
    refine w_i (.inl (by decide)) ?_
    walk_at "go"
    refine w_i (.inr (by decide)) ?_
    walk_at "go"
    (refine .inl ⟨_, rfl, ?_⟩; walk_at "go")
    refine w_i (by decide) ?_
    walk_at "go"
    generalize hn : (b + 7919 * (c + 1) + 1) * 48271 % 2147483647 = num
    have hn0 : 0 ≤ num := by rw [← hn]; exact Int.emod_nonneg _ (by decide)
    have hn1 : num < 2147483647 := by rw [← hn]; exact Int.emod_lt_of_pos _ (by decide)
    walk_at "go"
    refine w_i (by refine ⟨?_, ?_⟩ <;> decide) ?_
    walk_at "go"
    refine w_i (.inl ⟨by omega, by omega⟩) ?_
    walk_at "go"
    (refine .inl ⟨_, rfl, ?_⟩; walk_at "go")
    refine w_i (by decide) ?_
    walk_at "go"
    refine w_i (by refine ⟨?_, ?_⟩ <;> decide) ?_
    walk_at "go"
    (refine .inl ⟨_, rfl, ?_⟩; walk_at "go")
    refine w_i (by decide) ?_
    walk_at "go"
    refine w_i (.inr (by decide)) ?_
    walk_at "go"
    (refine .inl ⟨_, rfl, ?_⟩; walk_at "go")
    refine w_i (by decide) ?_
    walk_at "go"
    (refine .inl ⟨_, rfl, ?_⟩; walk_at "go")
    refine w_i m0 ?_
    exact q _ _ (Int.emod_nonneg _ (by omega)) (Int.emod_lt_of_pos _ m0) e2 ⟨_, _, _, hs2⟩
theorem at_of {xs : List V} {r : Int} (h0 : 0 ≤ r) (h1 : r < (xs.length : Int)) : ∃ v, atI xs r = some v ∧ v ∈ xs := by
  obtain ⟨n, rfl⟩ : ∃ n : Nat, r = (n : Int) := ⟨r.toNat, by omega⟩
  have hn : n < xs.length := by omega
  exact ⟨xs[n], atI_nat (List.getElem?_eq_getElem hn), List.getElem_mem hn⟩
theorem sc_pick : FnScope ["_law_rng_here", "_law_items"] ["_law_rng_here", "_law_items"] (defScope s__law_pick) := ⟨rfl, rfl, rfl, by decide +kernel, rfl, by decide +kernel, by decide +kernel⟩
theorem ok_pick (T : Tx K mg) : Ok P w K mg base 2 (He.ga K "_law_pick") ["_law_rng_here", "_law_items"] (spPick K) := by
  obtain ⟨fd, F⟩ := T.f__law_pick
  have O := ok_draw (P := P) (w := w) (base := base) T
  refine ⟨fd, F.ok (k := 1) sc_pick (fun vs H Q E h => ?_) (fun cdv A outer s' H vs Q E hr h => ?_), F.bindsN fun _ _ _ _ _ _ us hl => match us, hl with | [_, _], _ => rfl, F.kp⟩
  · obtain ⟨s, l, xs, rfl, _⟩ := h
    rfl
  obtain ⟨s, l, xs, rfl, hs, hl, ne, h0, h1, q⟩ := h
  refine ⟨_, pss_one (ps_ret (pe_ix ix_list (pv 1) (pe_f O hr T.g__law_draw (pa_cons (pv 0) (pa_cons (pe_callB call_len_seq (by rfl) T.z_len PySem.boot_len (pa_cons (pv 1) pa_nil)) pa_nil))) (fun _ _ => rfl))), ?_⟩
  walk_at "go"
  refine ⟨l, xs, rfl, .inl (SqL.of hl), ?_⟩
  walk_at "go"
  refine ⟨s, _, rfl, hs, by omega, by omega, fun r H1 r0 r1 e1 s1 => ?_⟩
  obtain ⟨v, hv, hm⟩ := at_of r0 r1
  refine w_ixL (e1.at hl (by simpa using ne)) hv ?_
  exact q v H1 hm e1 s1
end
end K3
end L1_part
section L2_part
set_option Elab.async false
set_option linter.all false
set_option maxRecDepth 100000
set_option maxHeartbeats 1000000
set_option pp.deepTerms.threshold 5
open PySem PySem.Spec PyProof.Rows L2
/-- go on as far as nothing is open -/
local macro_rules | `(tactic| walk_at "go") => `(tactic| repeat (first
  | with_reducible refine w_seq ?_ | with_reducible refine w_next ?_ | with_reducible refine w_set ?_ | with_reducible refine w_drop ?_ | with_reducible refine w_ret ?_ | with_reducible refine w_retN ?_
  | with_reducible refine w_if ?_ | ((with_reducible refine' w_var ?hv ?_); (case hv => exact rfl)) | with_reducible refine w_c ?_ | with_reducible refine w_nil ?_ | with_reducible refine w_cons ?_ | with_reducible refine w_op ?_ | with_reducible refine w_un ?_
  | with_reducible refine w_test ?_ | with_reducible refine w_tB ?_ | with_reducible refine w_not ?_ | with_reducible refine w_and ?_ | with_reducible refine w_or ?_ | with_reducible refine w_bl ?_
  | with_reducible refine w_andV ?_ | with_reducible refine w_orV ?_ | with_reducible refine w_notV ?_ | with_reducible refine w_ifE ?_ | with_reducible refine w_chain ?_ | with_reducible refine w_i0 ?_
  | with_reducible refine w_call ?_ | with_reducible refine w_callS ?_ | with_reducible refine w_cB ?_ | with_reducible refine w_tup ?_ | with_reducible refine w_lst ?_ | with_reducible refine w_fldV ?_
  | with_reducible refine w_neF ?_ | with_reducible refine w_neT ?_ | with_reducible refine w_notN ?_ | with_reducible refine w_isN ?_ | with_reducible refine w_gname ?_ | with_reducible refine w_gsub ?_ | with_reducible refine w_asg ?_ | with_reducible refine w_sl ?_ | with_reducible refine w_noP ?_ | with_reducible refine w_int1 ?_ | with_reducible refine w_part ?_ | with_reducible refine w_yes ?_ | with_reducible refine w_nT ?_ | with_reducible refine w_nF ?_ | with_reducible refine w_iteT ?_ | with_reducible refine w_iteF ?_))
namespace K3
/-! ### tables -/
abbrev RowAt (H : Hp) (r : Addr) (row : List Int) : Prop := H r = some (.lst (row.map V.int))
structure Tab (H : Hp) (p : Addr) (rs : List Addr) (t : List (List Int)) : Prop where
  at_ : H p = some (.lst (rs.map V.ref))
  rows : Paired (RowAt H) rs t
theorem Tab.same {H H' : Hp} (e : Same H H') {p : Addr} {rs : List Addr} {t : List (List Int)} (h : Tab H p rs t) : Tab H' p rs t := ⟨e _ _ h.at_, L2.Paired.mapP h.rows fun _ _ z => e _ _ z⟩
/-- all of it is new -/
structure New (H : Hp) (p : Addr) (rs : List Addr) : Prop where
  p0 : H p = none
  rs0 : ∀ r ∈ rs, H r = none
  nd : rs.Nodup
  ne : p ∉ rs
def addSum (r : List Int) : List Int := r ++ [r.sum]
def colOf (u : List (List Int)) (c : Nat) : List Int := u.map fun r => r.getD c 0
def withSums (k : Nat) (t : List (List Int)) : List (List Int) := t.map addSum ++ [(List.range (k + 1)).map fun c => (colOf (t.map addSum) c).sum]
theorem lc_open {wi : TI} {g : TG} {tt : TT} {te : TE} {vs : List Nat} {σ : L2.St} {H : Hp} {Q : VK} (h : wi σ H fun J H1 => ∀ D, H1 D = none → ∃ W : Nat → Nat → Hp → Prop, (∃ m, W 0 m (upd H1 D (.lst []))) ∧ ∀ i m H, W i m H →
    (J.stop i H ∧ Q (.ref D) H) ∨ (J.go i H ∧ ∃ Nx : Hp → Prop, (∀ H', Nx H' → ∃ m', m' < m ∧ W (i + 1) m' H') ∧ ∀ x H', J.yld i H x H' → g x (wipe σ vs) H' fun σ2 H2 => wipe σ2 vs = wipe σ vs ∧ tt σ2 H2 fun b H3 =>
      if b = true then te σ2 H3 fun y H4 => ∃ acc, H4 D = some (.lst acc) ∧ acc.length < sizeLine ∧ Nx (upd H4 D (.lst (acc ++ [y]))) else Nx H3)) : tLc wi g tt te vs σ H Q := h
theorem rng_open {ta : TA} {σ : L2.St} {H : Hp} {R : It → Hp → Prop} (h : ta σ H fun vs H1 => ∃ j : Int, vs = [.int j] ∧ -(2 ^ 62) ≤ j ∧ j < 2 ^ 62 ∧ R (Itr 0 j.toNat) H1) : iRng1 ta σ H R := h
theorem list_open {K : PySem.W.Frag} {tl : TE} {σ : L2.St} {H : Hp} {R : It → Hp → Prop} (h : tl σ H fun x H1 => ∃ a, x = .ref a ∧ (∃ xs, SqL K H1 a xs) ∧ R (Itl K a) H1) : iList K tl σ H R := h
theorem nodup_snoc {α : Type} {l : List α} {z : α} (h : l.Nodup) (hz : z ∉ l) : (l ++ [z]).Nodup := by
  rw [List.nodup_append]
  exact ⟨h, by simp, fun a ha b hb => by rw [List.mem_singleton.mp hb]; exact fun q => hz (q ▸ ha)⟩
theorem map_ref {rs : List Addr} {i : Nat} {x : V} (h : (rs.map V.ref)[i]? = some x) : ∃ r, rs[i]? = some r ∧ x = .ref r := by
  rw [List.getElem?_map] at h
  cases e : rs[i]? with
  | none => rw [e] at h; cases h
  | some r => rw [e] at h; exact ⟨r, rfl, (Option.some.inj h).symm⟩
theorem paired_up {α β : Type} {F G : α → β → Prop} : ∀ {xs : List α} {ys : List β}, Paired F xs ys → (∀ x y, x ∈ xs → F x y → G x y) → Paired G xs ys
  | _, _, .nil, _ => .nil
  | _, _, .cons h t, k => .cons (k _ _ (List.mem_cons_self ..) h) (paired_up t fun x y hx => k x y (List.mem_cons_of_mem _ hx))
theorem paired_has {α β : Type} {F : α → β → Prop} : ∀ {xs : List α} {ys : List β}, Paired F xs ys → ∀ {x : α}, x ∈ xs → ∃ y, F x y
  | _, _, .cons (b := b) h t, x, hx => by
    rcases List.mem_cons.mp hx with rfl | hx
    · exact ⟨b, h⟩
    · exact paired_has t hx
theorem at_getD {r : List Int} {c : Nat} (h : c < r.length) : atI (r.map V.int) (c : Int) = some (.int (r.getD c 0)) := by
  refine atI_nat ?_
  rw [List.getElem?_map, List.getElem?_eq_getElem h, List.getD_eq_getElem?_getD, List.getElem?_eq_getElem h]
  rfl
section
variable {P : Program} {w : World} {K : PySem.W.Frag} {mg : Str → Option Value} {base : Heap}
/-- the scope of a comprehension within which another one stands -/
def scCol : Scope := { kind := .function, names := [(".0", .local), ("_law_column", .cell), ("sum", .globalImplicit), ("_law_rows", .cell)], isGenerator := false, isCoroutine := false }
theorem sc_ws : FnScope ["_law_cells_here", "_law_rows", "_law_row", "_law_column"] ["_law_cells_here"] (defScope s__law_with_sums) := ⟨rfl, rfl, rfl, by decide +kernel, rfl, by decide +kernel, by decide +kernel⟩
def spWS (K : PySem.W.Frag) : Sp := fun vs H Q _ => ∃ (p : Addr) (rs : List Addr) (t : List (List Int)) (k : Nat), vs = [.ref p] ∧ Tab H p rs t ∧ (∀ r ∈ t, r.length = k) ∧ t ≠ [] ∧ t.length ≤ 100 ∧ k ≤ 100 ∧ ∀ p' H' rs', Same H H' → New H p' rs' → Tab H' p' rs' (withSums k t) → Q (.ref p') H'
theorem ok_ws (T : Tx K mg) : Ok P w K mg base 1 (He.ga K "_law_with_sums") ["_law_cells_here"] (spWS K) := by
  obtain ⟨fd, F⟩ := T.f__law_with_sums
  refine ⟨fd, F.ok (k := 0) sc_ws (fun vs H Q E h => ?_) (fun cdv A outer s' H vs Q E hr h => ?_), F.bindsN fun _ _ _ _ _ _ us hl => match us, hl with | [_], _ => rfl, F.kp⟩
  · obtain ⟨p, rs, t, k, rfl, _⟩ := h
    rfl
  obtain ⟨p, rs, t, k, rfl, ht, hk, h0, hn, hk1, q⟩ := h
  refine ⟨_, pss_cons (ps_set (i := 1) sc_ws.nd rfl (Or.inr rfl) (by exact pe_lc (own := [("_law_row", 2)]) (g := gName 2) (tt := tYes) (te := tOp rCat (tCB (fun xs H Q => ∃ p ys, xs = [V.ref p] ∧ (SqL K H p ys ∨ SqT K H p ys) ∧ ∀ l, H l = none → Q (.ref l) (upd H l (.lst ys))) (tCons (tVar 2) tNil)) (tLst (tCons (tCB (rSum K) (tCons (tVar 2) tNil)) tNil))) (by rfl) sc_ws.nd (pi_list (pv 0)) (blkOk_by (own := [("_law_row", 2)]) (N := ["_law_cells_here", "_law_rows", "_law_row", "_law_column"]) (sc := defScope s__law_with_sums) (by decide +kernel)) (fun _ _ _ _ _ => pg_name (i := 2) sc_ws.nd rfl (Or.inl rfl)) (fun _ _ _ _ _ => pts_nil) (fun _ _ _ _ _ => pe_op op_cat (pe_callTy call_list_of (by rfl) T.z_list (by decide +kernel) (pa_cons (pv 2) pa_nil)) (pe_lst (pa_cons (pe_callB (cr_sum rfl) (by rfl) T.z_sum (by decide +kernel) (pa_cons (pv 2) pa_nil)) pa_nil)))))
    (pss_cons (ps_expr (pe_bm PySem.F.plainAttrs_list PySem.F.slot_list_append PySem.F.type_list_append mt_append (pv 1) (pa_cons (by exact pe_lc (own := [("_law_column", 3)]) (g := gName 3) (tt := tYes) (te := tCB (rSum K) (tCons (tLc (iList K (tVar 1)) (gName 2) tYes (tOp (rIxL K) (tVar 2) (tVar 3)) [2]) tNil)) (by rfl) sc_ws.nd (pi_range1 rfl T.z_range (pa_cons (pe_callB call_len_seq (by rfl) T.z_len PySem.boot_len (pa_cons (pe_ix ix_list (pv 1) pe_int (fun _ _ => rfl)) pa_nil)) pa_nil)) (blkOk_by (own := [("_law_column", 3)]) (N := ["_law_cells_here", "_law_rows", "_law_row", "_law_column"]) (sc := defScope s__law_with_sums) (by decide +kernel)) (fun _ _ _ _ _ => pg_name (i := 3) sc_ws.nd rfl (Or.inr rfl)) (fun _ _ _ _ _ => pts_nil) (fun _ _ _ _ _ => pe_callB (cr_sum (by rfl)) (by rfl) T.z_sum (by decide +kernel) (pa_cons (by exact pe_lc (own := [("_law_row", 2)]) (g := gName 2) (tt := tYes) (te := tOp (rIxL K) (tVar 2) (tVar 3)) (by rfl) sc_ws.nd (pi_list (pv 1)) (blkOk_by (own := [("_law_row", 2)]) (N := ["_law_cells_here", "_law_rows", "_law_row", "_law_column"]) (sc := scCol) (by decide +kernel)) (fun _ _ _ _ _ => pg_name (i := 2) sc_ws.nd rfl (Or.inl rfl)) (fun _ _ _ _ _ => pts_nil) (fun _ _ _ _ _ => pe_ix ix_list (pv 2) (pv 3) (fun _ _ => rfl))) pa_nil))) pa_nil)))
    (pss_one (ps_ret (pv 1)))), ?_⟩
  have lr := ht.rows.length
  walk_at "go"
  refine lc_open ?_
  refine list_open ?_
  walk_at "go"
  refine ⟨p, rfl, ⟨_, SqL.of ht.at_⟩, fun D hD => ?_⟩
  refine lc_list (K := K) (a := p) (xs := rs.map V.ref) (fun (i : Nat) H' => ∃ acc : List Addr, Same H H' ∧ H' D = some (.lst (acc.map V.ref)) ∧ acc.length = i ∧ Paired (RowAt H') acc ((t.take i).map addSum) ∧ acc.Nodup ∧ ∀ r ∈ acc, H r = none ∧ r ≠ D)
    ⟨[], Same.new hD _, upd_same, rfl, .nil, List.nodup_nil, fun r hr => by cases hr⟩ (fun i H' _ ⟨acc, e, _⟩ => SqL.of (e _ _ ht.at_)) ?_ ?_
  · rintro i x H1 hxi ⟨acc, e1, hD1, la, hp1, hnd, hfr⟩
    obtain ⟨r, hr', rfl⟩ := map_ref hxi
    obtain ⟨row, hrow, hr1⟩ := K3.Paired.get ht.rows hr'
    have hr1 := e1 _ _ hr1
    have hi : i < t.length := (List.getElem?_eq_some_iff.mp hrow).1
    have hlen := hk row (List.mem_of_getElem? hrow)
    walk_at "go"
    refine ⟨rfl, ?_⟩
    walk_at "go"
    refine ⟨r, _, rfl, .inl (SqL.of hr1), fun l1 hl1 => ?_⟩
    have e2 := Same.new hl1 (.lst (row.map V.int))
    walk_at "go"
    refine ⟨r, row, rfl, SqL.of (e2 _ _ hr1), ?_⟩
    walk_at "go"
    refine ⟨(by show 1 ≤ sizeLine; decide), fun l2 hl2 => ?_⟩
    have e3 := Same.new hl2 (.lst [V.int row.sum])
    refine ⟨l1, l2, _, _, rfl, rfl, e3 _ _ upd_same, upd_same, Nat.le_trans (show (row.map V.int).length + 1 ≤ 200 by rw [List.length_map]; omega) (by decide), fun l3 hl3 => ?_⟩
    have e4 := Same.new hl3 (.lst (row.map V.int ++ [V.int row.sum]))
    have e24 := e2.trans (e3.trans e4)
    have h3 : (upd (upd (upd H1 l1 (.lst (row.map V.int))) l2 (.lst [V.int row.sum])) l3 (.lst (row.map V.int ++ [V.int row.sum]))) l3 = some (.lst ((addSum row).map V.int)) := by
      unfold addSum
      rw [List.map_append]
      exact upd_same
    have h30 : H1 l3 = none := (e2.trans e3).free hl3
    generalize upd (upd (upd H1 l1 (.lst (row.map V.int))) l2 (.lst [V.int row.sum])) l3 (.lst (row.map V.int ++ [V.int row.sum])) = H4 at e24 h3 ⊢
    have hD4 := e24 _ _ hD1
    have l3D : l3 ≠ D := fun z => by rw [z, hD1] at h30; cases h30
    have up : ∀ b o, b ≠ D → H4 b = some o → (upd H4 D (.lst (acc.map V.ref ++ [.ref l3]))) b = some o := fun b o hb h => by rw [upd_ne hb]; exact h
    refine ⟨acc.map V.ref, hD4, Nat.lt_of_le_of_lt (show (acc.map V.ref).length ≤ 100 by rw [List.length_map]; omega) (by decide), acc ++ [l3], (e1.trans e24).mut hD, by rw [List.map_append]; exact upd_same, by rw [List.length_append, la]; rfl, ?_, ?_, ?_⟩
    · rw [List.take_add_one, hrow, List.map_append]
      refine K3.Paired.app ?_ (.cons (up _ _ l3D h3) .nil)
      have mem : ∀ a ∈ acc, a ≠ D := fun a ha => (hfr a ha).2
      exact paired_up hp1 fun a row' ha z => up _ _ (mem a ha) (e24 _ _ z)
    · refine nodup_snoc hnd fun z => ?_
      obtain ⟨row', hrow'⟩ := paired_has hp1 z
      have hrow' : H1 l3 = some _ := hrow'
      rw [h30] at hrow'
      cases hrow'
    · intro r' hr'
      rcases List.mem_append.mp hr' with hr' | hr'
      · exact hfr r' hr'
      · rw [List.mem_singleton.mp hr']
        exact ⟨e1.free h30, l3D⟩
  · rintro H1 ⟨acc, e1, hD1, la, hp1, hnd, hfr⟩
    rw [List.length_map, lr, List.take_length] at hp1
    generalize hu : t.map addSum = u at hp1
    have ul : u.length = t.length := by rw [← hu, List.length_map]
    have uk : ∀ r ∈ u, r.length = k + 1 := fun r hr => by
      rw [← hu] at hr
      obtain ⟨r', hr', rfl⟩ := List.mem_map.mp hr
      unfold addSum
      rw [List.length_append, hk r' hr']
      rfl
    have lacc : acc.length = u.length := hp1.length
    obtain ⟨a0, accT, rfl⟩ : ∃ a0 accT, acc = a0 :: accT := by
      cases acc with
      | nil =>
        rw [ul] at lacc
        exact absurd (List.length_eq_zero_iff.mp lacc.symm) h0
      | cons a b => exact ⟨a, b, rfl⟩
    obtain ⟨u0, hu0, ha0⟩ := K3.Paired.get hp1 (i := 0) (x := a0) rfl
    have hl0 := uk u0 (List.mem_of_getElem? hu0)
    walk_at "go"
    refine ⟨_, rfl, .inl ⟨rfl, _, SqL.of hD1⟩, ?_⟩
    walk_at "go"
    refine lc_open ?_
    refine rng_open ?_
    walk_at "go"
    refine w_ixL hD1 (atI_nat (j := 0) rfl) ?_
    walk_at "go"
    refine ⟨a0, _, rfl, .inl (SqL.of ha0), ?_⟩
    rw [List.length_map, hl0]
    refine ⟨_, rfl, by omega, by omega, fun D2 hD2 => ?_⟩
    rw [Int.toNat_natCast]
    refine lc_range (lo := 0) (n := k + 1) (fun (c : Nat) H' => Same H1 H' ∧ H' D2 = some (.lst (((List.range c).map fun c => (colOf u c).sum).map V.int))) ⟨Same.new hD2 _, upd_same⟩ ?_ ?_
    · rintro c H2 hc ⟨e2, hD22⟩
      walk_at "go"
      refine ⟨rfl, ?_⟩
      walk_at "go"
      refine lc_open ?_
      refine list_open ?_
      walk_at "go"
      refine ⟨D, rfl, ⟨_, SqL.of (e2 _ _ hD1)⟩, fun D3 hD3 => ?_⟩
      refine lc_list (K := K) (a := D) (xs := (a0 :: accT).map V.ref) (fun (i : Nat) H' => Same H2 H' ∧ H' D3 = some (.lst ((colOf (u.take i) c).map V.int))) ⟨Same.new hD3 _, upd_same⟩ (fun i H' _ z => SqL.of (z.1 _ _ (e2 _ _ hD1))) ?_ ?_
      · rintro i x H3 hxi ⟨e3, hD33⟩
        obtain ⟨r, hr', rfl⟩ := map_ref hxi
        obtain ⟨row, hrow, hr1⟩ := K3.Paired.get hp1 hr'
        have hr3 := e3 _ _ (e2 _ _ hr1)
        have hi : i < u.length := (List.getElem?_eq_some_iff.mp hrow).1
        walk_at "go"
        refine ⟨rfl, ?_⟩
        walk_at "go"
        rw [show (0 : Int) + (c : Int) = (c : Int) by omega]
        refine w_ixL hr3 (at_getD (by rw [uk row (List.mem_of_getElem? hrow)]; exact hc)) ?_
        refine ⟨_, hD33, Nat.lt_of_le_of_lt (show ((colOf (u.take i) c).map V.int).length ≤ 100 by rw [List.length_map]; unfold colOf; rw [List.length_map, List.length_take]; omega) (by decide), e3.mut hD3, ?_⟩
        rw [upd_same, List.take_add_one, hrow]
        unfold colOf
        rw [List.map_append, List.map_append]
        rfl
      · rintro H3 ⟨e3, hD33⟩
        rw [List.length_map, lacc, List.take_length] at hD33
        walk_at "go"
        refine ⟨D3, colOf u c, rfl, SqL.of hD33, ?_⟩
        have hD23 := e3 _ _ hD22
        refine ⟨_, hD23, Nat.lt_of_le_of_lt (show (((List.range c).map fun c => (colOf u c).sum).map V.int).length ≤ 1000 by rw [List.length_map, List.length_map, List.length_range]; omega) (by decide), (e2.trans e3).mut hD2, ?_⟩
        rw [upd_same, List.range_succ, List.map_append, List.map_append]
        rfl
    · rintro H2 ⟨e2, hD22⟩
      have hD2' := e2 _ _ hD1
      walk_at "go"
      refine ⟨D, _, _, rfl, rfl, hD2', Nat.lt_of_le_of_lt (show ((a0 :: accT).map V.ref).length ≤ 100 by rw [List.length_map]; omega) (by decide), ?_⟩
      walk_at "go"
      have D2D : D2 ≠ D := fun z => by rw [z, hD1] at hD2; cases hD2
      have D2H : H D2 = none := e1.free hD2
      have up : ∀ b o, b ≠ D → H2 b = some o → (upd H2 D (.lst ((a0 :: accT).map V.ref ++ [.ref D2]))) b = some o := fun b o hb h => by rw [upd_ne hb]; exact h
      refine q D _ (a0 :: accT ++ [D2]) ((e1.trans e2).mut hD) ⟨hD, fun r hr => ?_, nodup_snoc hnd fun z => ?_, fun z => ?_⟩ ⟨by rw [List.map_append]; exact upd_same, ?_⟩
      · rcases List.mem_append.mp hr with hr | hr
        · exact (hfr r hr).1
        · rw [List.mem_singleton.mp hr]; exact D2H
      · obtain ⟨row', hrow'⟩ := paired_has hp1 z
        have hrow' : H1 D2 = some _ := hrow'
        rw [hD2] at hrow'
        cases hrow'
      · rcases List.mem_append.mp z with z | z
        · exact (hfr D z).2 rfl
        · exact D2D (List.mem_singleton.mp z).symm
      · unfold withSums
        rw [hu]
        exact K3.Paired.app (paired_up hp1 fun a row' ha z => up _ _ (hfr a ha).2 (e2 _ _ z)) (.cons (up _ _ D2D hD22) .nil)
end
end K3
end L2_part
section L3_part
set_option Elab.async false
set_option linter.all false
set_option maxRecDepth 100000
set_option maxHeartbeats 1000000
set_option pp.deepTerms.threshold 5
open PySem PySem.Spec PyProof.Rows L2
/-- go on as far as nothing is open -/
local macro_rules | `(tactic| walk_at "go") => `(tactic| repeat (first
  | with_reducible refine w_seq ?_ | with_reducible refine w_next ?_ | with_reducible refine w_set ?_ | with_reducible refine w_drop ?_ | with_reducible refine w_ret ?_ | with_reducible refine w_retN ?_
  | with_reducible refine w_if ?_ | ((with_reducible refine' w_var ?hv ?_); (case hv => exact rfl)) | with_reducible refine w_c ?_ | with_reducible refine w_nil ?_ | with_reducible refine w_cons ?_ | with_reducible refine w_op ?_ | with_reducible refine w_un ?_
  | with_reducible refine w_test ?_ | with_reducible refine w_tB ?_ | with_reducible refine w_not ?_ | with_reducible refine w_and ?_ | with_reducible refine w_or ?_ | with_reducible refine w_bl ?_
  | with_reducible refine w_andV ?_ | with_reducible refine w_orV ?_ | with_reducible refine w_notV ?_ | with_reducible refine w_ifE ?_ | with_reducible refine w_chain ?_ | with_reducible refine w_i0 ?_
  | with_reducible refine w_call ?_ | with_reducible refine w_callS ?_ | with_reducible refine w_cB ?_ | with_reducible refine w_tup ?_ | with_reducible refine w_lst ?_ | with_reducible refine w_fldV ?_
  | with_reducible refine w_neF ?_ | with_reducible refine w_neT ?_ | with_reducible refine w_notN ?_ | with_reducible refine w_isN ?_ | with_reducible refine w_gname ?_ | with_reducible refine w_gsub ?_ | with_reducible refine w_asg ?_ | with_reducible refine w_sl ?_ | with_reducible refine w_noP ?_ | with_reducible refine w_int1 ?_ | with_reducible refine w_part ?_ | with_reducible refine w_yes ?_ | with_reducible refine w_nT ?_ | with_reducible refine w_nF ?_ | with_reducible refine w_iteT ?_ | with_reducible refine w_iteF ?_))
namespace K3
def CellAt (H : Hp) (v : V) (c : Nat × Nat) : Prop := ∃ a, v = .ref a ∧ H a = some (.tup [.int (c.1 : Int), .int (c.2 : Int)])
theorem CellAt.same {H H' : Hp} (e : Same H H') {v : V} {c : Nat × Nat} (h : CellAt H v c) : CellAt H' v c := let ⟨a, h1, h2⟩ := h; ⟨a, h1, e _ _ h2⟩
def rowCells (n r : Nat) : List (Nat × Nat) := (List.range n).map fun c => (r, c)
def cellsOf (m n : Nat) : List (Nat × Nat) := (List.range m).flatMap (rowCells n)
theorem cells_len (m n : Nat) : (cellsOf m n).length = m * n := by
  unfold cellsOf
  induction m with
  | zero => simp
  | succ m ih => rw [List.range_succ, List.flatMap_append, List.length_append, ih]; simp [rowCells, Nat.succ_mul]
theorem cut_last {xs : List V} : cutV xs none (some (-1)) = xs.dropLast := by
  unfold cutV HT.sIx
  rw [List.dropLast_eq_take]
  show (xs.drop 0).take ((if (-1 : Int) < 0 then ((-1 : Int) + (xs.length : Int)).toNat else min (-1 : Int).toNat xs.length) - 0) = _
  rw [if_pos (by decide), List.drop_zero, Nat.sub_zero]
  congr 1
  omega
theorem paired_drop {α β : Type} {F : α → β → Prop} : ∀ {xs : List α} {ys : List β}, Paired F xs ys → Paired F xs.dropLast ys.dropLast
  | _, _, .nil => .nil
  | _, _, .cons h .nil => .nil
  | _, _, .cons h (.cons h2 t) => .cons h (paired_drop (.cons h2 t))
def spCells (K : PySem.W.Frag) : Sp := fun vs H Q _ => ∃ (p : Addr) (rs : List Addr) (t : List (List Int)) (n : Nat) (r0 : List Int), vs = [.ref p] ∧ Tab H p rs t ∧ t[0]? = some r0 ∧ r0.length = n ∧ t.length ≤ 100 ∧ n ≤ 100 ∧ ∀ p' H' vs, Same H H' → H p' = none → H' p' = some (.lst vs) → Paired (CellAt H') vs (cellsOf t.length n).dropLast → Q (.ref p') H'
section
variable {P : Program} {w : World} {K : PySem.W.Frag} {mg : Str → Option Value} {base : Heap}
theorem sc_cells : FnScope ["_law_grid", "_law_result", "_law_row", "_law_column"] ["_law_grid"] (defScope s__law_cells) := ⟨rfl, rfl, rfl, by decide +kernel, rfl, by decide +kernel, by decide +kernel⟩
theorem ok_cells (T : Tx K mg) : Ok P w K mg base 1 (He.ga K "_law_cells") ["_law_grid"] (spCells K) := by
  obtain ⟨fd, F⟩ := T.f__law_cells
  refine ⟨fd, F.ok (k := 0) sc_cells (fun vs H Q E h => ?_) (fun cdv A outer s' H vs Q E hr h => ?_), F.bindsN fun _ _ _ _ _ _ us hl => match us, hl with | [_], _ => rfl, F.kp⟩
  · obtain ⟨p, rs, t, n, r0, rfl, _⟩ := h
    rfl
  obtain ⟨p, rs, t, n, r0, rfl, ht, hr0, hn, hm, hn1, q⟩ := h
  refine ⟨_, pss_cons (ps_set (i := 1) sc_cells.nd rfl (Or.inl rfl) (pe_lst pa_nil))
    (pss_cons (ps_for (passes_of rfl) rfl (pi_range1 rfl T.z_range (pa_cons (pe_callB call_len_seq (by rfl) T.z_len PySem.boot_len (pa_cons (pv 0) pa_nil)) pa_nil)) (pg_name (i := 2) sc_cells.nd rfl (Or.inr rfl)) (pss_one (ps_expr (pe_bm PySem.F.plainAttrs_list PySem.F.slot_list_extend PySem.F.type_list_extend mt_extend (pv 1) (pa_cons (by exact pe_lc (own := [("_law_column", 3)]) (g := gName 3) (tt := tYes) (te := tTup (tCons (tVar 2) (tCons (tVar 3) tNil))) (by rfl) sc_cells.nd (pi_range1 rfl T.z_range (pa_cons (pe_callB call_len_seq (by rfl) T.z_len PySem.boot_len (pa_cons (pe_ix ix_list (pv 0) pe_int (fun _ _ => rfl)) pa_nil)) pa_nil)) (blkOk_by (own := [("_law_column", 3)]) (N := ["_law_grid", "_law_result", "_law_row", "_law_column"]) (sc := defScope s__law_cells) (by decide +kernel)) (fun _ _ _ _ _ => pg_name (i := 3) sc_cells.nd rfl (Or.inl rfl)) (fun _ _ _ _ _ => pts_nil) (fun _ _ _ _ _ => pe_tup (pa_cons (pv 2) (pa_cons (pv 3) pa_nil)))) pa_nil)))))
    (pss_one (ps_ret (pe_slice sl_list (pv 1) po_none (po_some (pe_un un_neg pe_int)))))), ?_⟩
  have lr := ht.rows.length
  obtain ⟨a0, ha0, hr0'⟩ : ∃ a0, rs[0]? = some a0 ∧ H a0 = some (.lst (r0.map V.int)) := by
    cases hp : ht.rows with
    | nil => cases hr0
    | cons h tl =>
      have := Option.some.inj hr0
      subst this
      exact ⟨_, rfl, h⟩
  walk_at "go"
  refine ⟨Nat.zero_le _, fun D hD => ?_⟩
  have e0 := Same.new hD (.lst [])
  walk_at "go"
  refine rng_open ?_
  walk_at "go"
  refine ⟨p, _, rfl, .inl (SqL.of (e0 _ _ ht.at_)), ?_⟩
  rw [List.length_map, lr]
  refine ⟨_, rfl, by omega, by omega, ?_⟩
  rw [Int.toNat_natCast]
  refine for_range (lo := 0) (n := t.length) (fun (i : Nat) σ H' => ∃ (o2 o3 : Option V) (vs : List V), σ = [some (.ref p), some (.ref D), o2, o3] ∧ Same H H' ∧ H' D = some (.lst vs) ∧ Paired (CellAt H') vs (cellsOf i n)) ⟨none, none, [], rfl, e0, upd_same, .nil⟩ ?_ ?_
  · rintro i σ H1 hi ⟨o2, o3, vs, rfl, e1, hD1, hp1⟩
    have hl1 : vs.length ≤ 10000 := by
      rw [hp1.length, cells_len]
      exact Nat.le_trans (Nat.mul_le_mul (Nat.le_trans (Nat.le_of_lt hi) hm) hn1) (by decide)
    rw [show (0 : Int) + (i : Int) = (i : Int) by omega]
    walk_at "go"
    refine ⟨_, rfl, .inl ⟨rfl, _, SqL.of hD1⟩, ?_⟩
    walk_at "go"
    refine lc_open ?_
    refine rng_open ?_
    walk_at "go"
    refine w_ixL (e1 _ _ ht.at_) (atI_nat (j := 0) (v := .ref a0) (by rw [List.getElem?_map, ha0]; rfl)) ?_
    walk_at "go"
    refine ⟨a0, _, rfl, .inl (SqL.of (e1 _ _ hr0')), ?_⟩
    rw [List.length_map, hn]
    refine ⟨_, rfl, by omega, by omega, fun D2 hD2 => ?_⟩
    rw [Int.toNat_natCast]
    refine lc_range (lo := 0) (n := n) (fun (c : Nat) H' => ∃ ws : List V, Same H1 H' ∧ H' D2 = some (.lst ws) ∧ Paired (CellAt H') ws (rowCells c i)) ⟨[], Same.new hD2 _, upd_same, .nil⟩ ?_ ?_
    · rintro c H2 hc ⟨ws, e2, hD22, hp2⟩
      rw [show (0 : Int) + (c : Int) = (c : Int) by omega]
      walk_at "go"
      refine ⟨rfl, ?_⟩
      walk_at "go"
      refine ⟨(by show 2 ≤ sizeLine; decide), fun p3 hp3 => ?_⟩
      have e3 := Same.new hp3 (.tup [.int (i : Int), .int (c : Int)])
      have hD23 := e3 _ _ hD22
      have lw : ws.length ≤ 100 := by rw [hp2.length]; unfold rowCells; rw [List.length_map, List.length_range]; omega
      refine ⟨ws, hD23, Nat.lt_of_le_of_lt lw (by decide), ws ++ [.ref p3], (e2.trans e3).mut hD2, upd_same, ?_⟩
      have up : ∀ v x, CellAt (upd H2 p3 (.tup [.int (i : Int), .int (c : Int)])) v x → CellAt (upd (upd H2 p3 (.tup [.int (i : Int), .int (c : Int)])) D2 (.lst (ws ++ [.ref p3]))) v x := fun v x ⟨a, h1, h2⟩ => ⟨a, h1, by rw [upd_ne (fun z => by rw [z, hD23] at h2; cases h2)]; exact h2⟩
      unfold rowCells at hp2 ⊢
      rw [List.range_succ, List.map_append]
      exact K3.Paired.app (L2.Paired.mapP hp2 fun _ _ z => up _ _ (z.same e3)) (.cons (up _ _ ⟨p3, rfl, upd_same⟩) .nil)
    · rintro H2 ⟨ws, e2, hD22, hp2⟩
      have hD12 := e2 _ _ hD1
      have lw : ws.length ≤ 100 := by rw [hp2.length]; unfold rowCells; rw [List.length_map, List.length_range]; omega
      walk_at "go"
      refine ⟨D, D2, vs, ws, rfl, rfl, hD12, hD22, Nat.le_trans (show vs.length + ws.length ≤ 20000 by omega) (by decide), ?_⟩
      have up : ∀ v x, CellAt H2 v x → CellAt (upd H2 D (.lst (vs ++ ws))) v x := fun v x ⟨a, h1, h2⟩ => ⟨a, h1, by rw [upd_ne (fun z => by rw [z, hD12] at h2; cases h2)]; exact h2⟩
      refine ⟨_, _, vs ++ ws, rfl, (e1.trans e2).mut hD, upd_same, ?_⟩
      unfold cellsOf at hp1 ⊢
      rw [List.range_succ, List.flatMap_append]
      refine K3.Paired.app (L2.Paired.mapP hp1 fun _ _ z => up _ _ (z.same e2)) ?_
      rw [List.flatMap_cons, List.flatMap_nil, List.append_nil]
      exact L2.Paired.mapP hp2 fun _ _ z => up _ _ z
  · rintro σ H1 ⟨o2, o3, vs, rfl, e1, hD1, hp1⟩
    walk_at "go"
    refine ⟨1, rfl, ?_⟩
    walk_at "go"
    refine ⟨D, _, rfl, SqL.of hD1, fun p4 hp4 => ?_⟩
    have e4 := Same.new hp4 (.lst (cutV vs none (some (-1))))
    refine q p4 _ vs.dropLast (e1.trans e4) (e1.free hp4) (by rw [← cut_last]; exact upd_same) ?_
    exact paired_drop (L2.Paired.mapP hp1 fun _ _ z => z.same e4)
end
end K3
end L3_part
section L4_part
set_option Elab.async false
set_option linter.all false
set_option maxRecDepth 100000
set_option maxHeartbeats 1000000
set_option pp.deepTerms.threshold 5
open PySem PySem.Spec PyProof.Rows L2
/-- go on as far as nothing is open -/
local macro_rules | `(tactic| walk_at "go") => `(tactic| repeat (first
  | with_reducible refine w_seq ?_ | with_reducible refine w_next ?_ | with_reducible refine w_set ?_ | with_reducible refine w_drop ?_ | with_reducible refine w_ret ?_ | with_reducible refine w_retN ?_
  | with_reducible refine w_if ?_ | ((with_reducible refine' w_var ?hv ?_); (case hv => exact rfl)) | with_reducible refine w_c ?_ | with_reducible refine w_nil ?_ | with_reducible refine w_cons ?_ | with_reducible refine w_op ?_ | with_reducible refine w_un ?_
  | with_reducible refine w_test ?_ | with_reducible refine w_tB ?_ | with_reducible refine w_not ?_ | with_reducible refine w_and ?_ | with_reducible refine w_or ?_ | with_reducible refine w_bl ?_
  | with_reducible refine w_andV ?_ | with_reducible refine w_orV ?_ | with_reducible refine w_notV ?_ | with_reducible refine w_ifE ?_ | with_reducible refine w_chain ?_ | with_reducible refine w_i0 ?_
  | with_reducible refine w_call ?_ | with_reducible refine w_callS ?_ | with_reducible refine w_cB ?_ | with_reducible refine w_tup ?_ | with_reducible refine w_lst ?_ | with_reducible refine w_fldV ?_
  | with_reducible refine w_neF ?_ | with_reducible refine w_neT ?_ | with_reducible refine w_notN ?_ | with_reducible refine w_isN ?_ | with_reducible refine w_gname ?_ | with_reducible refine w_gsub ?_ | with_reducible refine w_asg ?_ | with_reducible refine w_sl ?_ | with_reducible refine w_noP ?_ | with_reducible refine w_int1 ?_ | with_reducible refine w_part ?_ | with_reducible refine w_yes ?_ | with_reducible refine w_nT ?_ | with_reducible refine w_nF ?_ | with_reducible refine w_iteT ?_ | with_reducible refine w_iteF ?_))
namespace K3
theorem CellAt.bm {s : Addr} {H H' : Hp} (hs : Src H s) (e : BM [s] H H') {v : V} {c : Nat × Nat} (h : CellAt H v c) : CellAt H' v c := by
  obtain ⟨a, h1, h2⟩ := h
  refine ⟨a, h1, e.at h2 ?_⟩
  intro z
  obtain ⟨x, y, w, hs⟩ := hs
  rw [List.mem_singleton.mp z, hs] at h2
  cases h2
theorem ix_nat {n j : Nat} (h : j < n) : seqIndex? (j : Int) n = some j := by
  have e : ixN n (j : Int) = some j := by
    unfold ixN
    rw [if_pos (by omega), if_pos (by omega)]
    simp
  exact (ixN_seq e).1
theorem paired_erase {α β : Type} {F : α → β → Prop} : ∀ {xs : List α} {ys : List β}, Paired F xs ys → ∀ k, Paired F (xs.eraseIdx k) (ys.eraseIdx k)
  | _, _, .nil, _ => .nil
  | _, _, .cons h t, 0 => t
  | _, _, .cons h t, k + 1 => .cons h (paired_erase t k)
/-- the first list's elements that are drawn out of it -/
def spSample (K : PySem.W.Frag) : Sp := fun vs H Q _ => ∃ (s l : Addr) (xs : List V) (cs : List (Nat × Nat)) (n : Nat), vs = [.ref s, .ref l, .int (n : Int)] ∧ Src H s ∧ H l = some (.lst xs) ∧ Paired (CellAt H) xs cs ∧ n ≤ xs.length ∧ xs.length ≤ 100000 ∧
  ∀ p H' ws hs, H p = none → BM [s] H H' → Src H' s → H' p = some (.lst ws) → Paired (CellAt H') ws hs → (∀ h ∈ hs, h ∈ cs) → hs.length = n → Q (.ref p) H'
def spGrid (K : PySem.W.Frag) : Sp := fun vs H Q _ => ∃ (s : Addr), vs = [.ref s] ∧ Src H s ∧ ∀ p H' rs t k, BM [s] H H' → Src H' s → New H p rs → Tab H' p rs (withSums k t) → (∀ r ∈ t, r.length = k ∧ ∀ x ∈ r, 0 ≤ x) → 1 ≤ k → k ≤ 5 → 1 ≤ t.length → t.length ≤ 5 → Q (.ref p) H'
theorem BM.same {M : List Addr} {H H1 H2 : Hp} (a : BM M H H1) (b : Same H1 H2) : BM M H H2 := a.trans (BM.of b)
theorem BM.mut {M : List Addr} {H H' : Hp} {p : Addr} {o : HO} (e : BM M H H') (h : H p = none) : BM M H (L2.upd H' p o) := fun b u hb => by
  obtain ⟨o', h1, h2⟩ := e b u hb
  exact ⟨o', by rw [upd_ne (fun z => by rw [z, h] at hb; cases hb)]; exact h1, h2⟩
theorem src_ne {H : Hp} {s p : Addr} (hs : Src H s) (hp : H p = none) : p ≠ s := fun z => by
  obtain ⟨_, _, _, hs⟩ := hs
  rw [← z, hp] at hs
  cases hs
theorem Src.upd {H : Hp} {s p : Addr} (hs : Src H s) (ne : p ≠ s) (o : HO) : Src (L2.upd H p o) s := let ⟨a, b, c, h⟩ := hs; ⟨a, b, c, by rw [upd_ne ne.symm]; exact h⟩
def scGrow : Scope := { kind := .function, names := [(".0", .local), ("_law_row", .local), ("range", .globalImplicit), ("_law_count", .cell), ("_law_limit", .cell), ("_law_rng_here", .cell)], isGenerator := false, isCoroutine := false }
section
variable {P : Program} {w : World} {K : PySem.W.Frag} {mg : Str → Option Value} {base : Heap}
theorem sc_sample : FnScope ["_law_rng_here", "_law_items", "_law_count", "_law_left", "_law_index"] ["_law_rng_here", "_law_items", "_law_count"] (defScope s__law_sample) := ⟨rfl, rfl, rfl, by decide +kernel, rfl, by decide +kernel, by decide +kernel⟩
theorem ok_sample (T : Tx K mg) : Ok P w K mg base 2 (He.ga K "_law_sample") ["_law_rng_here", "_law_items", "_law_count"] (spSample K) := by
  obtain ⟨fd, F⟩ := T.f__law_sample
  have O := ok_draw (P := P) (w := w) (base := base) T
  refine ⟨fd, F.ok (k := 1) sc_sample (fun vs H Q E h => ?_) (fun cdv A outer s' H vs Q E hr h => ?_), F.bindsN fun _ _ _ _ _ _ us hl => match us, hl with | [_, _, _], _ => rfl, F.kp⟩
  · obtain ⟨s, l, xs, cs, n, rfl, _⟩ := h
    rfl
  obtain ⟨s, l, xs, cs, n, rfl, hs, hl, hx, hn, hx1, q⟩ := h
  refine ⟨_, pss_cons (ps_set (i := 3) sc_sample.nd rfl (Or.inr rfl) (pe_callTy call_list_of (by rfl) T.z_list (by decide +kernel) (pa_cons (pv 1) pa_nil)))
    (pss_one (ps_ret (by exact pe_lc (own := [("_law_index", 4)]) (g := gName 4) (tt := tYes) (te := tBM K "list" rPopAt (tVar 3) (tCons (tCall (spDraw K) [] E0 (tCons (tVar 0) (tCons (tCB (fun xs H Q => ∃ p ys, xs = [V.ref p] ∧ (SqL K H p ys ∨ SqT K H p ys) ∧ Q (.int ys.length) H) (tCons (tVar 3) tNil)) tNil))) tNil)) (by rfl) sc_sample.nd (pi_range1 rfl T.z_range (pa_cons (pv 2) pa_nil)) (blkOk_by (own := [("_law_index", 4)]) (N := ["_law_rng_here", "_law_items", "_law_count", "_law_left", "_law_index"]) (sc := defScope s__law_sample) (by decide +kernel)) (fun _ _ _ _ _ => pg_name (i := 4) sc_sample.nd rfl (Or.inl rfl)) (fun _ _ _ _ _ => pts_nil) (fun _ _ _ _ _ => pe_bm PySem.F.plainAttrs_list PySem.F.slot_list_pop PySem.F.type_list_pop mt_popAt (pv 3) (pa_cons (pe_f O hr T.g__law_draw (pa_cons (pv 0) (pa_cons (pe_callB call_len_seq (by rfl) T.z_len PySem.boot_len (pa_cons (pv 3) pa_nil)) pa_nil))) pa_nil))))), ?_⟩
  have lx := hx.length
  walk_at "go"
  refine ⟨l, xs, rfl, .inl (SqL.of hl), fun left hleft => ?_⟩
  have e1 := Same.new hleft (.lst xs)
  have hl1 : (upd H left (.lst xs)) left = some (.lst xs) := upd_same
  have hs1 := hs.same e1
  have ls : left ≠ s := src_ne hs hleft
  have hx1' := L2.Paired.mapP hx fun _ _ z => z.same e1
  walk_at "go"
  generalize upd H left (.lst xs) = H1 at e1 hl1 hs1 hx1' ⊢
  refine lc_open ?_
  refine rng_open ?_
  walk_at "go"
  refine ⟨_, rfl, by omega, by omega, fun D hD => ?_⟩
  rw [Int.toNat_natCast]
  have Ds : D ≠ s := src_ne hs1 hD
  have Dl : D ≠ left := fun z => by rw [z, hl1] at hD; cases hD
  refine lc_range (lo := 0) (n := n) (fun (i : Nat) H' => ∃ (ys ws : List V) (c1 c2 : List (Nat × Nat)), BM [s] H H' ∧ Src H' s ∧ H' left = some (.lst ys) ∧ H' D = some (.lst ws) ∧ Paired (CellAt H') ys c1 ∧ Paired (CellAt H') ws c2 ∧ (∀ h ∈ c1, h ∈ cs) ∧ (∀ h ∈ c2, h ∈ cs) ∧ ys.length + i = xs.length ∧ c2.length = i)
    ⟨xs, [], cs, [], BM.of (e1.trans (Same.new hD _)), hs1.same (Same.new hD _), Same.new hD _ _ _ hl1, upd_same, L2.Paired.mapP hx1' fun _ _ z => z.same (Same.new hD _), .nil, fun h hh => hh, fun h hh => (by cases hh), rfl, rfl⟩ ?_ ?_
  · rintro i H2 hi ⟨ys, ws, c1, c2, b2, s2, hy2, hw2, p1, p2, m1, m2, l1, l2⟩
    walk_at "go"
    refine ⟨rfl, ?_⟩
    walk_at "go"
    refine ⟨_, rfl, .inl ⟨rfl, _, SqL.of hy2⟩, ?_⟩
    walk_at "go"
    refine ⟨left, ys, rfl, .inl (SqL.of hy2), ?_⟩
    walk_at "go"
    refine ⟨s, _, rfl, s2, by omega, by omega, fun r H3 r0 r1 b3 s3 => ?_⟩
    obtain ⟨j, rfl⟩ : ∃ j : Nat, r = (j : Int) := ⟨r.toNat, by omega⟩
    have hj : j < ys.length := by omega
    obtain ⟨y, hy⟩ : ∃ y, ys[j]? = some y := ⟨_, List.getElem?_eq_getElem hj⟩
    obtain ⟨c, hc, hyc⟩ := K3.Paired.get p1 hy
    have hy3 := b3.at hy2 (by simpa using ls)
    have hw3 := b3.at hw2 (by simpa using Ds)
    refine ⟨left, ys, _, j, y, rfl, rfl, hy3, by omega, by omega, ix_nat hj, hy, ?_⟩
    have up : ∀ v x, CellAt H2 v x → CellAt (upd H3 left (.lst (ys.eraseIdx j))) v x := fun v x z => by
      obtain ⟨a, h1, h2⟩ := z.bm s2 b3
      exact ⟨a, h1, by rw [upd_ne (fun z => by rw [z, hy3] at h2; cases h2)]; exact h2⟩
    have hw4 : (upd H3 left (.lst (ys.eraseIdx j))) D = some (.lst ws) := by rw [upd_ne Dl]; exact hw3
    have up2 : ∀ v x, CellAt H2 v x → CellAt (upd (upd H3 left (.lst (ys.eraseIdx j))) D (.lst (ws ++ [y]))) v x := fun v x z => by
      obtain ⟨a, h1, h2⟩ := up v x z
      exact ⟨a, h1, by rw [upd_ne (fun z => by rw [z, hw4] at h2; cases h2)]; exact h2⟩
    have lw : ws.length ≤ 100000 := by rw [p2.length, l2]; omega
    refine ⟨ws, hw4, Nat.lt_of_le_of_lt lw (by decide), ys.eraseIdx j, ws ++ [y], c1.eraseIdx j, c2 ++ [c], ((b2.trans b3).mut hleft).mut (e1.free hD), (s3.upd ls _).upd Ds _, by rw [upd_ne Dl.symm]; exact upd_same, upd_same, L2.Paired.mapP (paired_erase p1 j) fun _ _ z => up2 _ _ z, K3.Paired.app (L2.Paired.mapP p2 fun _ _ z => up2 _ _ z) (.cons (up2 _ _ hyc) .nil), fun h hh => m1 h (List.mem_of_mem_eraseIdx hh), fun h hh => ?_, ?_, by rw [List.length_append, l2]; rfl⟩
    · rcases List.mem_append.mp hh with hh | hh
      · exact m2 h hh
      · rw [List.mem_singleton.mp hh]
        exact m1 c (List.mem_of_getElem? hc)
    · rw [List.length_eraseIdx, if_pos hj]
      omega
  · rintro H2 ⟨ys, ws, c1, c2, b2, s2, hy2, hw2, p1, p2, m1, m2, l1, l2⟩
    walk_at "go"
    exact q D H2 ws c2 (e1.free hD) b2 s2 hw2 p2 m2 l2
theorem sc_grid : FnScope ["_law_rng_here", "_law_count", "_law_limit", "_law_column", "_law_row"] ["_law_rng_here"] (defScope s__law_random_grid) := ⟨rfl, rfl, rfl, by decide +kernel, rfl, by decide +kernel, by decide +kernel⟩
theorem ok_grid (T : Tx K mg) : Ok P w K mg base 3 (He.ga K "_law_random_grid") ["_law_rng_here"] (spGrid K) := by
  obtain ⟨fd, F⟩ := T.f__law_random_grid
  have O := ok_draw (P := P) (w := w) (base := base) T
  refine ⟨fd, F.ok (k := 2) sc_grid (fun vs H Q E h => ?_) (fun cdv A outer s' H vs Q E hr h => ?_), F.bindsN fun _ _ _ _ _ _ us hl => match us, hl with | [_], _ => rfl, F.kp⟩
  · obtain ⟨s, rfl, _⟩ := h
    rfl
  obtain ⟨s, rfl, hs, q⟩ := h
  have hr1 : Room 1 _ := hr.mono (by decide)
  refine ⟨_, pss_cons (ps_set (i := 1) sc_grid.nd rfl (Or.inr rfl) (pe_op op_add pe_int (pe_f O hr1 T.g__law_draw (pa_cons (pv 0) (pa_cons pe_int pa_nil)))))
    (pss_cons (ps_set (i := 2) sc_grid.nd rfl (Or.inr rfl) (pe_f (ok_pick T) hr T.g__law_pick (pa_cons (pv 0) (pa_cons (pe_lst (pa_cons pe_int (pa_cons pe_int (pa_cons pe_int (pa_cons (pe_op op_pow pe_int pe_int) pa_nil))))) pa_nil))))
    (pss_one (ps_ret (pe_f (ok_ws T) hr1 T.g__law_with_sums (pa_cons (by exact pe_lc (own := [("_law_row", 4)]) (g := gName 4) (tt := tYes) (te := tLc (iRng1 (tCons (tVar 1) tNil)) (gName 3) tYes (tCall (spDraw K) [] E0 (tCons (tVar 0) (tCons (tVar 2) tNil))) [3]) (by rfl) sc_grid.nd (pi_range1 rfl T.z_range (pa_cons (pe_op op_add pe_int (pe_f O hr1 T.g__law_draw (pa_cons (pv 0) (pa_cons pe_int pa_nil)))) pa_nil)) (blkOk_by (own := [("_law_row", 4)]) (N := ["_law_rng_here", "_law_count", "_law_limit", "_law_column", "_law_row"]) (sc := defScope s__law_random_grid) (by decide +kernel)) (fun _ _ _ _ _ => pg_name (i := 4) sc_grid.nd rfl (Or.inl rfl)) (fun _ _ _ _ _ => pts_nil) (fun _ _ _ _ _ => (by exact pe_lc (own := [("_law_column", 3)]) (g := gName 3) (tt := tYes) (te := tCall (spDraw K) [] E0 (tCons (tVar 0) (tCons (tVar 2) tNil))) (by rfl) sc_grid.nd (pi_range1 rfl T.z_range (pa_cons (pv 1) pa_nil)) (blkOk_by (own := [("_law_column", 3)]) (N := ["_law_rng_here", "_law_count", "_law_limit", "_law_column", "_law_row"]) (sc := scGrow) (by decide +kernel)) (fun _ _ _ _ _ => pg_name (i := 3) sc_grid.nd rfl (Or.inl rfl)) (fun _ _ _ _ _ => pts_nil) (fun _ _ _ _ _ => pe_f O hr1 T.g__law_draw (pa_cons (pv 0) (pa_cons (pv 2) pa_nil)))))) pa_nil))))), ?_⟩
  walk_at "go"
  refine ⟨s, 5, rfl, hs, by decide, by decide, fun r1 H1 a0 a1 b1 s1 => ?_⟩
  walk_at "go"
  obtain ⟨k, hk, hk0, hk5⟩ : ∃ k : Nat, (1 + r1 : Int) = (k : Int) ∧ 1 ≤ k ∧ k ≤ 5 := ⟨(1 + r1).toNat, by omega, by omega, by omega⟩
  rw [hk]
  walk_at "go"
  refine w_i (by refine ⟨?_, ?_, ?_⟩ <;> decide) ?_
  walk_at "go"
  refine ⟨(by show 4 ≤ sizeLine; decide), fun p1 hp1 => ?_⟩
  have e2 := Same.new hp1 (.lst [V.int 2, .int 7, .int 7, .int (10 ^ (6 : Int).toNat)])
  have p1s : p1 ≠ s := src_ne s1 hp1
  refine ⟨s, p1, _, rfl, s1.same e2, upd_same, p1s, by show 0 < 4; decide, by show 4 ≤ 1000; decide, fun v H2 hv b2 s2 => ?_⟩
  obtain ⟨lim, rfl, lm0, lm1⟩ : ∃ lim : Int, v = .int lim ∧ 0 < lim ∧ lim ≤ 1000000 := by
    simp only [List.mem_cons, List.not_mem_nil, or_false] at hv
    rcases hv with rfl | rfl | rfl | rfl
    · exact ⟨2, rfl, by decide, by decide⟩
    · exact ⟨7, rfl, by decide, by decide⟩
    · exact ⟨7, rfl, by decide, by decide⟩
    · exact ⟨_, rfl, by decide, by decide⟩
  have b02 : BM [s] H H2 := (b1.same e2).trans b2
  walk_at "go"
  refine lc_open ?_
  refine rng_open ?_
  walk_at "go"
  refine ⟨s, 5, rfl, s2, by decide, by decide, fun r3 H3 c0 c1 b3 s3 => ?_⟩
  walk_at "go"
  obtain ⟨m, hm, hm0, hm5⟩ : ∃ m : Nat, (1 + r3 : Int) = (m : Int) ∧ 1 ≤ m ∧ m ≤ 5 := ⟨(1 + r3).toNat, by omega, by omega, by omega⟩
  rw [hm]
  refine ⟨_, rfl, by omega, by omega, fun D hD => ?_⟩
  rw [Int.toNat_natCast]
  have b03 := b02.trans b3
  have Ds : D ≠ s := src_ne s3 hD
  have hDH : H D = none := b03.free hD
  refine lc_range (lo := 0) (n := m) (fun (i : Nat) H' => ∃ (rs : List Addr) (t : List (List Int)), BM [s] H H' ∧ Src H' s ∧ H' D = some (.lst (rs.map V.ref)) ∧ Paired (RowAt H') rs t ∧ t.length = i ∧ (∀ r ∈ t, r.length = k ∧ ∀ x ∈ r, 0 ≤ x) ∧ ∀ r ∈ rs, r ≠ s ∧ r ≠ D)
    ⟨[], [], b03.same (Same.new hD _), s3.same (Same.new hD _), upd_same, .nil, rfl, fun r hr => (by cases hr), fun r hr => (by cases hr)⟩ ?_ ?_
  · rintro i H4 hi ⟨rs, t, b4, s4, hD4, hp4, ht4, hk4, hr4⟩
    walk_at "go"
    refine ⟨rfl, ?_⟩
    walk_at "go"
    refine lc_open ?_
    refine rng_open ?_
    walk_at "go"
    refine ⟨_, rfl, by omega, by omega, fun D2 hD2 => ?_⟩
    rw [Int.toNat_natCast]
    have D2s : D2 ≠ s := src_ne s4 hD2
    have D2D : D2 ≠ D := fun z => by rw [z, hD4] at hD2; cases hD2
    refine lc_range (lo := 0) (n := k) (fun (j : Nat) H' => ∃ row : List Int, BM [s] H4 H' ∧ Src H' s ∧ H' D2 = some (.lst (row.map V.int)) ∧ row.length = j ∧ ∀ x ∈ row, 0 ≤ x)
      ⟨[], BM.of (Same.new hD2 _), s4.same (Same.new hD2 _), upd_same, rfl, fun x hx => (by cases hx)⟩ ?_ ?_
    · rintro j H5 hj ⟨row, b5, s5, hD25, lr5, hx5⟩
      walk_at "go"
      refine ⟨rfl, ?_⟩
      walk_at "go"
      refine ⟨s, lim, rfl, s5, lm0, by omega, fun x H6 x0 x1 b6 s6 => ?_⟩
      have hD26 := b6.at hD25 (by simpa using D2s)
      refine ⟨_, hD26, Nat.lt_of_le_of_lt (show (row.map V.int).length ≤ 100 by rw [List.length_map]; omega) (by decide), row ++ [x], (b5.trans b6).mut hD2, s6.upd D2s _, by rw [upd_same, List.map_append]; rfl, by rw [List.length_append, lr5]; rfl, fun y hy => ?_⟩
      rcases List.mem_append.mp hy with hy | hy
      · exact hx5 y hy
      · rw [List.mem_singleton.mp hy]; exact x0
    · rintro H5 ⟨row, b5, s5, hD25, lr5, hx5⟩
      have hD5 := b5.at hD4 (by simpa using Ds)
      have up : ∀ r row', RowAt H4 r row' → r ≠ s → r ≠ D → RowAt (upd H5 D (.lst (rs.map V.ref ++ [.ref D2]))) r row' := fun r row' z h1 h2 => by
        show upd H5 D _ r = _
        rw [upd_ne h2]
        exact b5.at z (by simpa using h1)
      refine ⟨_, hD5, Nat.lt_of_le_of_lt (show (rs.map V.ref).length ≤ 100 by rw [List.length_map, hp4.length]; omega) (by decide), rs ++ [D2], t ++ [row], (b4.trans b5).mut hDH, s5.upd Ds _, by rw [upd_same, List.map_append]; rfl, K3.Paired.app (paired_up hp4 fun r row' hr z => up r row' z (hr4 r hr).1 (hr4 r hr).2) (.cons (by show upd H5 D _ D2 = _; rw [upd_ne D2D]; exact hD25) .nil), by rw [List.length_append, ht4]; rfl, fun r hr => ?_, fun r hr => ?_⟩
      · rcases List.mem_append.mp hr with hr | hr
        · exact hk4 r hr
        · rw [List.mem_singleton.mp hr]; exact ⟨lr5, hx5⟩
      · rcases List.mem_append.mp hr with hr | hr
        · exact hr4 r hr
        · rw [List.mem_singleton.mp hr]; exact ⟨D2s, D2D⟩
  · rintro H4 ⟨rs, t, b4, s4, hD4, hp4, ht4, hk4, hr4⟩
    walk_at "go"
    refine ⟨D, rs, t, k, rfl, ⟨hD4, hp4⟩, fun r hr => (hk4 r hr).1, fun z => by rw [z] at ht4; simp at ht4; omega, by omega, by omega, fun p' H5 rs' e5 hnew htab => ?_⟩
    exact q p' H5 rs' t k (b4.same e5) (s4.same e5) ⟨b4.free hnew.p0, fun r hr => b4.free (hnew.rs0 r hr), hnew.nd, hnew.ne⟩ htab hk4 hk0 hk5 (by omega) (by omega)
end
end K3
end L4_part
section L5_part
set_option Elab.async false
set_option linter.all false
set_option maxRecDepth 100000
set_option maxHeartbeats 1000000
set_option pp.deepTerms.threshold 5
open PySem PySem.Spec PyProof.Rows L2
/-- go on as far as nothing is open -/
local macro_rules | `(tactic| walk_at "go") => `(tactic| repeat (first
  | with_reducible refine w_seq ?_ | with_reducible refine w_next ?_ | with_reducible refine w_set ?_ | with_reducible refine w_drop ?_ | with_reducible refine w_ret ?_ | with_reducible refine w_retN ?_
  | with_reducible refine w_if ?_ | ((with_reducible refine' w_var ?hv ?_); (case hv => exact rfl)) | with_reducible refine w_c ?_ | with_reducible refine w_nil ?_ | with_reducible refine w_cons ?_ | with_reducible refine w_op ?_ | with_reducible refine w_un ?_
  | with_reducible refine w_test ?_ | with_reducible refine w_tB ?_ | with_reducible refine w_not ?_ | with_reducible refine w_and ?_ | with_reducible refine w_or ?_ | with_reducible refine w_bl ?_
  | with_reducible refine w_andV ?_ | with_reducible refine w_orV ?_ | with_reducible refine w_notV ?_ | with_reducible refine w_ifE ?_ | with_reducible refine w_chain ?_ | with_reducible refine w_i0 ?_
  | with_reducible refine w_call ?_ | with_reducible refine w_callS ?_ | with_reducible refine w_cB ?_ | with_reducible refine w_tup ?_ | with_reducible refine w_lst ?_ | with_reducible refine w_fldV ?_
  | with_reducible refine w_neF ?_ | with_reducible refine w_neT ?_ | with_reducible refine w_notN ?_ | with_reducible refine w_isN ?_ | with_reducible refine w_gname ?_ | with_reducible refine w_gsub ?_ | with_reducible refine w_asg ?_ | with_reducible refine w_sl ?_ | with_reducible refine w_noP ?_ | with_reducible refine w_int1 ?_ | with_reducible refine w_part ?_ | with_reducible refine w_yes ?_ | with_reducible refine w_nT ?_ | with_reducible refine w_nF ?_ | with_reducible refine w_iteT ?_ | with_reducible refine w_iteF ?_))
namespace K3
theorem w_eqI {i j : Int} {H : Hp} {Q : VK} (h : Q (.bl (decide (V.int i = V.int j))) H) : rEq (.int i) (.int j) H Q := ⟨rfl, h⟩
theorem decV {i j : Int} : decide (V.int i = V.int j) = decide (i = j) := by
  by_cases h : i = j
  · rw [h]; simp
  · rw [decide_eq_false h, decide_eq_false (fun z => h (V.int.inj z))]
theorem paired_take {α β : Type} {F : α → β → Prop} : ∀ {xs : List α} {ys : List β}, Paired F xs ys → ∀ k, Paired F (xs.take k) (ys.take k)
  | _, _, .nil, k => by rw [List.take_nil, List.take_nil]; exact .nil
  | _, _, .cons h t, 0 => .nil
  | _, _, .cons h t, k + 1 => .cons h (paired_take t k)
/-- what may be hidden cells of a grid of such a shape -/
structure Hid (H : Hp) (p : Addr) (ws : List V) (hs : List (Nat × Nat)) (m n : Nat) : Prop where
  at_ : H p = some (.lst ws)
  cells : Paired (CellAt H) ws hs
  mem : ∀ h ∈ hs, h ∈ (cellsOf m n).dropLast
  len : hs.length ≤ 60
def spHidden (K : PySem.W.Frag) : Sp := fun vs H Q _ => ∃ (s g : Addr) (rs : List Addr) (t : List (List Int)) (n : Nat) (r0 : List Int), vs = [.ref s, .ref g] ∧ Src H s ∧ Tab H g rs t ∧ t[0]? = some r0 ∧ r0.length = n ∧ t.length ≤ 6 ∧ n ≤ 6 ∧
  ∀ p H' ws hs, H p = none → BM [s] H H' → Src H' s → Hid H' p ws hs t.length n → Q (.ref p) H'
section
variable {P : Program} {w : World} {K : PySem.W.Frag} {mg : Str → Option Value} {base : Heap}
theorem sc_hidden : FnScope ["_law_rng_here", "_law_grid", "_law_cells_here", "_law_way", "_law_hidden"] ["_law_rng_here", "_law_grid"] (defScope s__law_random_hidden) := ⟨rfl, rfl, rfl, by decide +kernel, rfl, by decide +kernel, by decide +kernel⟩
theorem ok_hidden (T : Tx K mg) : Ok P w K mg base 3 (He.ga K "_law_random_hidden") ["_law_rng_here", "_law_grid"] (spHidden K) := by
  obtain ⟨fd, F⟩ := T.f__law_random_hidden
  have O_law_draw := ok_draw (P := P) (w := w) (base := base) T
  have O_law_cells := ok_cells (P := P) (w := w) (base := base) T
  have O_law_sample := ok_sample (P := P) (w := w) (base := base) T
  refine ⟨fd, F.ok (k := 2) sc_hidden (fun vs H Q E h => ?_) (fun cdv A outer s' H vs Q E hr h => ?_), F.bindsN fun _ _ _ _ _ _ us hl => match us, hl with | [_, _], _ => rfl, F.kp⟩
  · obtain ⟨s, g, rs, t, n, r0, rfl, _⟩ := h
    rfl
  obtain ⟨s, g, rs, t, n, r0, rfl, hs, ht, hr0, hn, hm6, hn6, q⟩ := h
  have r_law_sample : Room 2 _ := hr
  have r_law_draw : Room 1 _ := hr.mono (by decide)
  have r_law_cells : Room 1 _ := hr.mono (by decide)
  refine ⟨_, pss_cons (ps_set (i := 2) sc_hidden.nd rfl (Or.inl rfl) (pe_f O_law_cells r_law_cells T.g__law_cells (pa_cons (pv 1) pa_nil)))
      (pss_cons (ps_set (i := 3) sc_hidden.nd rfl (Or.inl rfl) (pe_f O_law_draw r_law_draw T.g__law_draw (pa_cons (pv 0) (pa_cons pe_int pa_nil))))
      (pss_cons (ps_if (pt_cmpR op_eq (pv 3) pe_int (nomark _)) (pss_one (ps_ret (pv 2))) pss_nil)
      (pss_cons (ps_if (pt_cmpR op_eq (pv 3) pe_int (nomark _)) (pss_one (ps_ret (pe_lst pa_nil))) pss_nil)
      (pss_cons (ps_set (i := 4) sc_hidden.nd rfl (Or.inl rfl) (pe_f O_law_sample r_law_sample T.g__law_sample (pa_cons (pv 0) (pa_cons (pv 2) (pa_cons (pe_f O_law_draw r_law_draw T.g__law_draw (pa_cons (pv 0) (pa_cons (pe_op op_add (pe_callB call_len_seq (by rfl) T.z_len PySem.boot_len (pa_cons (pv 2) pa_nil)) pe_int) pa_nil))) pa_nil)))))
      (pss_one (ps_ret (pe_op op_cat (pv 4) (pe_slice sl_list (pv 4) po_none (po_some (pe_f O_law_draw r_law_draw T.g__law_draw (pa_cons (pv 0) (pa_cons pe_int pa_nil)))))))))))), ?_⟩
  have lc36 : (cellsOf t.length n).dropLast.length ≤ 36 := by
    rw [List.length_dropLast, cells_len]
    exact Nat.le_trans (Nat.sub_le _ _) (Nat.mul_le_mul hm6 hn6)
  walk_at "go"
  refine ⟨g, rs, t, n, r0, rfl, ht, hr0, hn, by omega, by omega, fun p1 H1 w1 e1 hp1 h1 c1 => ?_⟩
  walk_at "go"
  have s1 := hs.same e1
  refine ⟨s, 4, rfl, s1, by decide, by decide, fun way H2 _ _ b2 s2 => ?_⟩
  have p1s : p1 ≠ s := src_ne hs hp1
  have h2 := b2.at h1 (by simpa using p1s)
  have c2 := L2.Paired.mapP c1 fun _ _ z => z.bm s1 b2
  have b02 : BM [s] H H2 := (BM.of e1).trans b2
  walk_at "go"
  refine w_eqI ?_
  rw [decV]
  walk_at "go"
  by_cases w0 : way = 0
  · rw [decide_eq_true w0]
    walk_at "go"
    exact q p1 H2 w1 _ hp1 b02 s2 ⟨h2, c2, fun h hh => hh, by omega⟩
  rw [decide_eq_false w0]
  walk_at "go"
  refine w_eqI ?_
  rw [decV]
  walk_at "go"
  by_cases w1' : way = 1
  · rw [decide_eq_true w1']
    walk_at "go"
    refine ⟨Nat.zero_le _, fun p hp => ?_⟩
    exact q p _ [] [] (b02.free hp) (b02.same (Same.new hp _)) (s2.same (Same.new hp _)) ⟨upd_same, .nil, fun h hh => (by cases hh), by decide⟩
  rw [decide_eq_false w1']
  walk_at "go"
  refine ⟨p1, w1, rfl, .inl (SqL.of h2), ?_⟩
  walk_at "go"
  have l1 := c2.length
  refine ⟨s, _, rfl, s2, by omega, by omega, fun k H3 k0 k1 b3 s3 => ?_⟩
  have h3 := b3.at h2 (by simpa using p1s)
  have c3 := L2.Paired.mapP c2 fun _ _ z => z.bm s2 b3
  obtain ⟨k', rfl⟩ : ∃ k' : Nat, k = (k' : Int) := ⟨k.toNat, by omega⟩
  refine ⟨s, p1, w1, _, k', rfl, s3, h3, c3, by omega, by omega, fun p4 H4 w4 hs4 hp4 b4 s4 h4 c4 m4 l4 => ?_⟩
  walk_at "go"
  refine ⟨s, 3, rfl, s4, by decide, by decide, fun j H5 j0 j1 b5 s5 => ?_⟩
  have p4s : p4 ≠ s := src_ne s3 hp4
  have h5 := b5.at h4 (by simpa using p4s)
  have c5 := L2.Paired.mapP c4 fun _ _ z => z.bm s4 b5
  obtain ⟨j', rfl⟩ : ∃ j' : Nat, j = (j' : Int) := ⟨j.toNat, by omega⟩
  walk_at "go"
  refine ⟨p4, w4, rfl, SqL.of h5, fun p6 hp6 => ?_⟩
  rw [cut_to]
  have e6 := Same.new hp6 (.lst (w4.take j'))
  have l5 := c5.length
  refine ⟨p4, p6, _, _, rfl, rfl, e6 _ _ h5, upd_same, Nat.le_trans (show w4.length + (w4.take j').length ≤ 1000 by rw [List.length_take]; omega) (by decide), fun p7 hp7 => ?_⟩
  have e7 := Same.new hp7 (.lst (w4 ++ w4.take j'))
  have b05 : BM [s] H H5 := ((b02.trans b3).trans b4).trans b5
  have e67 := e6.trans e7
  refine q p7 _ _ (hs4 ++ hs4.take j') (b05.free (e6.free hp7)) (b05.same e67) (s5.same e67) ⟨upd_same, ?_, ?_, ?_⟩
  · have c7 := L2.Paired.mapP c5 fun _ _ z => z.same e67
    exact K3.Paired.app c7 (paired_take c7 j')
  · intro h hh
    rcases List.mem_append.mp hh with hh | hh
    · exact m4 h hh
    · exact m4 h (List.mem_of_mem_take hh)
  · rw [List.length_append, List.length_take]
    omega
end
end K3
end L5_part
section L6_part
set_option Elab.async false
set_option linter.all false
set_option maxRecDepth 100000
set_option maxHeartbeats 1000000
set_option pp.deepTerms.threshold 5
open PySem PySem.Spec PyProof.Rows L2
/-- go on as far as nothing is open -/
local macro_rules | `(tactic| walk_at "go") => `(tactic| repeat (first
  | with_reducible refine w_seq ?_ | with_reducible refine w_next ?_ | with_reducible refine w_set ?_ | with_reducible refine w_drop ?_ | with_reducible refine w_ret ?_ | with_reducible refine w_retN ?_
  | with_reducible refine w_if ?_ | ((with_reducible refine' w_var ?hv ?_); (case hv => exact rfl)) | with_reducible refine w_c ?_ | with_reducible refine w_nil ?_ | with_reducible refine w_cons ?_ | with_reducible refine w_op ?_ | with_reducible refine w_un ?_
  | with_reducible refine w_test ?_ | with_reducible refine w_tB ?_ | with_reducible refine w_not ?_ | with_reducible refine w_and ?_ | with_reducible refine w_or ?_ | with_reducible refine w_bl ?_
  | with_reducible refine w_andV ?_ | with_reducible refine w_orV ?_ | with_reducible refine w_notV ?_ | with_reducible refine w_ifE ?_ | with_reducible refine w_chain ?_ | with_reducible refine w_i0 ?_
  | with_reducible refine w_call ?_ | with_reducible refine w_callS ?_ | with_reducible refine w_cB ?_ | with_reducible refine w_tup ?_ | with_reducible refine w_lst ?_ | with_reducible refine w_fldV ?_
  | with_reducible refine w_neF ?_ | with_reducible refine w_neT ?_ | with_reducible refine w_notN ?_ | with_reducible refine w_isN ?_ | with_reducible refine w_gname ?_ | with_reducible refine w_gsub ?_ | with_reducible refine w_asg ?_ | with_reducible refine w_sl ?_ | with_reducible refine w_noP ?_ | with_reducible refine w_int1 ?_ | with_reducible refine w_part ?_ | with_reducible refine w_yes ?_ | with_reducible refine w_nT ?_ | with_reducible refine w_nF ?_ | with_reducible refine w_iteT ?_ | with_reducible refine w_iteF ?_))
namespace K3
/-! ### a cell among cells -/
def cellD (c : Nat × Nat) : PyData := .tuple [.int (c.1 : Int), .int (c.2 : Int)]
theorem cell_dp {K : PySem.W.Frag} {H : Hp} {v : V} {c : Nat × Nat} (h : CellAt H v c) : Dp K H v (cellD c) := by
  obtain ⟨a, rfl, h⟩ := h
  exact Dp.tup (SqT.of h) (.cons (.int _) (.cons (.int _) .nil))
theorem cells_dp {K : PySem.W.Frag} {H : Hp} : ∀ {ws : List V} {hs : List (Nat × Nat)}, Paired (CellAt H) ws hs → DpAll K H ws (hs.map cellD)
  | _, _, .nil => .nil
  | _, _, .cons h t => .cons (cell_dp h) (cells_dp t)
theorem cell_same (a b : Nat × Nat) : PySem.Spec.same (cellD a) (cellD b) = decide (a = b) := by
  unfold cellD
  obtain ⟨a1, a2⟩ := a
  obtain ⟨b1, b2⟩ := b
  rw [Bool.eq_iff_iff]
  simp [PySem.Spec.same, PySem.Spec.sameAll]
  omega
theorem cell_nomix (a b : Nat × Nat) : SeqAt.noMix (cellD a) (cellD b) = true := rfl
theorem cell_count (c : Nat × Nat) : ∀ hs : List (Nat × Nat), 0 ≤ countIn (cellD c) (hs.map cellD) ∧ (countIn (cellD c) (hs.map cellD) ≠ 0 ↔ c ∈ hs)
  | [] => ⟨Int.le_refl 0, by simp [countIn]⟩
  | h :: hs => by
    obtain ⟨i0, i1⟩ := cell_count c hs
    simp only [List.map_cons, countIn, cell_same, List.mem_cons]
    by_cases e : h = c
    · rw [e]
      simp only [decide_true, if_true]
      exact ⟨by omega, ⟨fun _ => by simp, fun _ => by omega⟩⟩
    · rw [decide_eq_false e]
      simp only [Bool.false_eq_true, if_false]
      refine ⟨by omega, ⟨fun z => .inr (i1.mp (by omega)), fun z => ?_⟩⟩
      rcases z with z | z
      · exact absurd z.symm e
      · have := i1.mpr z
        omega
theorem log_small {n : Nat} (h : n < 1000) : (if (n : Int) = 0 then 0 else (n : Int).natAbs.log2 + 1) ≤ 10 := by
  split
  · exact Nat.zero_le _
  · rename_i h0
    have : n ≠ 0 := fun z => h0 (by rw [z]; rfl)
    have : n.log2 < 10 := (Nat.log2_lt this).mpr (by omega)
    simp only [Int.natAbs_natCast]
    omega
theorem cell_lay (c : Nat × Nat) (h : c.1 < 1000 ∧ c.2 < 1000) : (cellD c).canLay0 = true ∧ (cellD c).depth ≤ 5 ∧ (cellD c).weight ≤ 50 := by
  have l1 := log_small h.1
  have l2 := log_small h.2
  unfold cellD
  refine ⟨rfl, by simp [PyData.depth, PyData.depthAll], ?_⟩
  simp [PyData.weight, PyData.weightAll] at l1 l2 ⊢
  omega
theorem cells_lay : ∀ hs : List (Nat × Nat), (∀ c ∈ hs, c.1 < 1000 ∧ c.2 < 1000) → PyData.canLayAll0 (hs.map cellD) = true ∧ PyData.depthAll (hs.map cellD) ≤ 5 ∧ PyData.weightAll (hs.map cellD) ≤ 100 * hs.length
  | [], _ => by simp [PyData.canLayAll0, PyData.depthAll, PyData.weightAll]
  | h :: hs, k => by
    obtain ⟨a, b, c⟩ := cells_lay hs fun c hc => k c (List.mem_cons_of_mem _ hc)
    obtain ⟨d, e, f⟩ := cell_lay h (k h (List.mem_cons_self ..))
    simp only [List.map_cons, PyData.canLayAll0, PyData.depthAll, PyData.weightAll, List.length_cons]
    refine ⟨by rw [a, d]; rfl, by omega, by omega⟩
theorem list_lay {hs : List (Nat × Nat)} (k : ∀ c ∈ hs, c.1 < 1000 ∧ c.2 < 1000) (n : hs.length ≤ 1000) : (PyData.list (hs.map cellD)).layable0 = true ∧ (PyData.tuple (hs.map cellD)).layable0 = true := by
  obtain ⟨a, b, c⟩ := cells_lay hs k
  have e (d : PyData) (h1 : d.canLay0 = true) (h2 : d.depth ≤ 64) (h3 : d.weight ≤ 2 ^ 20) : d.layable0 = true := by
    unfold PyData.layable0
    rw [h1, decide_eq_true h2, decide_eq_true h3]
    rfl
  constructor
  · refine e _ (by simpa [PyData.canLay0] using a) (by simp only [PyData.depth]; omega) ?_
    simp only [PyData.weight]
    omega
  · refine e _ (by simpa [PyData.canLay0] using a) (by simp only [PyData.depth]; omega) ?_
    simp only [PyData.weight]
    omega
def rNotInC (K : PySem.W.Frag) : R2 := fun x y H Q => ∃ (p : Addr) (ws : List V) (hs : List (Nat × Nat)) (c : Nat × Nat), CellAt H x c ∧ y = .ref p ∧ (SqL K H p ws ∨ SqT K H p ws) ∧ Paired (CellAt H) ws hs ∧ hs.length ≤ 1000 ∧ (∀ h ∈ hs, h.1 < 1000 ∧ h.2 < 1000) ∧ (c.1 < 1000 ∧ c.2 < 1000) ∧ Q (.bl (!decide (c ∈ hs))) H
theorem op_notInC {X : Cx} (hu : X.A.units + 65 < cLine) : OpR X (compareOp .NotIn) (rNotInC X.K) := by
  intro pins s σ H x y v u Q I rx ry ⟨p, ws, hs, c, hc, ey, hp, hw, hn, hb, hcb, q⟩
  obtain ⟨as, ra⟩ := Dp.reads I _ _ _ (cell_dp (K := X.K) hc) rx
  have ll := list_lay hb hn
  have lc : (cellD c).layable0 = true := by
    obtain ⟨a, b, d⟩ := cell_lay c hcb
    unfold PyData.layable0
    rw [a, decide_eq_true (show (cellD c).depth ≤ 64 by omega), decide_eq_true (show (cellD c).weight ≤ 2 ^ 20 by omega)]
    rfl
  have e : decide (countIn (cellD c) (hs.map cellD) ≠ 0) = decide (c ∈ hs) := decide_eq_decide.mpr (cell_count c hs).2
  have nm : ∀ y ∈ hs.map cellD, SeqAt.noMix y (cellD c) = true := fun y hy => by
    obtain ⟨h, _, rfl⟩ := List.mem_map.mp hy
    exact cell_nomix _ _
  rcases hp with hp | hp
  · obtain ⟨bs, rb⟩ := Dp.reads I _ _ _ (by rw [ey]; exact Dp.lst hp (cells_dp hw)) ry
    exact notIn_list_dataS rb ra ll.1 lc hu nm ⟨.bl (!decide (c ∈ hs)), H, I, by rw [e]; exact rfl, q⟩
  · obtain ⟨bs, rb⟩ := Dp.reads I _ _ _ (by rw [ey]; exact Dp.tup hp (cells_dp hw)) ry
    exact PyProof.Rows.notIn_tuple_dataS rb ra ll.2 lc hu nm ⟨.bl (!decide (c ∈ hs)), H, I, by rw [e]; exact rfl, q⟩
theorem Room.units65 {k : Nat} {A : Around} (h : Room k A) : A.units + 65 < cLine := Nat.lt_of_le_of_lt (by omega) h.un
end K3
end L6_part
section L7_part
set_option Elab.async false
set_option linter.all false
set_option maxRecDepth 100000
set_option maxHeartbeats 1000000
set_option pp.deepTerms.threshold 5
open PySem PySem.Spec PyProof.Rows L2
/-- go on as far as nothing is open -/
local macro_rules | `(tactic| walk_at "go") => `(tactic| repeat (first
  | with_reducible refine w_seq ?_ | with_reducible refine w_next ?_ | with_reducible refine w_set ?_ | with_reducible refine w_drop ?_ | with_reducible refine w_ret ?_ | with_reducible refine w_retN ?_
  | with_reducible refine w_if ?_ | ((with_reducible refine' w_var ?hv ?_); (case hv => exact rfl)) | with_reducible refine w_c ?_ | with_reducible refine w_nil ?_ | with_reducible refine w_cons ?_ | with_reducible refine w_op ?_ | with_reducible refine w_un ?_
  | with_reducible refine w_test ?_ | with_reducible refine w_tB ?_ | with_reducible refine w_not ?_ | with_reducible refine w_and ?_ | with_reducible refine w_or ?_ | with_reducible refine w_bl ?_
  | with_reducible refine w_andV ?_ | with_reducible refine w_orV ?_ | with_reducible refine w_notV ?_ | with_reducible refine w_ifE ?_ | with_reducible refine w_chain ?_ | with_reducible refine w_i0 ?_
  | with_reducible refine w_call ?_ | with_reducible refine w_callS ?_ | with_reducible refine w_cB ?_ | with_reducible refine w_tup ?_ | with_reducible refine w_lst ?_ | with_reducible refine w_fldV ?_
  | with_reducible refine w_neF ?_ | with_reducible refine w_neT ?_ | with_reducible refine w_notN ?_ | with_reducible refine w_isN ?_ | with_reducible refine w_gname ?_ | with_reducible refine w_gsub ?_ | with_reducible refine w_asg ?_ | with_reducible refine w_sl ?_ | with_reducible refine w_noP ?_ | with_reducible refine w_int1 ?_ | with_reducible refine w_part ?_ | with_reducible refine w_yes ?_ | with_reducible refine w_nT ?_ | with_reducible refine w_nF ?_ | with_reducible refine w_iteT ?_ | with_reducible refine w_iteF ?_))
namespace L2
open PySem PySem.Spec PyProof.Rows
section
variable {X : Cx}
/-- either reading will do -/
theorem pi_or {tg e : Expr} {a b : TI} (ha : PI X tg e a) (hb : PI X tg e b) : PI X tg e (fun σ H R => a σ H R ∨ b σ H R) := ⟨fun pins s σ H R I h => h.elim (ha.run pins s σ H R I) (hb.run pins s σ H R I)⟩
theorem cr_or {f : Value} {a b : List V → Hp → VK → Prop} (ha : CallR X f a) (hb : CallR X f b) : CallR X f (fun xs H Q => a xs H Q ∨ b xs H Q) := fun pins s σ H xs us Q I v h => h.elim (ha pins s σ H xs us Q I v) (hb pins s σ H xs us Q I v)
/-- a statement that is never come to -/
theorem ps_dead {st : Stmt} : PS X st (fun _ _ _ => False) := ⟨fun _ _ _ _ _ _ h => h.elim⟩
end
section
variable {J : It} {n : Nat} {G : Hp → Prop} {Y : Nat → Hp → V → Hp → Prop}
/-- the second source's own loop within a comprehension of two fors -/
def In1 (D : Addr) (g1 : TG) (tt1 : TT) (te : TE) (vs1 : List Nat) (Nx : Hp → Prop) (J1 : It) (σ2 : L2.St) (H4 : Hp) : Prop :=
  ∃ W1 : Nat → Nat → Hp → Prop, (∃ m, W1 0 m H4) ∧ ∀ j k H, W1 j k H →
      (J1.stop j H ∧ Nx H) ∨ (J1.go j H ∧ ∃ Nx1 : Hp → Prop, (∀ H', Nx1 H' → ∃ k', k' < k ∧ W1 (j + 1) k' H') ∧ ∀ x H', J1.yld j H x H' → g1 x (wipe σ2 vs1) H' fun σ3 H5 => wipe σ3 vs1 = wipe σ2 vs1 ∧ tt1 σ3 H5 fun b H6 =>
        if b = true then te σ3 H6 fun y H7 => ∃ acc, H7 D = some (.lst acc) ∧ acc.length < sizeLine ∧ Nx1 (upd H7 D (.lst (acc ++ [y]))) else Nx1 H6)
theorem in1_it (w : Walk J n G Y) {D : Addr} {g1 : TG} {tt1 : TT} {te : TE} {vs1 : List Nat} {Nx : Hp → Prop} {σ2 : L2.St} {H4 : Hp} (Pv : Nat → Hp → Prop) (h0 : Pv 0 H4) (hG : ∀ i H, i ≤ n → Pv i H → G H)
    (hs : ∀ j x H H', j < n → Pv j H → Y j H x H' → g1 x (wipe σ2 vs1) H' fun σ3 H5 => wipe σ3 vs1 = wipe σ2 vs1 ∧ tt1 σ3 H5 fun b H6 =>
        if b = true then te σ3 H6 fun y H7 => ∃ acc, H7 D = some (.lst acc) ∧ acc.length < sizeLine ∧ Pv (j + 1) (upd H7 D (.lst (acc ++ [y]))) else Pv (j + 1) H6)
    (hd : ∀ H, Pv n H → Nx H) : In1 D g1 tt1 te vs1 Nx J σ2 H4 := by
  refine ⟨fun i k H => k = n - i ∧ i ≤ n ∧ Pv i H, ⟨n, rfl, Nat.zero_le _, h0⟩, ?_⟩
  rintro i k H ⟨rfl, hi, p⟩
  by_cases c : i < n
  · exact .inr ⟨w.goes i H c (hG i H hi p), Pv (i + 1), fun _ p' => ⟨n - (i + 1), by omega, rfl, c, p'⟩, fun x H' y => hs i x H H' c p (w.yields i H x H' c (hG i H hi p) y)⟩
  · obtain rfl : i = n := by omega
    exact .inl ⟨w.stops H (hG i H hi p), hd H p⟩
theorem lc2_it (w : Walk J n G Y) {g g1 : TG} {tt tt1 : TT} {wi1 : TI} {te : TE} {vs vs1 : List Nat} {σ : L2.St} {H1 : Hp} {D : Addr} {Qd : Hp → Prop} (Pv : Nat → Hp → Prop) (h0 : Pv 0 (upd H1 D (.lst []))) (hG : ∀ i H, i ≤ n → Pv i H → G H)
    (hs : ∀ i x H H', i < n → Pv i H → Y i H x H' → g x (wipe σ vs) H' fun σ2 H2 => wipe σ2 vs = wipe σ vs ∧ tt σ2 H2 fun b H3 =>
      if b = true then wi1 σ2 H3 fun J1 H4 => In1 D g1 tt1 te vs1 (Pv (i + 1)) J1 σ2 H4 else Pv (i + 1) H3)
    (hd : ∀ H, Pv n H → Qd H) :
    ∃ W : Nat → Nat → Hp → Prop, (∃ m, W 0 m (upd H1 D (.lst []))) ∧ ∀ i m H, W i m H →
  (J.stop i H ∧ Qd H) ∨ (J.go i H ∧ ∃ Nx : Hp → Prop, (∀ H', Nx H' → ∃ m', m' < m ∧ W (i + 1) m' H') ∧ ∀ x H', J.yld i H x H' → g x (wipe σ vs) H' fun σ2 H2 => wipe σ2 vs = wipe σ vs ∧ tt σ2 H2 fun b H3 =>
    if b = true then wi1 σ2 H3 fun J1 H4 => In1 D g1 tt1 te vs1 Nx J1 σ2 H4 else Nx H3) := by
  refine ⟨fun i k H => k = n - i ∧ i ≤ n ∧ Pv i H, ⟨n, rfl, Nat.zero_le _, h0⟩, ?_⟩
  rintro i k H ⟨rfl, hi, p⟩
  by_cases c : i < n
  · exact .inr ⟨w.goes i H c (hG i H hi p), Pv (i + 1), fun _ p' => ⟨n - (i + 1), by omega, rfl, c, p'⟩, fun x H' y => hs i x H H' c p (w.yields i H x H' c (hG i H hi p) y)⟩
  · obtain rfl : i = n := by omega
    exact .inl ⟨w.stops H (hG i H hi p), hd H p⟩
theorem lc2_open {wi wi1 : TI} {g g1 : TG} {tt tt1 : TT} {te : TE} {vs vs1 : List Nat} {σ : L2.St} {H : Hp} {Q : VK} (h : wi σ H fun J H1 => ∀ D, H1 D = none → ∃ W : Nat → Nat → Hp → Prop, (∃ m, W 0 m (upd H1 D (.lst []))) ∧ ∀ i m H, W i m H →
  (J.stop i H ∧ Q (.ref D) H) ∨ (J.go i H ∧ ∃ Nx : Hp → Prop, (∀ H', Nx H' → ∃ m', m' < m ∧ W (i + 1) m' H') ∧ ∀ x H', J.yld i H x H' → g x (wipe σ vs) H' fun σ2 H2 => wipe σ2 vs = wipe σ vs ∧ tt σ2 H2 fun b H3 =>
    if b = true then wi1 σ2 H3 fun J1 H4 => In1 D g1 tt1 te vs1 Nx J1 σ2 H4 else Nx H3)) : tLc2 wi g tt wi1 g1 tt1 te vs vs1 σ H Q := h
end
end L2
namespace K3
def Rect (t : List (List Int)) (m n : Nat) : Prop := t.length = m ∧ ∀ r ∈ t, r.length = n
def at2 (t : List (List Int)) (i j : Nat) : Int := (t.getD i []).getD j 0
theorem row_of {H : Hp} {g : Addr} {rs : List Addr} {t : List (List Int)} (ht : Tab H g rs t) {i : Nat} (hi : i < t.length) : ∃ a r, rs[i]? = some a ∧ t[i]? = some r ∧ H a = some (.lst (r.map V.int)) := by
  have l := ht.rows.length
  obtain ⟨r, hr, hx⟩ := K3.Paired.get ht.rows (i := i) (x := rs[i]'(by omega)) (List.getElem?_eq_getElem _)
  exact ⟨_, r, List.getElem?_eq_getElem _, hr, hx⟩
theorem at2_of {t : List (List Int)} {i j : Nat} {r : List Int} (h : t[i]? = some r) : at2 t i j = r.getD j 0 := by
  unfold at2
  have e : t.getD i [] = r := by rw [List.getD_eq_getElem?_getD, h]; rfl
  rw [e]
theorem ref_at {rs : List Addr} {i : Nat} {a : Addr} (h : rs[i]? = some a) : atI (rs.map V.ref) (i : Int) = some (.ref a) := atI_nat (by rw [List.getElem?_map, h]; rfl)
theorem w_gtup {K : PySem.W.Frag} {n : Nat} {t : TGs} {a : Addr} {xs : List V} {σ : L2.St} {H : Hp} {Q : L2.St → Hp → Prop} (h1 : SqT K H a xs) (h2 : xs.length = n) (h : t xs σ H Q) : gTup K n t (.ref a) σ H Q := ⟨a, xs, rfl, h1, h2, h⟩
end K3
end L7_part
section L8_part
set_option Elab.async false
set_option linter.all false
set_option maxRecDepth 100000
set_option maxHeartbeats 1000000
set_option pp.deepTerms.threshold 5
open PySem PySem.Spec PyProof.Rows L2
/-- go on as far as nothing is open -/
local macro_rules | `(tactic| walk_at "go") => `(tactic| repeat (first
  | with_reducible refine w_seq ?_ | with_reducible refine w_next ?_ | with_reducible refine w_set ?_ | with_reducible refine w_drop ?_ | with_reducible refine w_ret ?_ | with_reducible refine w_retN ?_
  | with_reducible refine w_if ?_ | ((with_reducible refine' w_var ?hv ?_); (case hv => exact rfl)) | with_reducible refine w_c ?_ | with_reducible refine w_nil ?_ | with_reducible refine w_cons ?_ | with_reducible refine w_op ?_ | with_reducible refine w_un ?_
  | with_reducible refine w_test ?_ | with_reducible refine w_tB ?_ | with_reducible refine w_not ?_ | with_reducible refine w_and ?_ | with_reducible refine w_or ?_ | with_reducible refine w_bl ?_
  | with_reducible refine w_andV ?_ | with_reducible refine w_orV ?_ | with_reducible refine w_notV ?_ | with_reducible refine w_ifE ?_ | with_reducible refine w_chain ?_ | with_reducible refine w_i0 ?_
  | with_reducible refine w_call ?_ | with_reducible refine w_callS ?_ | with_reducible refine w_cB ?_ | with_reducible refine w_tup ?_ | with_reducible refine w_lst ?_ | with_reducible refine w_fldV ?_
  | with_reducible refine w_neF ?_ | with_reducible refine w_neT ?_ | with_reducible refine w_notN ?_ | with_reducible refine w_isN ?_ | with_reducible refine w_gname ?_ | with_reducible refine w_gsub ?_ | with_reducible refine w_asg ?_ | with_reducible refine w_sl ?_ | with_reducible refine w_noP ?_ | with_reducible refine w_int1 ?_ | with_reducible refine w_part ?_ | with_reducible refine w_yes ?_ | with_reducible refine w_nT ?_ | with_reducible refine w_nF ?_ | with_reducible refine w_iteT ?_ | with_reducible refine w_iteF ?_))
namespace K3
def spCellsOf (K : PySem.W.Frag) : Sp := fun vs H Q _ => ∃ (g : Addr) (rs : List Addr) (t : List (List Int)) (m n : Nat), vs = [.ref g] ∧ Tab H g rs t ∧ Rect t m n ∧ 1 ≤ m ∧ m ≤ 100 ∧ n ≤ 100 ∧ ∀ p' H' vs, Same H H' → H p' = none → H' p' = some (.lst vs) → Paired (CellAt H') vs (cellsOf m n) → Q (.ref p') H'
def spLast (K : PySem.W.Frag) : Sp := fun vs H Q _ => ∃ (g : Addr) (rs : List Addr) (t : List (List Int)) (m n : Nat), vs = [.ref g] ∧ Tab H g rs t ∧ Rect t m n ∧ 1 ≤ m ∧ 1 ≤ n ∧ ∀ a H', Same H H' → CellAt H' (.ref a) (m - 1, n - 1) → Q (.ref a) H'
def spNum (K : PySem.W.Frag) : Sp := fun vs H Q _ => ∃ (g : Addr) (v : V) (rs : List Addr) (t : List (List Int)) (m n i j : Nat), vs = [.ref g, v] ∧ Tab H g rs t ∧ Rect t m n ∧ CellAt H v (i, j) ∧ i < m ∧ j < n ∧ Q (.int (at2 t i j)) H
def spRefuse (K : PySem.W.Frag) : Sp := fun vs H Q _ => ∃ (g : Addr) (v : V) (rs : List Addr) (t : List (List Int)) (m n i j : Nat), vs = [.ref g, v] ∧ Tab H g rs t ∧ Rect t m n ∧ CellAt H v (i, j) ∧ i < m ∧ j < n ∧ Q .non H
section
variable {P : Program} {w : World} {K : PySem.W.Frag} {mg : Str → Option Value} {base : Heap}
theorem sc_cells_of : FnScope ["grid", "row", "column"] ["grid"] (defScope s_cells_of) := ⟨rfl, rfl, rfl, by decide +kernel, rfl, by decide +kernel, by decide +kernel⟩
theorem ok_cells_of (T : Tx K mg) : Ok P w K mg base 1 (He.ga K "cells_of") ["grid"] (spCellsOf K) := by
  obtain ⟨fd, F⟩ := T.f_cells_of
  refine ⟨fd, F.ok (k := 0) sc_cells_of (fun vs H Q E h => ?_) (fun cdv A outer s' H vs Q E hr h => ?_), F.bindsN fun _ _ _ _ _ _ us hl => match us, hl with | [_], _ => rfl, F.kp⟩
  · obtain ⟨g, rs, t, m, n, rfl, _⟩ := h
    rfl
  obtain ⟨g, rs, t, m, n, rfl, ht, ⟨tm, tn⟩, m1, m2, n2, q⟩ := h
  refine ⟨_, pss_one (ps_ret (by exact pe_lc2 (own := [("row", 1), ("column", 2)]) (vs1 := [2]) (g := gName 1) (tt := tYes) (wi1 := (iRng1 (tCons (tCB (fun xs H Q => ∃ p ys, xs = [V.ref p] ∧ (SqL K H p ys ∨ SqT K H p ys) ∧ Q (.int ys.length) H) (tCons (tOp (rIxL K) (tVar 0) (tC (.int 0))) tNil)) tNil))) (g1 := gName 2) (tt1 := tYes) (te := (tTup (tCons (tVar 1) (tCons (tVar 2) tNil)))) (by rfl) sc_cells_of.nd (pi_range1 rfl T.z_range (pa_cons (pe_callB call_len_seq (by rfl) T.z_len PySem.boot_len (pa_cons (pv 0) pa_nil)) pa_nil)) (blkOk_by (own := [("row", 1), ("column", 2)]) (N := ["grid", "row", "column"]) (sc := defScope s_cells_of) (by decide +kernel)) (by decide) (fun _ _ _ _ _ => pg_name (i := 1) sc_cells_of.nd rfl (Or.inl rfl)) (fun _ _ _ _ _ => pts_nil) (fun _ _ _ _ _ => (pi_range1 rfl T.z_range (pa_cons (pe_callB call_len_seq (by rfl) T.z_len PySem.boot_len (pa_cons (pe_ix ix_list (pv 0) pe_int (fun _ _ => rfl)) pa_nil)) pa_nil))) (fun _ _ _ _ _ => pg_name (i := 2) sc_cells_of.nd rfl (Or.inl rfl)) (fun _ _ _ _ _ => pts_nil) (fun _ _ _ _ _ => (pe_tup (pa_cons (pv 1) (pa_cons (pv 2) pa_nil)))))), ?_⟩
  have lr := ht.rows.length
  obtain ⟨a0, r0, ha0, hr0, hx0⟩ := row_of ht (i := 0) (by omega)
  have ln : r0.length = n := tn _ (List.mem_of_getElem? hr0)
  walk_at "go"
  refine lc2_open ?_
  refine rng_open ?_
  walk_at "go"
  refine ⟨g, _, rfl, .inl (SqL.of ht.at_), ?_⟩
  rw [List.length_map, lr, tm]
  refine ⟨_, rfl, by omega, by omega, fun D hD => ?_⟩
  rw [Int.toNat_natCast]
  refine lc2_it walk_range (fun (i : Nat) H' => ∃ vs : List V, Same H H' ∧ H' D = some (.lst vs) ∧ Paired (CellAt H') vs (cellsOf i n)) ⟨[], Same.new hD _, upd_same, .nil⟩ (fun _ _ _ _ => trivial) ?_ ?_
  · rintro i x H1 H2 hi ⟨vs, e1, hD1, hp1⟩ ⟨rfl, rfl⟩
    show gName 1 (V.int ((0 : Int) + (i : Int))) _ _ _
    rw [show (0 : Int) + (i : Int) = (i : Int) by omega]
    walk_at "go"
    refine ⟨rfl, ?_⟩
    walk_at "go"
    refine rng_open ?_
    walk_at "go"
    refine w_ixL (e1 _ _ ht.at_) (ref_at (i := 0) ha0) ?_
    walk_at "go"
    refine ⟨a0, _, rfl, .inl (SqL.of (e1 _ _ hx0)), ?_⟩
    rw [List.length_map, ln]
    refine ⟨_, rfl, by omega, by omega, ?_⟩
    rw [Int.toNat_natCast]
    have hl1 : vs.length ≤ 10000 := by
      rw [hp1.length, cells_len]
      exact Nat.le_trans (Nat.mul_le_mul (Nat.le_trans (Nat.le_of_lt hi) m2) n2) (by decide)
    refine in1_it walk_range (fun (j : Nat) H' => ∃ ws : List V, Same H H' ∧ H' D = some (.lst ws) ∧ Paired (CellAt H') ws (cellsOf i n ++ rowCells j i)) ⟨vs, e1, hD1, by show Paired (CellAt _) vs (cellsOf i n ++ []); rw [List.append_nil]; exact hp1⟩ (fun _ _ _ _ => trivial) ?_ ?_
    · rintro j x H3 H4 hj ⟨ws, e3, hD3, hp3⟩ ⟨rfl, rfl⟩
      show gName 2 (V.int ((0 : Int) + (j : Int))) _ _ _
      rw [show (0 : Int) + (j : Int) = (j : Int) by omega]
      walk_at "go"
      refine ⟨rfl, ?_⟩
      walk_at "go"
      refine ⟨(by show 2 ≤ sizeLine; decide), fun p3 hp4 => ?_⟩
      have e4 := Same.new hp4 (.tup [.int (i : Int), .int (j : Int)])
      have hD4 := e4 _ _ hD3
      have lw : ws.length ≤ 20000 := by
        rw [hp3.length, List.length_append, cells_len]
        unfold rowCells
        rw [List.length_map, List.length_range]
        have := Nat.mul_le_mul (Nat.le_trans (Nat.le_of_lt hi) m2) n2
        omega
      have up : ∀ v x, CellAt (upd H4 p3 (.tup [.int (i : Int), .int (j : Int)])) v x → CellAt (upd (upd H4 p3 (.tup [.int (i : Int), .int (j : Int)])) D (.lst (ws ++ [.ref p3]))) v x := fun v x ⟨a, h1, h2⟩ => ⟨a, h1, by rw [upd_ne (fun z => by rw [z, hD4] at h2; cases h2)]; exact h2⟩
      refine ⟨ws, hD4, Nat.lt_of_le_of_lt lw (by decide), ws ++ [.ref p3], (e3.trans e4).mut hD, upd_same, ?_⟩
      unfold rowCells at hp3 ⊢
      rw [List.range_succ, List.map_append, ← List.append_assoc]
      exact K3.Paired.app (L2.Paired.mapP hp3 fun _ _ z => up _ _ (z.same e4)) (.cons (up _ _ ⟨p3, rfl, upd_same⟩) .nil)
    · rintro H3 ⟨ws, e3, hD3, hp3⟩
      refine ⟨ws, e3, hD3, ?_⟩
      unfold cellsOf at hp3 ⊢
      rw [List.range_succ, List.flatMap_append, List.flatMap_cons, List.flatMap_nil, List.append_nil]
      exact hp3
  · rintro H1 ⟨vs, e1, hD1, hp1⟩
    exact q D H1 vs e1 hD hD1 hp1
theorem sc_last_cell : FnScope ["grid"] ["grid"] (defScope s_last_cell) := ⟨rfl, rfl, rfl, by decide +kernel, rfl, by decide +kernel, by decide +kernel⟩
theorem ok_last_cell (T : Tx K mg) : Ok P w K mg base 1 (He.ga K "last_cell") ["grid"] (spLast K) := by
  obtain ⟨fd, F⟩ := T.f_last_cell
  refine ⟨fd, F.ok (k := 0) sc_last_cell (fun vs H Q E h => ?_) (fun cdv A outer s' H vs Q E hr h => ?_), F.bindsN fun _ _ _ _ _ _ us hl => match us, hl with | [_], _ => rfl, F.kp⟩
  · obtain ⟨g, rs, t, m, n, rfl, _⟩ := h
    rfl
  obtain ⟨g, rs, t, m, n, rfl, ht, ⟨tm, tn⟩, m1, n1, q⟩ := h
  refine ⟨_, pss_one (ps_ret (pe_tup (pa_cons (pe_op op_sub (pe_callB call_len_seq (by rfl) T.z_len PySem.boot_len (pa_cons (pv 0) pa_nil)) pe_int) (pa_cons (pe_op op_sub (pe_callB call_len_seq (by rfl) T.z_len PySem.boot_len (pa_cons (pe_ix ix_list (pv 0) pe_int (fun _ _ => rfl)) pa_nil)) pe_int) pa_nil)))), ?_⟩
  have lr := ht.rows.length
  obtain ⟨a0, r0, ha0, hr0, hx0⟩ := row_of ht (i := 0) (by omega)
  have ln : r0.length = n := tn _ (List.mem_of_getElem? hr0)
  walk_at "go"
  refine ⟨g, _, rfl, .inl (SqL.of ht.at_), ?_⟩
  rw [List.length_map, lr, tm]
  walk_at "go"
  refine w_ixL ht.at_ (ref_at (i := 0) ha0) ?_
  walk_at "go"
  refine ⟨a0, _, rfl, .inl (SqL.of hx0), ?_⟩
  rw [List.length_map, ln]
  walk_at "go"
  refine ⟨(by show 2 ≤ sizeLine; decide), fun a ha => q a _ (Same.new ha _) ⟨a, rfl, ?_⟩⟩
  rw [upd_same, show ((m : Int) - 1) = ((m - 1 : Nat) : Int) by omega, show ((n : Int) - 1) = ((n - 1 : Nat) : Int) by omega]
theorem sc_number_at : FnScope ["grid", "cell", "row", "column"] ["grid", "cell"] (defScope s_number_at) := ⟨rfl, rfl, rfl, by decide +kernel, rfl, by decide +kernel, by decide +kernel⟩
theorem ok_number_at (T : Tx K mg) : Ok P w K mg base 1 (He.ga K "number_at") ["grid", "cell"] (spNum K) := by
  obtain ⟨fd, F⟩ := T.f_number_at
  refine ⟨fd, F.ok (k := 0) sc_number_at (fun vs H Q E h => ?_) (fun cdv A outer s' H vs Q E hr h => ?_), F.bindsN fun _ _ _ _ _ _ us hl => match us, hl with | [_, _], _ => rfl, F.kp⟩
  · obtain ⟨g, v, rs, t, m, n, i, j, rfl, _⟩ := h
    rfl
  obtain ⟨g, v, rs, t, m, n, i, j, rfl, ht, ⟨tm, tn⟩, ⟨c, rfl, hc⟩, hi, hj, q⟩ := h
  refine ⟨_, pss_cons (ps_asg (pv 1) (pg_tup rfl (pgs_cons (pg_name (i := 2) sc_number_at.nd rfl (Or.inl rfl)) (pgs_cons (pg_name (i := 3) sc_number_at.nd rfl (Or.inl rfl)) pgs_nil))))
      (pss_one (ps_ret (pe_ix ix_list (pe_ix ix_list (pv 0) (pv 2) (fun _ _ => rfl)) (pv 3) (fun _ _ => rfl)))), ?_⟩
  obtain ⟨a0, r0, ha0, hr0, hx0⟩ := row_of ht (i := i) (by omega)
  have ln : r0.length = n := tn _ (List.mem_of_getElem? hr0)
  walk_at "go"
  refine ⟨c, _, rfl, SqT.of hc, rfl, _, _, rfl, _, _, rfl, rfl, ?_⟩
  walk_at "go"
  refine w_ixL ht.at_ (ref_at ha0) ?_
  walk_at "go"
  refine w_ixL hx0 (at_getD (c := j) (by omega)) ?_
  rw [← at2_of hr0]
  exact q
theorem sc_refuse_no_cell : FnScope ["grid", "cell", "row", "column"] ["grid", "cell"] (defScope s_refuse_no_cell) := ⟨rfl, rfl, rfl, by decide +kernel, rfl, by decide +kernel, by decide +kernel⟩
theorem ok_refuse_no_cell (T : Tx K mg) : Ok P w K mg base 1 (He.ga K "refuse_no_cell") ["grid", "cell"] (spRefuse K) := by
  obtain ⟨fd, F⟩ := T.f_refuse_no_cell
  refine ⟨fd, F.ok (k := 0) sc_refuse_no_cell (fun vs H Q E h => ?_) (fun cdv A outer s' H vs Q E hr h => ?_), F.bindsN fun _ _ _ _ _ _ us hl => match us, hl with | [_, _], _ => rfl, F.kp⟩
  · obtain ⟨g, v, rs, t, m, n, i, j, rfl, _⟩ := h
    rfl
  obtain ⟨g, v, rs, t, m, n, i, j, rfl, ht, ⟨tm, tn⟩, ⟨c, rfl, hc⟩, hi, hj, q⟩ := h
  refine ⟨_, pss_cons (ps_asg (pv 1) (pg_tup rfl (pgs_cons (pg_name (i := 2) sc_refuse_no_cell.nd rfl (Or.inl rfl)) (pgs_cons (pg_name (i := 3) sc_refuse_no_cell.nd rfl (Or.inl rfl)) pgs_nil))))
      (pss_one (ps_if (pt_not (pw_and (pt_chain op_le op_lt pe_int (pv 2) (pe_callB call_len_seq (by rfl) T.z_len PySem.boot_len (pa_cons (pv 0) pa_nil))) (pw_and1 (pt_chain op_le op_lt pe_int (pv 3) (pe_callB call_len_seq (by rfl) T.z_len PySem.boot_len (pa_cons (pe_ix ix_list (pv 0) pe_int (fun _ _ => rfl)) pa_nil))))).pt) (pss_one ps_dead) pss_nil)), ?_⟩
  have lr := ht.rows.length
  obtain ⟨a0, r0, ha0, hr0, hx0⟩ := row_of ht (i := 0) (by omega)
  have ln : r0.length = n := tn _ (List.mem_of_getElem? hr0)
  have d1 : decide ((0 : Int) ≤ (i : Int)) = true := decide_eq_true (by omega)
  have d2 : decide ((i : Int) < (m : Int)) = true := decide_eq_true (by omega)
  have d3 : decide ((0 : Int) ≤ (j : Int)) = true := decide_eq_true (by omega)
  have d4 : decide ((j : Int) < (n : Int)) = true := decide_eq_true (by omega)
  walk_at "go"
  refine ⟨c, _, rfl, SqT.of hc, rfl, _, _, rfl, _, _, rfl, rfl, ?_⟩
  walk_at "go"
  rw [d1]
  walk_at "go"
  refine ⟨g, _, rfl, .inl (SqL.of ht.at_), ?_⟩
  rw [List.length_map, lr, tm]
  walk_at "go"
  rw [d2]
  walk_at "go"
  rw [d3]
  walk_at "go"
  refine w_ixL ht.at_ (ref_at (i := 0) ha0) ?_
  walk_at "go"
  refine ⟨a0, _, rfl, .inl (SqL.of hx0), ?_⟩
  rw [List.length_map, ln]
  walk_at "go"
  rw [d4]
  walk_at "go"
  exact q
end
end K3
end L8_part
section L9_part
set_option Elab.async false
set_option linter.all false
set_option maxRecDepth 100000
set_option maxHeartbeats 1000000
set_option pp.deepTerms.threshold 5
open PySem PySem.Spec PyProof.Rows L2
/-- go on as far as nothing is open -/
local macro_rules | `(tactic| walk_at "go") => `(tactic| repeat (first
  | with_reducible refine w_seq ?_ | with_reducible refine w_next ?_ | with_reducible refine w_set ?_ | with_reducible refine w_drop ?_ | with_reducible refine w_ret ?_ | with_reducible refine w_retN ?_
  | with_reducible refine w_if ?_ | ((with_reducible refine' w_var ?hv ?_); (case hv => exact rfl)) | with_reducible refine w_c ?_ | with_reducible refine w_nil ?_ | with_reducible refine w_cons ?_ | with_reducible refine w_op ?_ | with_reducible refine w_un ?_
  | with_reducible refine w_test ?_ | with_reducible refine w_tB ?_ | with_reducible refine w_not ?_ | with_reducible refine w_and ?_ | with_reducible refine w_or ?_ | with_reducible refine w_bl ?_
  | with_reducible refine w_andV ?_ | with_reducible refine w_orV ?_ | with_reducible refine w_notV ?_ | with_reducible refine w_ifE ?_ | with_reducible refine w_chain ?_ | with_reducible refine w_i0 ?_
  | with_reducible refine w_call ?_ | with_reducible refine w_callS ?_ | with_reducible refine w_cB ?_ | with_reducible refine w_tup ?_ | with_reducible refine w_lst ?_ | with_reducible refine w_fldV ?_
  | with_reducible refine w_neF ?_ | with_reducible refine w_neT ?_ | with_reducible refine w_notN ?_ | with_reducible refine w_isN ?_ | with_reducible refine w_gname ?_ | with_reducible refine w_gsub ?_ | with_reducible refine w_asg ?_ | with_reducible refine w_sl ?_ | with_reducible refine w_noP ?_ | with_reducible refine w_int1 ?_ | with_reducible refine w_part ?_ | with_reducible refine w_yes ?_ | with_reducible refine w_nT ?_ | with_reducible refine w_nF ?_ | with_reducible refine w_iteT ?_ | with_reducible refine w_iteF ?_))
namespace L2
open PySem PySem.Spec PyProof.Rows
/-- an empty set as it is made -/
abbrev bare0 (w : World) : Obj := { cls := .type "set", dict := none, data := .set #[] 0 (.fresh 0 0 (!w.params.followText "set-order")) }
section
variable {P : Program} {w : World} {A : Around} {E : Value → Shared → Prop} {s : Shared}
theorem no_obj {h : Heap} {b : Addr} (q : h.objs.size ≤ b) : h.get? b = none := by
  cases e : h.get? b with
  | none => rfl
  | some _ =>
    exact absurd (Nat.lt_of_lt_of_le (Heap.lt_size e) q) (Nat.lt_irrefl _)
set_option maxRecDepth 100000 in
set_option maxHeartbeats 3200000 in
/-- the filling of a new set from a tuple of tuples -/
theorem fill_tups {l : Addr} {items : Array Value} (ks : List (Addr × List Int)) (A0 : A.handled = none)
    (T : s.heap.IsTuple l items) (ei : items.toList = ks.map (fun p => Value.ref p.1))
    (ik : ∀ p, p ∈ ks → IsT P w s.heap p.2 p.1) (few : ks.length < 64) (room : A.units + 1 < cLine)
    {R : Result → Shared → Prop}
    (h : ∀ (h' : Heap) (tk : Nat) (L : List (Addr × List Int)) es ep t, SetTR P w h' s.heap.objs.size L es ep t → Got ks ks.length L →
      (∀ b o, s.heap.get? b = some o → h'.get? b = some o) → R (.ok (.ret Value.none)) { s with heap := h', toks := tk }) :
    codeAny (model P w) A (.builtin "set.update.loop" ⟨[.ref s.heap.objs.size, .ref (s.heap.objs.size + 1)], []⟩) R
      { s with heap := (s.heap.push (bare0 w)).push { cls := .type "tuple_iterator", data := .fields #[.ref l, .int 0 0] } } := by
  have n : items.size = ks.length := by rw [← Array.length_toList, ei, List.length_map]
  obtain ⟨ol, hol, _⟩ := id T
  have ls : l < s.heap.objs.size := Heap.lt_size hol
  have z1 : (s.heap.push (bare0 w)).objs.size = s.heap.objs.size + 1 := Heap.size_push ..
  have at0 : (s.heap.push (bare0 w)).get? s.heap.objs.size = some (bare0 w) := Heap.get?_push_size _ rfl
  have it0 : ((s.heap.push (bare0 w)).push { cls := .type "tuple_iterator", data := .fields #[.ref l, .int 0 0] }).get? (s.heap.objs.size + 1) = some { cls := .type "tuple_iterator", data := .fields #[.ref l, .int 0 0] } := by
    rw [← z1]
    exact Heap.get?_push_size _ rfl
  have hv : ∀ (i : Nat) (v : Value), items[i]? = some v → ∃ p, ks[i]? = some p ∧ v = Value.ref p.1 := by
    intro i v e
    rw [← Array.getElem?_toList, ei, List.getElem?_map] at e
    cases c : ks[i]? with
    | none => rw [c] at e; cases e
    | some p => rw [c] at e; exact ⟨p, rfl, (Option.some.inj e).symm⟩
  have out : s.heap.objs.size ∉ [s.heap.objs.size + 1, l] := by
    intro z
    rcases List.mem_cons.mp z with z | z
    · exact Nat.ne_of_lt (Nat.lt_succ_self _) z
    · exact Nat.ne_of_gt ls (List.mem_singleton.mp z)
  have W := (Walks.tuple (prog := P) (w := w) (A := A.in1) (by simpa using A0) (s.heap.objs.size + 1) l (Nat.ne_of_lt (Nat.lt_succ_of_lt ls)) items).toS
  refine set_update_tups W s.heap.objs.size out ks n few hv s.heap ik (no_obj (Nat.le_refl _)) ?_ (by simpa using room) items.size 0 _ (Nat.sub_zero _) (Nat.zero_le _) ?_ ?_ ?_ ?_
  · intro b hb
    rw [List.mem_singleton.mp hb]
    exact no_obj (Nat.le_succ _)
  · exact ⟨⟨_, it0, rfl, rfl⟩, (T.push _).push _⟩
  · exact fun b o e => Heap.get?_push_of_some _ (Heap.get?_push_of_some _ e)
  · exact ⟨[], #[], 0, _, setTR_fresh (Heap.get?_push_of_some _ at0), Got.zero ks⟩
  · intro s' L es ep t mv S1 g k
    have e : s' = { s with heap := s'.heap, toks := s'.toks } := by
      have a1 := mv.gens
      have a2 := mv.drawn
      have a3 := mv.os
      cases s'
      cases a1
      cases a2
      cases a3
      rfl
    rw [e]
    rw [n] at g
    exact h s'.heap s'.toks L es ep t S1 g k
set_option maxRecDepth 100000 in
set_option maxHeartbeats 3200000 in
/-- set(t), t a tuple of tuples of ints -/
theorem set_of_tuple {l : Addr} {items : Array Value} (ks : List (Addr × List Int)) {Q : Value → Shared → Prop} (A0 : A.handled = none)
    (T : s.heap.IsTuple l items) (ei : items.toList = ks.map (fun p => Value.ref p.1))
    (ik : ∀ p, p ∈ ks → IsT P w s.heap p.2 p.1) (few : ks.length < 64) (room : A.units + 4 < cLine)
    (h : ∀ (h' : Heap) (tk : Nat) (L : List (Addr × List Int)) es ep t, SetTR P w h' s.heap.objs.size L es ep t → Got ks ks.length L →
      (∀ b o, s.heap.get? b = some o → h'.get? b = some o) → Q (.ref s.heap.objs.size) { s with heap := h', toks := tk }) :
    wpAny (model P w) A (call (.type "set") [.ref l]) Q E s := by
  obtain ⟨mroC, mroT, mroE⟩ := F.called_set.mro
  have f1 := F.called_set.made
  have f2 := F.called_set.sub
  have f3 := F.called_set.notType
  have f4 := F.called_set.canCreate
  have f5 := F.typeCall_set_1 (.ref l)
  refine wpAny_call (codeAny_of_tree (wpAny_pure ⟨Code.quiet_builtin _ (by decide +kernel), codeAny_builtin F.entry_type_call ?_⟩))
  rw [Around.under_plain (weight_type_call_type "set" [.ref l] []) rfl]
  repeat (any_goals (first | assumption | wp_step))
  refine codeAny_mono (code_set_led1 (.ref l) (E := E) (Q₁ := fun v s1 => v = .ref s.heap.objs.size ∧ s1 = { s with heap := s.heap.push (bare0 w) }) ⟨rfl, rfl⟩) ?_
  intro r s1 hr
  match r, hr with
  | .error e, hr => exact hr
  | .ok (.ret v), hr =>
    obtain ⟨e1, e2⟩ := hr
    subst e1
    subst e2
    have g1 := F.called_set.init.lookup
    have g2 := F.called_set.init.bind (.ref s.heap.objs.size)
    have ty : Shared.TypeIs { s with heap := s.heap.push (bare0 w) } (.ref s.heap.objs.size) "set" := ⟨_, Heap.get?_push_size _ rfl, rfl⟩
    repeat (any_goals (first | assumption | wp_step))
    refine codeAny_mono (codeAny_call_builtin (R := wants (fun v s2 => v = .none ∧ ∃ h' tk, s2 = { s with heap := h', toks := tk } ∧ Q (.ref s.heap.objs.size) s2) E) F.called_set.init.plain F.entry_set_init (check_set_init_1 ty ?_)) ?_
    · obtain ⟨⟨oc, od, odt, osl⟩, o1, o2, on, o3⟩ := id T
      simp only at o2 o3
      subst o2
      subst o3
      have o4 : (s.heap.push (bare0 w)).get? l = some ⟨.type "tuple", od, .seq items on, osl⟩ := Heap.get?_push_of_some _ o1
      have k1 := F.sub_tuple_set
      have k2 := F.sub_tuple_frozenset
      have k3 : (Value.type "tuple" == Value.type "dict") = false := by decide
      unfold Builtin.«set.__init__» noKeywords Builtin.Frozenset.updateFrom
      generalize hI : pyIter = IT
      wp_walk
      subst hI
      refine wpAny_pyIter_tuple (T.push _) (wpAny_bind (wpAny_runValue ?_))
      have z1 : (s.heap.push (bare0 w)).objs.size = s.heap.objs.size + 1 := Heap.size_push ..
      rw [z1]
      refine fill_tups (s := s) ks (by simp [A0]) T ei ik few (by simp; omega) ?_
      intro h' tk L es ep t S1 g k
      refine wpAny_pure (wpAny_pure ⟨rfl, h', tk, rfl, h h' tk L es ep t S1 g k⟩)
    · intro r2 s2 hr2
      match r2, hr2 with
      | .error e, hr2 => exact hr2
      | .ok (.ret v), hr2 =>
        obtain ⟨e1, h', tk, e2, q⟩ := hr2
        subst e1
        subst e2
        repeat (any_goals (first | assumption | wp_step))
end
end L2
end L9_part
section L10_part
set_option Elab.async false
set_option linter.all false
set_option maxRecDepth 100000
set_option maxHeartbeats 1000000
set_option pp.deepTerms.threshold 5
open PySem PySem.Spec PyProof.Rows L2
/-- go on as far as nothing is open -/
local macro_rules | `(tactic| walk_at "go") => `(tactic| repeat (first
  | with_reducible refine w_seq ?_ | with_reducible refine w_next ?_ | with_reducible refine w_set ?_ | with_reducible refine w_drop ?_ | with_reducible refine w_ret ?_ | with_reducible refine w_retN ?_
  | with_reducible refine w_if ?_ | ((with_reducible refine' w_var ?hv ?_); (case hv => exact rfl)) | with_reducible refine w_c ?_ | with_reducible refine w_nil ?_ | with_reducible refine w_cons ?_ | with_reducible refine w_op ?_ | with_reducible refine w_un ?_
  | with_reducible refine w_test ?_ | with_reducible refine w_tB ?_ | with_reducible refine w_not ?_ | with_reducible refine w_and ?_ | with_reducible refine w_or ?_ | with_reducible refine w_bl ?_
  | with_reducible refine w_andV ?_ | with_reducible refine w_orV ?_ | with_reducible refine w_notV ?_ | with_reducible refine w_ifE ?_ | with_reducible refine w_chain ?_ | with_reducible refine w_i0 ?_
  | with_reducible refine w_call ?_ | with_reducible refine w_callS ?_ | with_reducible refine w_cB ?_ | with_reducible refine w_tup ?_ | with_reducible refine w_lst ?_ | with_reducible refine w_fldV ?_
  | with_reducible refine w_neF ?_ | with_reducible refine w_neT ?_ | with_reducible refine w_notN ?_ | with_reducible refine w_isN ?_ | with_reducible refine w_gname ?_ | with_reducible refine w_gsub ?_ | with_reducible refine w_asg ?_ | with_reducible refine w_sl ?_ | with_reducible refine w_noP ?_ | with_reducible refine w_int1 ?_ | with_reducible refine w_part ?_ | with_reducible refine w_yes ?_ | with_reducible refine w_nT ?_ | with_reducible refine w_nF ?_ | with_reducible refine w_iteT ?_ | with_reducible refine w_iteF ?_))
namespace L2
open PySem PySem.Spec PyProof.Rows
section
variable {X : Cx}
def rSetTT (K : PySem.W.Frag) (P : Program) (w : World) : List V → Hp → VK → Prop := fun xs H Q => ∃ (l : Addr) (ks : List (Addr × List Int)), xs = [V.ref l] ∧ SqT K H l (ks.map (fun p => V.ref p.1)) ∧ (∀ p, p ∈ ks → SqT K H p.1 (p.2.map V.int)) ∧ ks.length < 64 ∧
  ∀ a L, H a = none → (∀ p, p ∈ L → p ∈ ks) → (∀ p, p ∈ ks → p.2 ∈ L.map (·.2)) → Q (.ref a) (upd H a (SetTO P w a L))
theorem cr_setTT (hc : X.calm = true) (room : X.A.units + 64 < cLine) : CallR X (.type "set") (rSetTT X.K X.prog X.w) := by
  intro pins s σ H xs us Q I r ⟨l, ks, e, hl, hk, few, q⟩
  subst e
  rw [Vals.ref1 r]
  obtain ⟨its, rv, pl, _⟩ := I.tuple hl
  refine set_of_tuple ks (I.ok.hd hc) pl (by simpa using refs_of_vals rv) (fun p hp => I.isT (hk p hp)) few (by omega) ?_
  intro h' tk L es ep t S1 g k
  refine ⟨.ref s.heap.objs.size, _, I.laid (t' := tk) k (Nat.le_refl _) (setTO_new S1.t0), rfl, q _ L (I.hok.fresh (Nat.le_refl _)) ?_ ?_⟩
  · exact fun p hp => List.mem_of_mem_take (g.sub p hp)
  · intro p hp
    refine g.all p ?_
    rw [List.take_length]
    exact hp
end
end L2
namespace K3
/-! ### hidden cells -/
theorem cells_last (m n : Nat) : (cellsOf (m + 1) (n + 1)).dropLast = cellsOf m (n + 1) ++ rowCells n m := by
  unfold cellsOf
  rw [List.range_succ, List.flatMap_append, List.flatMap_cons, List.flatMap_nil, List.append_nil]
  unfold rowCells
  rw [List.range_succ, List.map_append, ← List.append_assoc]
  exact List.dropLast_concat
theorem cells_mem {m n : Nat} {c : Nat × Nat} : c ∈ cellsOf m n ↔ c.1 < m ∧ c.2 < n := by
  unfold cellsOf rowCells
  simp only [List.mem_flatMap, List.mem_range, List.mem_map]
  constructor
  · rintro ⟨a, ha, b, hb, rfl⟩
    exact ⟨ha, hb⟩
  · rintro ⟨h1, h2⟩
    exact ⟨c.1, h1, c.2, h2, rfl⟩
theorem drop_mem {m n : Nat} (m1 : 1 ≤ m) (n1 : 1 ≤ n) {c : Nat × Nat} (h : c ∈ (cellsOf m n).dropLast) : c.1 < m ∧ c.2 < n ∧ c ≠ (m - 1, n - 1) := by
  obtain ⟨m, rfl⟩ : ∃ k, m = k + 1 := ⟨m - 1, by omega⟩
  obtain ⟨n, rfl⟩ : ∃ k, n = k + 1 := ⟨n - 1, by omega⟩
  rw [cells_last] at h
  rcases List.mem_append.mp h with h | h
  · obtain ⟨h1, h2⟩ := cells_mem.mp h
    refine ⟨by omega, h2, fun z => ?_⟩
    rw [z] at h1
    simp at h1
  · unfold rowCells at h
    simp only [List.mem_map, List.mem_range] at h
    obtain ⟨b, hb, rfl⟩ := h
    refine ⟨by simp, by simp; omega, fun z => ?_⟩
    injection z with z1 z2
    simp at z2
    omega
/-- hidden cells, a list or a tuple of them -/
def HidIn (K : PySem.W.Frag) (H : Hp) (v : V) (hs : List (Nat × Nat)) (m n : Nat) : Prop :=
  ∃ p ws, v = .ref p ∧ (SqL K H p ws ∨ SqT K H p ws) ∧ Paired (CellAt H) ws hs ∧ (∀ h ∈ hs, h ∈ (cellsOf m n).dropLast) ∧ hs.length ≤ 60
def spReadH (K : PySem.W.Frag) : Sp := fun vs H Q _ => ∃ (g : Addr) (v : V) (rs : List Addr) (t : List (List Int)) (m n : Nat) (hs : List (Nat × Nat)), vs = [.ref g, v] ∧ Tab H g rs t ∧ Rect t m n ∧ 1 ≤ m ∧ 1 ≤ n ∧ m ≤ 60 ∧ n ≤ 60 ∧ HidIn K H v hs m n ∧
  ∀ p' H' ws' hs', Same H H' → H' p' = some (.lst ws') → Paired (CellAt H') ws' hs' → (∀ c, c ∈ hs' ↔ c ∈ hs) → hs'.length ≤ 100 → Q (.ref p') H'
theorem hid_keys {H : Hp} : ∀ {ws : List V} {hs : List (Nat × Nat)}, Paired (CellAt H) ws hs → ∃ ks : List (Addr × List Int), ws = ks.map (fun p => V.ref p.1) ∧ (∀ p ∈ ks, ∃ c ∈ hs, p.2 = [(c.1 : Int), (c.2 : Int)] ∧ H p.1 = some (.tup (p.2.map V.int))) ∧ (∀ c ∈ hs, ∃ p ∈ ks, p.2 = [(c.1 : Int), (c.2 : Int)]) ∧ ks.length = hs.length
  | _, _, .nil => ⟨[], rfl, fun p hp => (by cases hp), fun p hp => (by cases hp), rfl⟩
  | _, _, .cons (b := c) h t => by
    obtain ⟨ks, h1, h2, h3, h4⟩ := hid_keys t
    obtain ⟨a, rfl, ha⟩ := h
    refine ⟨(a, [(c.1 : Int), (c.2 : Int)]) :: ks, by rw [h1]; rfl, fun p hp => ?_, fun d hd => ?_, by simp [h4]⟩
    · rcases List.mem_cons.mp hp with rfl | hp
      · exact ⟨c, List.mem_cons_self .., rfl, ha⟩
      · obtain ⟨d, hd, k⟩ := h2 p hp
        exact ⟨d, List.mem_cons_of_mem _ hd, k⟩
    · rcases List.mem_cons.mp hd with rfl | hd
      · exact ⟨_, List.mem_cons_self .., rfl⟩
      · obtain ⟨p, hp, k⟩ := h3 d hd
        exact ⟨p, List.mem_cons_of_mem _ hp, k⟩
theorem keys_hid {H : Hp} {hs : List (Nat × Nat)} : ∀ {L : List (Addr × List Int)}, (∀ p ∈ L, ∃ c ∈ hs, p.2 = [(c.1 : Int), (c.2 : Int)] ∧ H p.1 = some (.tup (p.2.map V.int))) → ∃ hs', Paired (CellAt H) (L.map fun q => V.ref q.1) hs' ∧ (∀ c, c ∈ hs' ↔ c ∈ hs ∧ [(c.1 : Int), (c.2 : Int)] ∈ L.map (·.2)) ∧ hs'.length = L.length
  | [], _ => ⟨[], .nil, fun c => by simp, rfl⟩
  | p :: L, h => by
    obtain ⟨hs', h1, h2, h3⟩ := keys_hid (L := L) fun q hq => h q (List.mem_cons_of_mem _ hq)
    obtain ⟨c, hc, e, ha⟩ := h p (List.mem_cons_self ..)
    rw [e] at ha
    refine ⟨c :: hs', .cons ⟨_, rfl, ha⟩ h1, fun d => ?_, by simp [h3]⟩
    rw [List.mem_cons, h2, List.map_cons, List.mem_cons, e]
    constructor
    · rintro (rfl | ⟨a, b⟩)
      · exact ⟨hc, .inl rfl⟩
      · exact ⟨a, .inr b⟩
    · rintro ⟨a, b | b⟩
      · refine .inl ?_
        obtain ⟨d1, d2⟩ := d
        obtain ⟨c1, c2⟩ := c
        simp at b
        obtain ⟨b1, b2⟩ := b
        obtain rfl : d1 = c1 := by omega
        obtain rfl : d2 = c2 := by omega
        rfl
      · exact .inr ⟨a, b⟩
theorem cell_eqv (a b : Nat × Nat) : PyData.eqv (cellD a) (cellD b) = decide (a = b) := by
  unfold cellD
  obtain ⟨a1, a2⟩ := a
  obtain ⟨b1, b2⟩ := b
  rw [Bool.eq_iff_iff]
  simp [PyData.eqv, PyData.eqvAll]
  omega
theorem cell_shaped (c : Nat × Nat) : SeqAt.shaped (cellD c) = true := by
  unfold SeqAt.shaped cellD
  simp [PyData.canLay0, PyData.canLayAll0, PyData.depth, PyData.depthAll]
def tbRead (K : PySem.W.Frag) : TS := tSeq (tDrop (tCall (spRefuse K) [] E0 (tCons (tVar 0) (tCons (tVar 2) tNil)))) (tIfS (tTest (tOp (rEqD K) (tVar 2) (tCall (spLast K) [] E0 (tCons (tVar 0) tNil)))) (fun _ _ _ => False) tNext)
section
variable {P : Program} {w : World} {K : PySem.W.Frag} {mg : Str → Option Value} {base : Heap}
theorem sc_read_hidden : FnScope ["grid", "hidden", "cell"] ["grid", "hidden"] (defScope s_read_hidden) := ⟨rfl, rfl, rfl, by decide +kernel, rfl, by decide +kernel, by decide +kernel⟩
theorem ok_read_hidden (T : Tx K mg) : Ok P w K mg base 2 (He.ga K "read_hidden") ["grid", "hidden"] (spReadH K) := by
  obtain ⟨fd, F⟩ := T.f_read_hidden
  have Orefuse_no_cell := ok_refuse_no_cell (P := P) (w := w) (base := base) T
  have Olast_cell := ok_last_cell (P := P) (w := w) (base := base) T
  refine ⟨fd, F.ok (k := 1) sc_read_hidden (fun vs H Q E h => ?_) (fun cdv A outer s' H vs Q E hr h => ?_), F.bindsN fun _ _ _ _ _ _ us hl => match us, hl with | [_, _], _ => rfl, F.kp⟩
  · obtain ⟨g, v, rs, t, m, n, hs, rfl, _⟩ := h
    rfl
  obtain ⟨g, v, rs, t, m, n, hs, rfl, ht, hR, m1, n1, m2, n2, ⟨p, ws, rfl, hp, hw, hmem, hlen⟩, q⟩ := h
  have rrefuse_no_cell : Room 1 _ := hr
  have rlast_cell : Room 1 _ := hr
  have hu65 := K3.Room.units65 hr
  have hu64 := Nat.lt_of_succ_lt hu65
  refine ⟨_, pss_cons (ps_for (passes_of rfl) rfl (pi_or (pi_list (pv 1)) (pi_tup (pv 1))) (pg_name (i := 2) sc_read_hidden.nd rfl (Or.inl rfl)) (pss_cons (ps_expr (pe_f Orefuse_no_cell rrefuse_no_cell T.g_refuse_no_cell (pa_cons (pv 0) (pa_cons (pv 2) pa_nil))))
      (pss_one (ps_if (pt_cmpR (op_eqD hu64) (pv 2) (pe_f Olast_cell rlast_cell T.g_last_cell (pa_cons (pv 0) pa_nil)) (nomark _)) (pss_one ps_dead) pss_nil))))
      (pss_one (ps_ret (pe_callB (cr_sortedT (by rfl)) (by rfl) T.z_sorted (by decide +kernel) (pa_cons (pe_callTy (cr_or (cr_setOfT (by rfl) hu64) (cr_setTT (by rfl) hu64)) (by rfl) T.z_set (by decide +kernel) (pa_cons (pv 1) pa_nil)) pa_nil)))), ?_⟩
  walk_at "go"
  have hstep : ∀ (D : L2.Ends) (i : Nat) (x : V) (σ : L2.St) (H1 H2 : Hp), i < ws.length → (∃ o2 : Option V, σ = [some (.ref g), some (.ref p), o2] ∧ Same H H1) → YAt ws i H1 x H2 → gName 2 x σ H2 fun σ2 H3 => tbRead K { D with nx := fun σ H1 => ∃ o2 : Option V, σ = [some (.ref g), some (.ref p), o2] ∧ Same H H1, ct := fun σ H1 => ∃ o2 : Option V, σ = [some (.ref g), some (.ref p), o2] ∧ Same H H1, bk := D.nx } σ2 H3 := by
    rintro D i x σ H1 H2 hi ⟨o2, rfl, e1⟩ ⟨rfl, hx⟩
    obtain ⟨c, hc, hxc⟩ := K3.Paired.get hw hx
    obtain ⟨c1, c2, c3⟩ := drop_mem m1 n1 (hmem c (List.mem_of_getElem? hc))
    walk_at "go"
    unfold tbRead
    walk_at "go"
    refine ⟨g, x, rs, t, m, n, c.1, c.2, rfl, ht.same e1, hR, hxc.same e1, c1, c2, ?_⟩
    walk_at "go"
    refine ⟨g, rs, t, m, n, rfl, ht.same e1, hR, m1, n1, fun a H3 e3 ha => ?_⟩
    refine ⟨cellD c, cellD (m - 1, n - 1), cell_dp ((hxc.same e1).same e3), cell_dp ha, cell_shaped _, cell_shaped _, ?_⟩
    rw [cell_eqv, decide_eq_false c3]
    walk_at "go"
    exact ⟨_, rfl, e1.trans e3⟩
  have fin : ∀ (o2 : Option V) (H1 : Hp) (D : L2.Ends), D.rt = Q → Same H H1 → tRet (tCB (rSortedT K P w) (tCons (tCB (fun xs H Q => rSetOfT K P w xs H Q ∨ rSetTT K P w xs H Q) (tCons (tVar 1) tNil)) tNil)) D [some (.ref g), some (.ref p), o2] H1 := by
    intro o2 H1 D eD e1
    have hw1 := L2.Paired.mapP hw fun _ _ z => z.same e1
    obtain ⟨ks, k1, k2, k3, k4⟩ := hid_keys hw1
    have hk : ∀ p ∈ ks, SqT K H1 p.1 (p.2.map V.int) := fun p hp => by
      obtain ⟨c, _, _, ha⟩ := k2 p hp
      exact SqT.of ha
    have rest : ∀ a L, H1 a = none → (∀ p ∈ L, p ∈ ks) → (∀ p ∈ ks, p.2 ∈ L.map (·.2)) → rSortedT K P w [.ref a] (upd H1 a (SetTO P w a L)) D.rt := by
      intro a L ha hs1 hs2
      have e2 := Same.new ha (SetTO P w a L)
      have kb : ∀ p ∈ L, ∃ c ∈ hs, p.2 = [(c.1 : Int), (c.2 : Int)] ∧ H1 p.1 = some (.tup (p.2.map V.int)) := fun p hp => k2 p (hs1 p hp)
      refine ⟨a, L, 2, 64, rfl, upd_same, fun p hp => e2.sqt (hk p (hs1 p hp)), by decide, fun p hp => ?_, fun L' p' pm nd few pw hp' => ?_⟩
      · obtain ⟨c, hc, e, _⟩ := kb p hp
        obtain ⟨c1, c2, _⟩ := drop_mem m1 n1 (hmem c hc)
        rw [e]
        refine ⟨rfl, fun z hz => ?_⟩
        simp only [List.mem_cons, List.not_mem_nil, or_false] at hz
        rcases hz with rfl | rfl <;> omega
      · have e3 := Same.new hp' (.lst (L'.map fun q => V.ref q.1))
        have e23 := e2.trans e3
        obtain ⟨hs', h1, h2, h3⟩ := keys_hid (H := upd (upd H1 a (SetTO P w a L)) p' (.lst (L'.map fun q => V.ref q.1))) (hs := hs) (L := L') fun q hq => by
          obtain ⟨c, hc, e, hx⟩ := kb q (pm.mem_iff.mp hq)
          exact ⟨c, hc, e, e23 _ _ hx⟩
        rw [eD]
        refine q p' _ _ hs' (e1.trans e23) upd_same h1 (fun c => ?_) (by omega)
        rw [h2]
        refine ⟨fun z => z.1, fun z => ⟨z, ?_⟩⟩
        obtain ⟨x, hx, e⟩ := k3 c z
        rw [← e, (pm.map (·.2)).mem_iff]
        exact hs2 x hx
    walk_at "go"
    rcases hp with hp | hp
    · refine .inl ⟨_, ks, rfl, by rw [← k1]; exact e1.seq hp, hk, by omega, fun a L ha h1 h2 => ?_⟩
      walk_at "go"
      exact rest a L ha h1 h2
    · refine .inr ⟨_, ks, rfl, by rw [← k1]; exact e1.sqt hp, hk, by omega, fun a L ha h1 h2 => ?_⟩
      walk_at "go"
      exact rest a L ha h1 h2
  rcases hp with hp' | hp'
  · refine Or.inl ⟨_, rfl, p, rfl, ⟨ws, hp'⟩, ?_⟩
    refine for_it walk_list (fun _ σ H1 => ∃ o2 : Option V, σ = [some (.ref g), some (.ref p), o2] ∧ Same H H1) ⟨none, rfl, Same.refl _⟩ (fun i σ H1 _ ⟨_, _, e⟩ => e.seq hp') (hstep _) ?_
    rintro σ H1 ⟨o2, rfl, e1⟩
    exact fin o2 H1 _ rfl e1
  · refine Or.inr ⟨_, rfl, p, rfl, ⟨ws, hp'⟩, ?_⟩
    refine for_it walk_tup (fun _ σ H1 => ∃ o2 : Option V, σ = [some (.ref g), some (.ref p), o2] ∧ Same H H1) ⟨none, rfl, Same.refl _⟩ (fun i σ H1 _ ⟨_, _, e⟩ => e.sqt hp') (hstep _) ?_
    rintro σ H1 ⟨o2, rfl, e1⟩
    exact fin o2 H1 _ rfl e1
end
end K3
end L10_part
section L11_part
set_option Elab.async false
set_option linter.all false
set_option maxRecDepth 100000
set_option maxHeartbeats 1000000
set_option pp.deepTerms.threshold 5
open PySem PySem.Spec PyProof.Rows L2
/-- go on as far as nothing is open -/
local macro_rules | `(tactic| walk_at "go") => `(tactic| repeat (first
  | with_reducible refine w_seq ?_ | with_reducible refine w_next ?_ | with_reducible refine w_set ?_ | with_reducible refine w_drop ?_ | with_reducible refine w_ret ?_ | with_reducible refine w_retN ?_
  | with_reducible refine w_if ?_ | ((with_reducible refine' w_var ?hv ?_); (case hv => exact rfl)) | with_reducible refine w_c ?_ | with_reducible refine w_nil ?_ | with_reducible refine w_cons ?_ | with_reducible refine w_op ?_ | with_reducible refine w_un ?_
  | with_reducible refine w_test ?_ | with_reducible refine w_tB ?_ | with_reducible refine w_not ?_ | with_reducible refine w_and ?_ | with_reducible refine w_or ?_ | with_reducible refine w_bl ?_
  | with_reducible refine w_andV ?_ | with_reducible refine w_orV ?_ | with_reducible refine w_notV ?_ | with_reducible refine w_ifE ?_ | with_reducible refine w_chain ?_ | with_reducible refine w_i0 ?_
  | with_reducible refine w_call ?_ | with_reducible refine w_callS ?_ | with_reducible refine w_cB ?_ | with_reducible refine w_tup ?_ | with_reducible refine w_lst ?_ | with_reducible refine w_fldV ?_
  | with_reducible refine w_neF ?_ | with_reducible refine w_neT ?_ | with_reducible refine w_notN ?_ | with_reducible refine w_isN ?_ | with_reducible refine w_gname ?_ | with_reducible refine w_gsub ?_ | with_reducible refine w_asg ?_ | with_reducible refine w_sl ?_ | with_reducible refine w_noP ?_ | with_reducible refine w_int1 ?_ | with_reducible refine w_part ?_ | with_reducible refine w_yes ?_ | with_reducible refine w_nT ?_ | with_reducible refine w_nF ?_ | with_reducible refine w_iteT ?_ | with_reducible refine w_iteF ?_))
namespace L2
open PySem PySem.Spec PyProof.Rows
def LcAt (J : It) (D : Addr) (g : TG) (tt : TT) (te : TE) (vs : List Nat) (σ : L2.St) (H1 : Hp) (Qd : Hp → Prop) : Prop :=
  ∃ W : Nat → Nat → Hp → Prop, (∃ m, W 0 m (upd H1 D (.lst []))) ∧ ∀ i m H, W i m H →
    (J.stop i H ∧ Qd H) ∨ (J.go i H ∧ ∃ Nx : Hp → Prop, (∀ H', Nx H' → ∃ m', m' < m ∧ W (i + 1) m' H') ∧ ∀ x H', J.yld i H x H' → g x (wipe σ vs) H' fun σ2 H2 =>
      wipe σ2 vs = wipe σ vs ∧ tt σ2 H2 fun b H3 => if b = true then te σ2 H3 fun y H4 => ∃ acc, H4 D = some (.lst acc) ∧ acc.length < sizeLine ∧ Nx (upd H4 D (.lst (acc ++ [y]))) else Nx H3)
/-- a comprehension over items of which something is known: each gives a value of its own -/
theorem items_at {K : PySem.W.Frag} {α : Type} {F : Hp → V → α → Prop} (mono : ∀ {H H' : Hp} {v : V} {y : α}, Same H H' → F H v y → F H' v y) {a D : Addr} {xs : List V} {ys : List α} {te : TE} {vs : List Nat} {σ : L2.St} {j : Nat} {H1 : Hp} {Qd : Hp → Prop} (f : α → V)
    (hs : SqL K H1 a xs) (hp : Paired (F H1) xs ys) (hD : H1 D = none) (hlen : xs.length ≤ 10000) (hw : ∀ x, wipe ((wipe σ vs).set j (some x)) vs = wipe σ vs)
    (he : ∀ (v : V) (y : α) (H' : Hp), Same H1 H' → y ∈ ys → F H' v y → ∀ Q : VK, (∀ H'', Same H' H'' → Q (f y) H'') → te ((wipe σ vs).set j (some v)) H' Q)
    (hd : ∀ H', Same H1 H' → H' D = some (.lst (ys.map f)) → Qd H') : LcAt (Itl K a) D (gName j) tYes te vs σ H1 Qd := by
  refine lc_list (xs := xs) (fun i H' => Same H1 H' ∧ H' D = some (.lst ((ys.take i).map f))) ⟨Same.new hD _, upd_same⟩ (fun i H' _ z => z.1.seq hs) ?_ ?_
  · rintro i x H2 hx ⟨e2, hD2⟩
    obtain ⟨y, hy, hF⟩ := K3.Paired.get hp hx
    refine ⟨hw x, ?_⟩
    refine w_yes ?_
    refine iteT ?_
    refine he x y H2 e2 (List.mem_of_getElem? hy) (mono e2 hF) _ fun H3 e3 => ?_
    refine ⟨_, e3 _ _ hD2, ?_, (e2.trans e3).mut hD, ?_⟩
    · refine Nat.lt_of_le_of_lt (show _ ≤ 10000 from ?_) (by decide)
      rw [List.length_map, List.length_take, ← hp.length]
      omega
    · rw [upd_same, List.take_add_one, hy, List.map_append]
      rfl
  · rintro H2 ⟨e2, hD2⟩
    refine hd H2 e2 ?_
    rw [hD2, hp.length, List.take_length]
/-- .. those that pass a test are kept -/
theorem items_keep {K : PySem.W.Frag} {α : Type} {F : Hp → V → α → Prop} (mono : ∀ {H H' : Hp} {v : V} {y : α}, Same H H' → F H v y → F H' v y) {a D : Addr} {xs : List V} {ys : List α} {tt : TT} {te : TE} {vs : List Nat} {σ : L2.St} {j : Nat} {H1 : Hp} {Qd : Hp → Prop} (b : α → Bool)
    (hs : SqL K H1 a xs) (hp : Paired (F H1) xs ys) (hD : H1 D = none) (hlen : xs.length ≤ 10000) (hw : ∀ x, wipe ((wipe σ vs).set j (some x)) vs = wipe σ vs)
    (ht : ∀ (v : V) (y : α) (H' : Hp), Same H1 H' → y ∈ ys → F H' v y → ∀ Q : Bool → Hp → Prop, (∀ H'', Same H' H'' → Q (b y) H'') → tt ((wipe σ vs).set j (some v)) H' Q)
    (he : ∀ (v : V) (H' : Hp) (Q : VK), Q v H' → te ((wipe σ vs).set j (some v)) H' Q)
    (hd : ∀ H' zs, Same H1 H' → H' D = some (.lst zs) → Paired (F H') zs (ys.filter b) → Qd H') : LcAt (Itl K a) D (gName j) tt te vs σ H1 Qd := by
  refine lc_list (xs := xs) (fun i H' => Same H1 H' ∧ ∃ zs, H' D = some (.lst zs) ∧ Paired (F H1) zs ((ys.take i).filter b)) ⟨Same.new hD _, [], upd_same, .nil⟩ (fun i H' _ z => z.1.seq hs) ?_ ?_
  · rintro i x H2 hx ⟨e2, zs, hD2, hp2⟩
    obtain ⟨y, hy, hF⟩ := K3.Paired.get hp hx
    refine ⟨hw x, ?_⟩
    refine ht x y H2 e2 (List.mem_of_getElem? hy) (mono e2 hF) _ fun H3 e3 => ?_
    have hD3 := e3 _ _ hD2
    have hl : (ys.take (i + 1)).filter b = (ys.take i).filter b ++ (if b y = true then [y] else []) := by
      rw [List.take_add_one, hy, List.filter_append]
      congr 1
      cases hb : b y <;> simp [hb]
    cases hb : b y with
    | true =>
      rw [hb] at hl
      refine iteT ?_
      refine he x H3 _ ?_
      refine ⟨zs, hD3, ?_, (e2.trans e3).mut hD, zs ++ [x], upd_same, ?_⟩
      · refine Nat.lt_of_le_of_lt (show _ ≤ 10000 from ?_) (by decide)
        rw [hp2.length]
        refine Nat.le_trans (List.length_filter_le _ _) ?_
        rw [List.length_take, ← hp.length]
        omega
      · rw [hl, if_pos rfl]
        exact K3.Paired.app hp2 (.cons hF .nil)
    | false =>
      rw [hb] at hl
      refine iteF ?_
      refine ⟨e2.trans e3, zs, hD3, ?_⟩
      rw [hl, if_neg (by decide), List.append_nil]
      exact hp2
  · rintro H2 ⟨e2, zs, hD2, hp2⟩
    rw [hp.length, List.take_length] at hp2
    exact hd H2 zs e2 hD2 (L2.Paired.mapP hp2 fun _ _ z => mono e2 z)
theorem lcAt_open {wi : TI} {g : TG} {tt : TT} {te : TE} {vs : List Nat} {σ : L2.St} {H : Hp} {Q : VK} (h : wi σ H fun J H1 => ∀ D, H1 D = none → LcAt J D g tt te vs σ H1 (Q (.ref D))) : tLc wi g tt te vs σ H Q := h
end L2
namespace K3
def RowV (H : Hp) (v : V) (r : List Int) : Prop := ∃ a, v = .ref a ∧ H a = some (.lst (r.map V.int))
theorem RowV.same {H H' : Hp} (e : Same H H') {v : V} {r : List Int} (h : RowV H v r) : RowV H' v r := let ⟨a, h1, h2⟩ := h; ⟨a, h1, e _ _ h2⟩
theorem rowV_of {H : Hp} : ∀ {rs : List Addr} {t : List (List Int)}, Paired (RowAt H) rs t → Paired (RowV H) (rs.map V.ref) t
  | _, _, .nil => .nil
  | _, _, .cons h t => .cons ⟨_, rfl, h⟩ (rowV_of t)
theorem CellAt.muts {H : Hp} {v : V} {c : Nat × Nat} {p : Addr} {zs ws : List V} (hp : H p = some (.lst zs)) (h : CellAt H v c) : CellAt (upd H p (.lst ws)) v c := by
  obtain ⟨a, h1, h2⟩ := h
  exact ⟨a, h1, by rw [upd_ne (fun z => by rw [z, hp] at h2; cases h2)]; exact h2⟩
theorem rows_at {K : PySem.W.Frag} {a D : Addr} {rs : List Addr} {t : List (List Int)} {te : TE} {vs : List Nat} {σ : L2.St} {j : Nat} {H1 : Hp} {Qd : Hp → Prop} (f : List Int → V) (ht : Tab H1 a rs t) (hlen : t.length ≤ 10000) (hD : H1 D = none) (hw : ∀ x, wipe ((wipe σ vs).set j (some x)) vs = wipe σ vs)
    (he : ∀ (b : Addr) (r : List Int) (H' : Hp), Same H1 H' → r ∈ t → RowAt H' b r → ∀ Q : VK, (∀ H'', Same H' H'' → Q (f r) H'') → te ((wipe σ vs).set j (some (.ref b))) H' Q)
    (hd : ∀ H', Same H1 H' → H' D = some (.lst (t.map f)) → Qd H') : LcAt (Itl K a) D (gName j) tYes te vs σ H1 Qd := by
  refine items_at (F := RowV) (fun e h => RowV.same e h) f (SqL.of ht.at_) (rowV_of ht.rows) hD (by rw [List.length_map, ht.rows.length]; exact hlen) hw ?_ hd
  rintro v r H' e1 hr ⟨b, rfl, hb⟩ Q q
  exact he b r H' e1 hr hb Q q
theorem rows_keep {K : PySem.W.Frag} {a D : Addr} {rs : List Addr} {t : List (List Int)} {tt : TT} {te : TE} {vs : List Nat} {σ : L2.St} {j : Nat} {H1 : Hp} {Qd : Hp → Prop} (b : List Int → Bool) (ht : Tab H1 a rs t) (hlen : t.length ≤ 10000) (hD : H1 D = none) (hw : ∀ x, wipe ((wipe σ vs).set j (some x)) vs = wipe σ vs)
    (htt : ∀ (c : Addr) (r : List Int) (H' : Hp), Same H1 H' → r ∈ t → RowAt H' c r → ∀ Q : Bool → Hp → Prop, (∀ H'', Same H' H'' → Q (b r) H'') → tt ((wipe σ vs).set j (some (.ref c))) H' Q)
    (he : ∀ (v : V) (H' : Hp) (Q : VK), Q v H' → te ((wipe σ vs).set j (some v)) H' Q)
    (hd : ∀ H' zs, Same H1 H' → H' D = some (.lst zs) → Paired (RowV H') zs (t.filter b) → Qd H') : LcAt (Itl K a) D (gName j) tt te vs σ H1 Qd := by
  refine items_keep (F := RowV) (fun e h => RowV.same e h) b (SqL.of ht.at_) (rowV_of ht.rows) hD (by rw [List.length_map, ht.rows.length]; exact hlen) hw ?_ he hd
  rintro v r H' e1 hr ⟨c, rfl, hc⟩ Q q
  exact htt c r H' e1 hr hc Q q
theorem ints_dp {K : PySem.W.Frag} {H : Hp} : ∀ {xs : List Int}, DpAll K H (xs.map V.int) (xs.map PyData.int)
  | [] => .nil
  | x :: xs => .cons (.int x) ints_dp
theorem lst_dp {K : PySem.W.Frag} {H : Hp} {p : Addr} {xs : List Int} (h : H p = some (.lst (xs.map V.int))) : Dp K H (.ref p) (.list (xs.map PyData.int)) := .lst (SqL.of h) ints_dp
theorem eqvAll_ints : ∀ (a b : List Int), PyData.eqvAll (a.map PyData.int) (b.map PyData.int) = decide (a = b)
  | [], [] => rfl
  | [], b :: bs => rfl
  | a :: as, [] => rfl
  | a :: as, b :: bs => by
    simp only [List.map_cons, PyData.eqvAll, PyData.eqv, eqvAll_ints as bs]
    rw [Bool.eq_iff_iff]
    simp
theorem lay_ints : ∀ xs : List Int, PyData.canLayAll0 (xs.map PyData.int) = true ∧ PyData.depthAll (xs.map PyData.int) ≤ 1
  | [] => by simp [PyData.canLayAll0, PyData.depthAll]
  | x :: xs => by
    obtain ⟨a, b⟩ := lay_ints xs
    simp only [List.map_cons, PyData.canLayAll0, PyData.depthAll, PyData.canLay0, PyData.depth]
    exact ⟨by rw [a]; rfl, by omega⟩
theorem shaped_ints (xs : List Int) : SeqAt.shaped (.list (xs.map PyData.int)) = true := by
  obtain ⟨a, b⟩ := lay_ints xs
  have d : (PyData.list (xs.map PyData.int)).depth ≤ 64 := by
    simp only [PyData.depth]
    omega
  unfold SeqAt.shaped
  rw [decide_eq_true d]
  simp only [PyData.canLay0, a, Bool.true_and]
def spWide (K : PySem.W.Frag) : Sp := fun vs H Q _ => ∃ (g p : Addr) (rs rs' : List Addr) (t u : List (List Int)), vs = [.ref g, .ref p] ∧ Tab H g rs t ∧ Tab H p rs' u ∧ t.length ≤ 100 ∧ u.length ≤ 100 ∧ ∀ H', Same H H' → Q (.bl (decide (u.map List.length = t.map List.length))) H'
theorem lens_inj {a b : List (List Int)} : ((a.map fun r => (r.length : Int)) = b.map fun r => (r.length : Int)) ↔ a.map List.length = b.map List.length := by
  induction a generalizing b with
  | nil => cases b <;> simp
  | cons x a ih =>
    cases b with
    | nil => simp
    | cons y b =>
      simp only [List.map_cons, List.cons.injEq]
      rw [ih]
      constructor
      · rintro ⟨h1, h2⟩; exact ⟨by omega, h2⟩
      · rintro ⟨h1, h2⟩; exact ⟨by omega, h2⟩
def RightCol (u : List (List Int)) (c : Nat) : Prop := (colOf u c).getLastD 0 = (colOf u c).dropLast.sum
def Right (u : List (List Int)) (n : Nat) : Prop := (∀ r ∈ u, r.getLastD 0 = r.dropLast.sum) ∧ ∀ c < n, RightCol u c
def spRight (K : PySem.W.Frag) : Sp := fun vs H Q _ => ∃ (p : Addr) (rs : List Addr) (u : List (List Int)) (m n : Nat), vs = [.ref p] ∧ Tab H p rs u ∧ Rect u m n ∧ 1 ≤ m ∧ 1 ≤ n ∧ m ≤ 100 ∧ n ≤ 100 ∧ ∀ b H', Same H H' → (b = true ↔ Right u n) → Q (.bl b) H'
theorem at_last {r : List Int} (h : r ≠ []) : atI (r.map V.int) (-1) = some (.int (r.getLastD 0)) := by
  obtain ⟨xs, x, rfl⟩ : ∃ xs x, r = xs ++ [x] := ⟨r.dropLast, r.getLast h, (List.dropLast_concat_getLast h).symm⟩
  rw [List.map_append, List.getLastD_concat]
  exact atI_last _ _
section
variable {P : Program} {w : World} {K : PySem.W.Frag} {mg : Str → Option Value} {base : Heap}
theorem sc_is_as_wide : FnScope ["grid", "table", "row"] ["grid", "table"] (defScope s_is_as_wide) := ⟨rfl, rfl, rfl, by decide +kernel, rfl, by decide +kernel, by decide +kernel⟩
theorem ok_is_as_wide (T : Tx K mg) : Ok P w K mg base 1 (He.ga K "is_as_wide") ["grid", "table"] (spWide K) := by
  obtain ⟨fd, F⟩ := T.f_is_as_wide
  refine ⟨fd, F.ok (k := 0) sc_is_as_wide (fun vs H Q E h => ?_) (fun cdv A outer s_ H vs Q E hr h => ?_), F.bindsN fun _ _ _ _ _ _ us hl => match us, hl with | [_, _], _ => rfl, F.kp⟩
  · obtain ⟨g, p, rs, rs', t, u, rfl, ht, hu, ht1, hu1, q⟩ := h
    rfl
  obtain ⟨g, p, rs, rs', t, u, rfl, ht, hu, ht1, hu1, q⟩ := h
  have hu65 := K3.Room.units65 hr
  have hu64 := Nat.lt_of_succ_lt hu65
  have hu0 := Nat.lt_of_le_of_lt (Nat.le_add_right _ 65) hu65
  refine ⟨_, pss_one (ps_ret (pe_cmpR (op_eqD hu64) (by exact pe_lc (own := [("row", 2)]) (g := gName 2) (tt := tYes) (te := (tCB (fun xs H Q => ∃ p ys, xs = [V.ref p] ∧ (SqL K H p ys ∨ SqT K H p ys) ∧ Q (.int ys.length) H) (tCons (tVar 2) tNil))) (by rfl) sc_is_as_wide.nd (pi_list (pv 1)) (blkOk_by (own := [("row", 2)]) (N := ["grid", "table", "row"]) (sc := defScope s_is_as_wide) (by decide +kernel)) (fun _ _ _ _ _ => (pg_name (i := 2) sc_is_as_wide.nd rfl (Or.inl rfl))) (fun _ _ _ _ _ => pts_nil) (fun _ _ _ _ _ => (pe_callB call_len_seq (by rfl) T.z_len PySem.boot_len (pa_cons (pv 2) pa_nil)))) (by exact pe_lc (own := [("row", 2)]) (g := gName 2) (tt := tYes) (te := (tCB (fun xs H Q => ∃ p ys, xs = [V.ref p] ∧ (SqL K H p ys ∨ SqT K H p ys) ∧ Q (.int ys.length) H) (tCons (tVar 2) tNil))) (by rfl) sc_is_as_wide.nd (pi_list (pv 0)) (blkOk_by (own := [("row", 2)]) (N := ["grid", "table", "row"]) (sc := defScope s_is_as_wide) (by decide +kernel)) (fun _ _ _ _ _ => (pg_name (i := 2) sc_is_as_wide.nd rfl (Or.inl rfl))) (fun _ _ _ _ _ => pts_nil) (fun _ _ _ _ _ => (pe_callB call_len_seq (by rfl) T.z_len PySem.boot_len (pa_cons (pv 2) pa_nil)))) rfl)), ?_⟩
  have lt := ht.rows.length
  have lu := hu.rows.length
  walk_at "go"
  refine lcAt_open ?_
  refine list_open ?_
  walk_at "go"
  refine ⟨p, rfl, ⟨_, SqL.of hu.at_⟩, fun D hD => ?_⟩
  refine rows_at (fun r => .int r.length) hu (by omega) hD (fun x => rfl) ?_ ?_
  · rintro a r H1 e1 hr ha Q q
    walk_at "go"
    refine ⟨a, _, rfl, .inl (SqL.of ha), ?_⟩
    rw [List.length_map]
    exact q H1 (Same.refl _)
  · intro H1 e1 hD1
    walk_at "go"
    refine lcAt_open ?_
    refine list_open ?_
    walk_at "go"
    refine ⟨g, rfl, ⟨_, SqL.of (e1 _ _ ht.at_)⟩, fun D2 hD2 => ?_⟩
    refine rows_at (fun r => .int r.length) (ht.same e1) (by omega) hD2 (fun x => rfl) ?_ ?_
    · rintro a r H2 e2 hr ha Q q
      walk_at "go"
      refine ⟨a, _, rfl, .inl (SqL.of ha), ?_⟩
      rw [List.length_map]
      exact q H2 (Same.refl _)
    · intro H2 e2 hD22
      have k1 : H2 D = some (.lst ((u.map fun r => (r.length : Int)).map V.int)) := by rw [e2 _ _ hD1, List.map_map]; rfl
      have k2 : H2 D2 = some (.lst ((t.map fun r => (r.length : Int)).map V.int)) := by rw [hD22, List.map_map]; rfl
      refine ⟨_, _, lst_dp k1, lst_dp k2, shaped_ints _, shaped_ints _, ?_⟩
      rw [show PyData.eqv (.list _) (.list _) = PyData.eqvAll _ _ from rfl, eqvAll_ints]
      rw [decide_eq_decide.mpr lens_inj]
      exact q H2 (e1.trans e2)
theorem sc_has_right_sums : FnScope ["table", "columns", "at", "row", "line"] ["table"] (defScope s_has_right_sums) := ⟨rfl, rfl, rfl, by decide +kernel, rfl, by decide +kernel, by decide +kernel⟩
theorem ok_has_right_sums (T : Tx K mg) : Ok P w K mg base 1 (He.ga K "has_right_sums") ["table"] (spRight K) := by
  obtain ⟨fd, F⟩ := T.f_has_right_sums
  refine ⟨fd, F.ok (k := 0) sc_has_right_sums (fun vs H Q E h => ?_) (fun cdv A outer s_ H vs Q E hr h => ?_), F.bindsN fun _ _ _ _ _ _ us hl => match us, hl with | [_], _ => rfl, F.kp⟩
  · obtain ⟨p, rs, u, m, n, rfl, hu, ⟨um, un⟩, m1, n1, m2, n2, q⟩ := h
    rfl
  obtain ⟨p, rs, u, m, n, rfl, hu, ⟨um, un⟩, m1, n1, m2, n2, q⟩ := h
  have hu65 := K3.Room.units65 hr
  have hu64 := Nat.lt_of_succ_lt hu65
  have hu0 := Nat.lt_of_le_of_lt (Nat.le_add_right _ 65) hu65
  refine ⟨_, pss_cons (by exact ps_setLc (i := 1) (own := [("at", 2)]) (g := gName 2) (tt := tYes) (te := (tLc (iList K (tVar 0)) (gName 3) tYes (tOp (rIxL K) (tVar 3) (tVar 2)) [3])) (by rfl) sc_has_right_sums.nd rfl rfl (by rfl) (pi_range1 rfl T.z_range (pa_cons (pe_callB call_len_seq (by rfl) T.z_len PySem.boot_len (pa_cons (pe_ix ix_list (pv 0) pe_int (fun _ _ => rfl)) pa_nil)) pa_nil)) (blkOk_by (own := [("at", 2)]) (N := ["table", "columns", "at", "row", "line"]) (sc := defScope s_has_right_sums) (by decide +kernel)) (fun _ _ _ _ _ => (pg_name (i := 2) sc_has_right_sums.nd rfl (Or.inr rfl))) (fun _ _ _ _ _ => pts_nil) (fun _ _ _ _ _ => (by exact pe_lc (own := [("row", 3)]) (g := gName 3) (tt := tYes) (te := (tOp (rIxL K) (tVar 3) (tVar 2))) (by rfl) sc_has_right_sums.nd (pi_list (pv 0)) (blkOk_by (own := [("row", 3)]) (N := ["table", "columns", "at", "row", "line"]) (sc := { kind := .function, names := [(".0", .local), ("at", .cell), ("table", .cell)], isGenerator := false, isCoroutine := false }) (by decide +kernel)) (fun _ _ _ _ _ => (pg_name (i := 3) sc_has_right_sums.nd rfl (Or.inl rfl))) (fun _ _ _ _ _ => pts_nil) (fun _ _ _ _ _ => (pe_ix ix_list (pv 3) (pv 2) (fun _ _ => rfl))))))
      (pss_one (ps_ret (pe_callB (cr_all (by rfl)) (by rfl) T.z_all (by decide +kernel) (pa_cons (by exact pe_lc (own := [("line", 4)]) (g := gName 4) (tt := tYes) (te := (tOp rEq (tOp (rIxL K) (tVar 4) (tUn (rU fun i => .int (-i)) (tC (.int 1)))) (tCB (rSum K) (tCons (tSl (rSlL K) (tVar 4) tNoPart (tPart (tUn (rU fun i => .int (-i)) (tC (.int 1))))) tNil)))) (by rfl) sc_has_right_sums.nd (pi_list (pe_op op_cat (pe_callTy call_list_of (by rfl) T.z_list (by decide +kernel) (pa_cons (pv 0) pa_nil)) (pv 1))) (blkOk_by (own := [("line", 4)]) (N := ["table", "columns", "at", "row", "line"]) (sc := defScope s_has_right_sums) (by decide +kernel)) (fun _ _ _ _ _ => (pg_name (i := 4) sc_has_right_sums.nd rfl (Or.inl rfl))) (fun _ _ _ _ _ => pts_nil) (fun _ _ _ _ _ => (pe_cmpR op_eq (pe_ix ix_list (pv 4) (pe_un un_neg pe_int) (fun _ _ => rfl)) (pe_callB (cr_sum (by rfl)) (by rfl) T.z_sum (by decide +kernel) (pa_cons (pe_slice sl_list (pv 4) po_none (po_some (pe_un un_neg pe_int))) pa_nil)) rfl))) pa_nil)))), ?_⟩
  have lu := hu.rows.length
  obtain ⟨a0, r0, ha0, hr0, hx0⟩ := row_of hu (i := 0) (by omega)
  have ln : r0.length = n := un _ (List.mem_of_getElem? hr0)
  walk_at "go"
  refine lc_open ?_
  refine rng_open ?_
  walk_at "go"
  refine w_ixL hu.at_ (ref_at (i := 0) ha0) ?_
  walk_at "go"
  refine ⟨a0, _, rfl, .inl (SqL.of hx0), ?_⟩
  rw [List.length_map, ln]
  refine ⟨_, rfl, by omega, by omega, fun D hD => ?_⟩
  rw [Int.toNat_natCast]
  refine lc_range (lo := 0) (n := n) (fun (i : Nat) H' => ∃ cs : List Addr, Same H H' ∧ H' D = some (.lst (cs.map V.ref)) ∧ Paired (RowAt H') cs ((List.range i).map (colOf u)) ∧ ∀ a ∈ cs, a ≠ D) ⟨[], Same.new hD _, upd_same, .nil, fun a ha => (by cases ha)⟩ ?_ ?_
  · rintro c H1 hc ⟨cs, e1, hD1, hp1, nd⟩
    rw [show (0 : Int) + (c : Int) = (c : Int) by omega]
    walk_at "go"
    refine ⟨rfl, ?_⟩
    walk_at "go"
    refine lcAt_open ?_
    refine list_open ?_
    walk_at "go"
    refine ⟨p, rfl, ⟨_, SqL.of (e1 _ _ hu.at_)⟩, fun D2 hD2 => ?_⟩
    refine rows_at (fun r => .int (r.getD c 0)) (hu.same e1) (by omega) hD2 (fun x => rfl) ?_ ?_
    · rintro a r H2 e2 hr ha Q q
      walk_at "go"
      refine w_ixL ha (at_getD (by rw [un r hr]; exact hc)) ?_
      exact q H2 (Same.refl _)
    · intro H2 e2 hD22
      have lcs : cs.length ≤ 100 := by rw [hp1.length, List.length_map, List.length_range]; omega
      refine ⟨_, e2 _ _ hD1, Nat.lt_of_le_of_lt (show (cs.map V.ref).length ≤ 100 by rw [List.length_map]; exact lcs) (by decide), cs ++ [D2], (e1.trans e2).mut hD, by rw [upd_same, List.map_append]; rfl, ?_⟩
      have up : ∀ (a : Addr) (r : List Int), RowAt H1 a r → a ≠ D → RowAt (upd H2 D (.lst (cs.map V.ref ++ [.ref D2]))) a r := fun a r h ne => by
        show upd H2 D _ a = _
        rw [upd_ne ne]
        exact e2 _ _ h
      have D2D : D2 ≠ D := fun z => by rw [z, hD1] at hD2; cases hD2
      rw [List.range_succ, List.map_append]
      refine ⟨K3.Paired.app (paired_up hp1 fun a r ha h => up a r h (nd a ha)) (.cons ?_ .nil), fun a ha => ?_⟩
      · show upd H2 D _ D2 = _
        rw [upd_ne D2D, hD22]
        unfold colOf
        rw [List.map_map]
        rfl
      · rcases List.mem_append.mp ha with ha | ha
        · exact nd a ha
        · rw [List.mem_singleton.mp ha]; exact D2D
  · rintro H1 ⟨cs, e1, hD1, hp1, nd⟩
    have lcs : cs.length = n := by rw [hp1.length, List.length_map, List.length_range]
    walk_at "go"
    refine lcAt_open ?_
    refine list_open ?_
    walk_at "go"
    refine ⟨p, _, rfl, .inl (SqL.of (e1 _ _ hu.at_)), fun l hl => ?_⟩
    have e2 := Same.new hl (.lst (rs.map V.ref))
    walk_at "go"
    refine ⟨l, D, rs.map V.ref, cs.map V.ref, rfl, rfl, upd_same, e2 _ _ hD1, Nat.le_trans (show _ ≤ 200 by rw [List.length_map, List.length_map]; omega) (by decide), fun l2 hl2 => ?_⟩
    have e3 := Same.new hl2 (.lst (rs.map V.ref ++ cs.map V.ref))
    have e13 := e1.trans (e2.trans e3)
    have ht4 : Tab (upd (upd H1 l (.lst (rs.map V.ref))) l2 (.lst (rs.map V.ref ++ cs.map V.ref))) l2 (rs ++ cs) (u ++ (List.range n).map (colOf u)) := ⟨by rw [upd_same, List.map_append], K3.Paired.app (hu.same e13).rows (L2.Paired.mapP hp1 fun _ _ z => (e2.trans e3) _ _ z)⟩
    refine ⟨l2, rfl, ⟨_, SqL.of ht4.at_⟩, fun D2 hD2 => ?_⟩
    refine rows_at (fun r => .bl (decide (r.getLastD 0 = r.dropLast.sum))) ht4 (by rw [List.length_append, List.length_map, List.length_range]; omega) hD2 (fun x => rfl) ?_ ?_
    · rintro a r H2 e4 hr ha Q q
      have rne : r ≠ [] := by
        intro z
        rw [z] at hr
        rcases List.mem_append.mp hr with hr | hr
        · have := un _ hr
          simp at this
          omega
        · obtain ⟨c, _, hc⟩ := List.mem_map.mp hr
          unfold colOf at hc
          have := List.map_eq_nil_iff.mp hc
          rw [this] at um
          simp at um
          omega
      walk_at "go"
      refine ⟨1, rfl, ?_⟩
      refine w_ixL ha (at_last rne) ?_
      walk_at "go"
      refine ⟨1, rfl, ?_⟩
      walk_at "go"
      refine ⟨a, _, rfl, SqL.of ha, fun l3 hl3 => ?_⟩
      rw [cut_last]
      refine ⟨l3, r.dropLast, rfl, SqL.of (by rw [upd_same, List.map_dropLast]), ?_⟩
      refine w_eqI ?_
      rw [decV]
      exact q _ (Same.new hl3 _)
    · intro H2 e4 hD3
      refine ⟨D2, (u ++ (List.range n).map (colOf u)).map fun r => decide (r.getLastD 0 = r.dropLast.sum), rfl, SqL.of (by rw [hD3, List.map_map]; rfl), ?_⟩
      refine q _ H2 (e13.trans (( Same.refl _).trans e4)) ?_
      rw [List.all_eq_true]
      unfold Right RightCol
      constructor
      · intro h
        have h' : ∀ r ∈ u ++ (List.range n).map (colOf u), r.getLastD 0 = r.dropLast.sum := fun r hr => of_decide_eq_true (h _ (List.mem_map.mpr ⟨r, hr, rfl⟩))
        exact ⟨fun r hr => h' r (List.mem_append_left _ hr), fun c hc => h' _ (List.mem_append_right _ (List.mem_map.mpr ⟨c, List.mem_range.mpr hc, rfl⟩))⟩
      · rintro ⟨h1, h2⟩ b hb
        obtain ⟨r, hr, rfl⟩ := List.mem_map.mp hb
        refine decide_eq_true ?_
        rcases List.mem_append.mp hr with hr | hr
        · exact h1 r hr
        · obtain ⟨c, hc, rfl⟩ := List.mem_map.mp hr
          exact h2 c (List.mem_range.mp hc)
end
end K3
end L11_part
section L12_part
set_option Elab.async false
set_option linter.all false
set_option maxRecDepth 100000
set_option maxHeartbeats 1000000
set_option pp.deepTerms.threshold 5
open PySem PySem.Spec PyProof.Rows L2
/-- go on as far as nothing is open -/
local macro_rules | `(tactic| walk_at "go") => `(tactic| repeat (first
  | with_reducible refine w_seq ?_ | with_reducible refine w_next ?_ | with_reducible refine w_set ?_ | with_reducible refine w_drop ?_ | with_reducible refine w_ret ?_ | with_reducible refine w_retN ?_
  | with_reducible refine w_if ?_ | ((with_reducible refine' w_var ?hv ?_); (case hv => exact rfl)) | with_reducible refine w_c ?_ | with_reducible refine w_nil ?_ | with_reducible refine w_cons ?_ | with_reducible refine w_op ?_ | with_reducible refine w_un ?_
  | with_reducible refine w_test ?_ | with_reducible refine w_tB ?_ | with_reducible refine w_not ?_ | with_reducible refine w_and ?_ | with_reducible refine w_or ?_ | with_reducible refine w_bl ?_
  | with_reducible refine w_andV ?_ | with_reducible refine w_orV ?_ | with_reducible refine w_notV ?_ | with_reducible refine w_ifE ?_ | with_reducible refine w_chain ?_ | with_reducible refine w_i0 ?_
  | with_reducible refine w_call ?_ | with_reducible refine w_callS ?_ | with_reducible refine w_cB ?_ | with_reducible refine w_tup ?_ | with_reducible refine w_lst ?_ | with_reducible refine w_fldV ?_
  | with_reducible refine w_neF ?_ | with_reducible refine w_neT ?_ | with_reducible refine w_notN ?_ | with_reducible refine w_isN ?_ | with_reducible refine w_gname ?_ | with_reducible refine w_gsub ?_ | with_reducible refine w_asg ?_ | with_reducible refine w_sl ?_ | with_reducible refine w_noP ?_ | with_reducible refine w_int1 ?_ | with_reducible refine w_part ?_ | with_reducible refine w_yes ?_ | with_reducible refine w_nT ?_ | with_reducible refine w_nF ?_ | with_reducible refine w_iteT ?_ | with_reducible refine w_iteF ?_))
namespace K3
/-- the table u fits the grid t, whose hidden cells are hs -/
def Fit (t : List (List Int)) (hs : List (Nat × Nat)) (u : List (List Int)) (m n : Nat) : Prop :=
  Rect u m n ∧ (∀ r ∈ u, ∀ x ∈ r, 0 ≤ x) ∧ Right u n ∧ ∀ i < m, ∀ j < n, (i, j) ∉ hs → at2 u i j = at2 t i j
def spFits (K : PySem.W.Frag) : Sp := fun vs H Q _ => ∃ (g p : Addr) (v : V) (rs rs' : List Addr) (t u : List (List Int)) (m n m' n' : Nat) (hs : List (Nat × Nat)), vs = [.ref g, v, .ref p] ∧ Tab H g rs t ∧ Rect t m n ∧ 1 ≤ m ∧ 1 ≤ n ∧ m ≤ 60 ∧ n ≤ 60 ∧ HidIn K H v hs m n ∧ Tab H p rs' u ∧ Rect u m' n' ∧ 1 ≤ m' ∧ 1 ≤ n' ∧ m' ≤ 60 ∧ n' ≤ 60 ∧
  ∀ b H', Same H H' → (b = true ↔ Fit t hs u m n) → Q (.bl b) H'
theorem wide_iff {t u : List (List Int)} {m n m' n' : Nat} (ht : Rect t m n) (hu : Rect u m' n') (m1 : 1 ≤ m') : u.map List.length = t.map List.length ↔ Rect u m n := by
  have e1 : ∀ {t : List (List Int)} {m n : Nat}, Rect t m n → t.map List.length = List.replicate m n := by
    intro t m n h
    rw [← h.1]
    exact List.eq_replicate_iff.mpr ⟨by rw [List.length_map], fun b hb => by
      obtain ⟨r, hr, rfl⟩ := List.mem_map.mp hb
      exact h.2 r hr⟩
  constructor
  · intro h
    have l : u.length = t.length := by simpa using congrArg List.length h
    refine ⟨by rw [l, ht.1], fun r hr => ?_⟩
    have : r.length ∈ t.map List.length := by rw [← h]; exact List.mem_map.mpr ⟨r, hr, rfl⟩
    rw [e1 ht] at this
    exact (List.mem_replicate.mp this).2
  · intro h
    rw [e1 h, e1 ht]
theorem flat_len {α : Type} {f : Int → α} {k : Nat} : ∀ {u : List (List Int)}, (∀ r ∈ u, r.length ≤ k) → (u.flatMap fun r => r.map f).length ≤ u.length * k
  | [], _ => Nat.zero_le _
  | r :: u, h => by
    have i := flat_len (f := f) (u := u) fun r hr => h r (List.mem_cons_of_mem _ hr)
    have j := h r (List.mem_cons_self ..)
    simp only [List.flatMap_cons, List.length_append, List.length_map, List.length_cons, Nat.succ_mul]
    omega
theorem cellV_at {K : PySem.W.Frag} {D a : Addr} {ws : List V} {cs : List (Nat × Nat)} {te : TE} {vs : List Nat} {σ : L2.St} {j : Nat} {H1 : Hp} {Qd : Hp → Prop} (f : Nat × Nat → V) (ha : H1 a = some (.lst ws)) (hp : Paired (CellAt H1) ws cs) (hlen : ws.length ≤ 10000) (hD : H1 D = none) (hw : ∀ x, wipe ((wipe σ vs).set j (some x)) vs = wipe σ vs)
    (he : ∀ (v : V) (c : Nat × Nat) (H' : Hp), Same H1 H' → c ∈ cs → CellAt H' v c → ∀ Q : VK, (∀ H'', Same H' H'' → Q (f c) H'') → te ((wipe σ vs).set j (some v)) H' Q)
    (hd : ∀ H', Same H1 H' → H' D = some (.lst (cs.map f)) → Qd H') : LcAt (Itl K a) D (gName j) tYes te vs σ H1 Qd :=
  items_at (F := CellAt) (fun e h => CellAt.same e h) f (SqL.of ha) hp hD hlen hw he hd
theorem cells_keep {K : PySem.W.Frag} {D a : Addr} {ws : List V} {cs : List (Nat × Nat)} {tt : TT} {te : TE} {vs : List Nat} {σ : L2.St} {j : Nat} {H1 : Hp} {Qd : Hp → Prop} (b : Nat × Nat → Bool) (ha : H1 a = some (.lst ws)) (hp : Paired (CellAt H1) ws cs) (hlen : ws.length ≤ 10000) (hD : H1 D = none) (hw : ∀ x, wipe ((wipe σ vs).set j (some x)) vs = wipe σ vs)
    (ht : ∀ (v : V) (c : Nat × Nat) (H' : Hp), Same H1 H' → c ∈ cs → CellAt H' v c → ∀ Q : Bool → Hp → Prop, (∀ H'', Same H' H'' → Q (b c) H'') → tt ((wipe σ vs).set j (some v)) H' Q)
    (he : ∀ (v : V) (H' : Hp) (Q : VK), Q v H' → te ((wipe σ vs).set j (some v)) H' Q)
    (hd : ∀ H' zs, Same H1 H' → H' D = some (.lst zs) → Paired (CellAt H') zs (cs.filter b) → Qd H') : LcAt (Itl K a) D (gName j) tt te vs σ H1 Qd :=
  items_keep (F := CellAt) (fun e h => CellAt.same e h) b (SqL.of ha) hp hD hlen hw ht he hd
theorem CellAt.list {H : Hp} {p : Addr} {ws : List V} {hs : List (Nat × Nat)} (h : Paired (CellAt H) ws hs) : ∀ {i : Nat} {v : V}, ws[i]? = some v → ∃ c, hs[i]? = some c ∧ CellAt H v c := fun e => K3.Paired.get h e
section
variable {P : Program} {w : World} {K : PySem.W.Frag} {mg : Str → Option Value} {base : Heap}
theorem sc_fits : FnScope ["grid", "hidden", "table", "cells", "shown", "cell", "row", "number"] ["grid", "hidden", "table"] (defScope s_fits) := ⟨rfl, rfl, rfl, by decide +kernel, rfl, by decide +kernel, by decide +kernel⟩
theorem ok_fits (T : Tx K mg) : Ok P w K mg base 3 (He.ga K "fits") ["grid", "hidden", "table"] (spFits K) := by
  obtain ⟨fd, F⟩ := T.f_fits
  have Onumber_at := ok_number_at (P := P) (w := w) (base := base) T
  have Ocells_of := ok_cells_of (P := P) (w := w) (base := base) T
  have Ohas_right_sums := ok_has_right_sums (P := P) (w := w) (base := base) T
  have Ois_as_wide := ok_is_as_wide (P := P) (w := w) (base := base) T
  have Oread_hidden := ok_read_hidden (P := P) (w := w) (base := base) T
  refine ⟨fd, F.ok (k := 2) sc_fits (fun vs H Q E h => ?_) (fun cdv A outer s_ H vs Q E hr h => ?_), F.bindsN fun _ _ _ _ _ _ us hl => match us, hl with | [_, _, _], _ => rfl, F.kp⟩
  · obtain ⟨g, p, v, rs, rs', t, u, m, n, m', n', hs, rfl, ht, hR, m1, n1, m2, n2, hh, hu, hU, m1', n1', m2', n2', q⟩ := h
    rfl
  obtain ⟨g, p, v, rs, rs', t, u, m, n, m', n', hs, rfl, ht, hR, m1, n1, m2, n2, hh, hu, hU, m1', n1', m2', n2', q⟩ := h
  have hu65 := K3.Room.units65 hr
  have hu64 := Nat.lt_of_succ_lt hu65
  have hu0 := Nat.lt_of_le_of_lt (Nat.le_add_right _ 65) hu65
  have rnumber_at : Room 1 _ := hr.mono (by decide)
  have rcells_of : Room 1 _ := hr.mono (by decide)
  have rhas_right_sums : Room 1 _ := hr.mono (by decide)
  have ris_as_wide : Room 1 _ := hr.mono (by decide)
  have rread_hidden : Room 2 _ := hr.mono (by decide)
  refine ⟨_, pss_cons (ps_set (i := 3) sc_fits.nd rfl (Or.inr rfl) (pe_f Oread_hidden rread_hidden T.g_read_hidden (pa_cons (pv 0) (pa_cons (pv 1) pa_nil))))
      (pss_cons (ps_if (pt_not (pt_val (pe_f Ois_as_wide ris_as_wide T.g_is_as_wide (pa_cons (pv 0) (pa_cons (pv 2) pa_nil))))) (pss_one (ps_ret pe_bl)) pss_nil)
      (pss_cons (ps_if (pw_or (pt_val (pe_callB (cr_any (by rfl)) (by rfl) T.z_any (by decide +kernel) (pa_cons (by exact pe_lc2 (own := [("row", 6), ("number", 7)]) (vs1 := [7]) (g := gName 6) (tt := tYes) (wi1 := (iList K (tVar 6))) (g1 := gName 7) (tt1 := tYes) (te := (tOp (rI0 fun i j => .bl (decide (i < j))) (tVar 7) (tC (.int 0)))) (by rfl) sc_fits.nd (pi_list (pv 2)) (blkOk_by (own := [("row", 6), ("number", 7)]) (N := ["grid", "hidden", "table", "cells", "shown", "cell", "row", "number"]) (sc := defScope s_fits) (by decide +kernel)) (by decide) (fun _ _ _ _ _ => (pg_name (i := 6) sc_fits.nd rfl (Or.inl rfl))) (fun _ _ _ _ _ => pts_nil) (fun _ _ _ _ _ => (pi_list (pv 6))) (fun _ _ _ _ _ => (pg_name (i := 7) sc_fits.nd rfl (Or.inl rfl))) (fun _ _ _ _ _ => pts_nil) (fun _ _ _ _ _ => (pe_cmpR op_lt (pv 7) pe_int rfl))) pa_nil))) (pw_or1 (pt_not (pt_val (pe_f Ohas_right_sums rhas_right_sums T.g_has_right_sums (pa_cons (pv 2) pa_nil)))))).pt (pss_one (ps_ret pe_bl)) pss_nil)
      (pss_cons (by exact ps_setLc (i := 4) (own := [("cell", 5)]) (g := gName 5) (tt := (tTest (tOp (rNotInC K) (tVar 5) (tVar 3)))) (te := (tVar 5)) (by rfl) sc_fits.nd rfl rfl (by rfl) (pi_list (pe_f Ocells_of rcells_of T.g_cells_of (pa_cons (pv 0) pa_nil))) (blkOk_by (own := [("cell", 5)]) (N := ["grid", "hidden", "table", "cells", "shown", "cell", "row", "number"]) (sc := defScope s_fits) (by decide +kernel)) (fun _ _ _ _ _ => (pg_name (i := 5) sc_fits.nd rfl (Or.inl rfl))) (fun _ _ _ _ _ => (pts_one (pt_cmpR (op_notInC hu65) (pv 5) (pv 3) (by rfl)))) (fun _ _ _ _ _ => (pv 5)))
      (pss_one (ps_ret (pe_callB (cr_all (by rfl)) (by rfl) T.z_all (by decide +kernel) (pa_cons (by exact pe_lc (own := [("cell", 5)]) (g := gName 5) (tt := tYes) (te := (tOp rEq (tCall (spNum K) [] E0 (tCons (tVar 2) (tCons (tVar 5) tNil))) (tCall (spNum K) [] E0 (tCons (tVar 0) (tCons (tVar 5) tNil))))) (by rfl) sc_fits.nd (pi_list (pv 4)) (blkOk_by (own := [("cell", 5)]) (N := ["grid", "hidden", "table", "cells", "shown", "cell", "row", "number"]) (sc := defScope s_fits) (by decide +kernel)) (fun _ _ _ _ _ => (pg_name (i := 5) sc_fits.nd rfl (Or.inl rfl))) (fun _ _ _ _ _ => pts_nil) (fun _ _ _ _ _ => (pe_cmpR op_eq (pe_f Onumber_at rnumber_at T.g_number_at (pa_cons (pv 2) (pa_cons (pv 5) pa_nil))) (pe_f Onumber_at rnumber_at T.g_number_at (pa_cons (pv 0) (pa_cons (pv 5) pa_nil))) rfl))) pa_nil))))))), ?_⟩
  walk_at "go"
  refine ⟨g, v, rs, t, m, n, hs, rfl, ht, hR, m1, n1, m2, n2, hh, fun p1 H1 ws1 hs1 e1 h1 hw1 hs1m hl1 => ?_⟩
  walk_at "go"
  have lt : t.length = m := hR.1
  have lu : u.length = m' := hU.1
  refine ⟨g, p, rs, rs', t, u, rfl, ht.same e1, hu.same e1, by omega, by omega, fun H2 e2 => ?_⟩
  walk_at "go"
  have e02 := e1.trans e2
  by_cases c0 : u.map List.length = t.map List.length
  · have hRu : Rect u m n := (wide_iff hR hU m1').mp c0
    rw [decide_eq_true c0]
    walk_at "go"
    refine lc2_open ?_
    refine list_open ?_
    walk_at "go"
    have hu2 := hu.same e02
    have lru := hu2.rows.length
    refine ⟨p, rfl, ⟨_, SqL.of hu2.at_⟩, fun D hD => ?_⟩
    refine lc2_it (n := (rs'.map V.ref).length) walk_list (fun (i : Nat) H' => Same H2 H' ∧ H' D = some (.lst (((u.take i).flatMap fun r => r.map fun x => decide (x < 0)).map V.bl))) ⟨Same.new hD _, upd_same⟩ (fun i H' _ z => SqL.of (z.1 _ _ hu2.at_)) ?_ ?_
    · rintro i x H3 H4 hi ⟨e3, hD3⟩ ⟨rfl, hx⟩
      obtain ⟨a, ha, rfl⟩ := map_ref hx
      obtain ⟨r, hr, hra⟩ := K3.Paired.get hu2.rows ha
      have hra3 := e3 _ _ hra
      have lr : r.length = n := hRu.2 r (List.mem_of_getElem? hr)
      walk_at "go"
      refine ⟨rfl, ?_⟩
      walk_at "go"
      refine list_open ?_
      walk_at "go"
      refine ⟨a, rfl, ⟨_, SqL.of hra3⟩, ?_⟩
      refine in1_it (n := (r.map V.int).length) walk_list (fun (j : Nat) H' => Same H2 H' ∧ H' D = some (.lst ((((u.take i).flatMap fun r => r.map fun x => decide (x < 0)) ++ (r.take j).map fun x => decide (x < 0)).map V.bl))) ⟨e3, by rw [hD3, List.take_zero]; simp⟩ (fun j H' _ z => SqL.of (z.1 _ _ hra)) ?_ ?_
      · rintro j x H5 H6 hj ⟨e5, hD5⟩ ⟨rfl, hx5⟩
        rw [List.getElem?_map] at hx5
        cases hy : r[j]? with
        | none => rw [hy] at hx5; cases hx5
        | some y =>
          rw [hy] at hx5
          obtain rfl := (Option.some.inj hx5).symm
          walk_at "go"
          refine ⟨rfl, ?_⟩
          walk_at "go"
          refine ⟨_, hD5, Nat.lt_of_le_of_lt (show _ ≤ 100000 from ?_) (by decide), e5.mut hD, ?_⟩
          · have f1 := flat_len (f := fun x => decide (x < 0)) (k := n) (u := u.take i) fun r hr => Nat.le_of_eq (hRu.2 r (List.mem_of_mem_take hr))
            have f2 : (u.take i).length * n ≤ 60 * 60 := Nat.mul_le_mul (by rw [List.length_take]; omega) n2
            rw [List.length_map, List.length_append, List.length_map, List.length_take]
            omega
          · rw [upd_same, List.take_add_one, hy]
            simp
      · rintro H5 ⟨e5, hD5⟩
        refine ⟨e5, ?_⟩
        rw [hD5, List.length_map, List.take_length, List.take_add_one, hr]
        simp
    · rintro H3 ⟨e3, hD3⟩
      rw [List.length_map, lru, List.take_length] at hD3
      walk_at "go"
      refine ⟨D, _, rfl, SqL.of hD3, ?_⟩
      have e03 := e02.trans e3
      have any_iff : ((u.flatMap fun r => r.map fun x => decide (x < 0)).any id = true) ↔ ∃ r ∈ u, ∃ x ∈ r, x < 0 := by
        rw [List.any_eq_true]
        simp only [List.mem_flatMap, List.mem_map, id]
        constructor
        · rintro ⟨b, ⟨r, hr, x, hx, rfl⟩, hb⟩
          exact ⟨r, hr, x, hx, of_decide_eq_true hb⟩
        · rintro ⟨r, hr, x, hx, hb⟩
          exact ⟨_, ⟨r, hr, x, hx, rfl⟩, decide_eq_true hb⟩
      walk_at "go"
      by_cases c1 : ∃ r ∈ u, ∃ x ∈ r, x < 0
      · rw [any_iff.mpr c1]
        walk_at "go"
        refine q false H3 e03 ⟨fun h => (by cases h), fun h => ?_⟩
        obtain ⟨r, hr, x, hx, hb⟩ := c1
        have := h.2.1 r hr x hx
        omega
      · rw [Bool.eq_false_iff.mpr (fun z => c1 (any_iff.mp z))]
        have nonneg : ∀ r ∈ u, ∀ x ∈ r, 0 ≤ x := fun r hr x hx => by
          by_cases c : 0 ≤ x
          · exact c
          · exact absurd ⟨r, hr, x, hx, by omega⟩ c1
        walk_at "go"
        refine ⟨p, rs', u, m, n, rfl, hu.same e03, hRu, m1, n1, by omega, by omega, fun b H4 e4 hb => ?_⟩
        have e04 := e03.trans e4
        walk_at "go"
        cases b with
        | false =>
          walk_at "go"
          refine q false H4 e04 ⟨fun h => (by cases h), fun h => hb.mpr h.2.2.1⟩
        | true =>
          have right := hb.mp rfl
          walk_at "go"
          refine lcAt_open ?_
          refine list_open ?_
          walk_at "go"
          refine ⟨g, rs, t, m, n, rfl, ht.same e04, hR, m1, by omega, by omega, fun p5 H5 ws5 e5 hp5 h5 hw5 => ?_⟩
          refine ⟨p5, rfl, ⟨_, SqL.of h5⟩, fun D6 hD6 => ?_⟩
          have l5 : ws5.length ≤ 3600 := by
            rw [hw5.length, cells_len]
            exact Nat.mul_le_mul m2 n2
          have e15 := e2.trans (e3.trans (e4.trans e5))
          have lim : ∀ c ∈ hs1, c.1 < 1000 ∧ c.2 < 1000 := fun c hc => by
            obtain ⟨pp, wss, _, _, _, hmem, _⟩ := hh
            have := drop_mem m1 n1 (hmem c ((hs1m c).mp hc))
            omega
          refine cells_keep (fun c => !decide (c ∈ hs1)) h5 hw5 (by omega) hD6 (fun x => rfl) ?_ ?_ ?_
          · intro v c H6 e6 hc hv Q q
            have hcb := cells_mem.mp hc
            walk_at "go"
            have e16 := e15.trans e6
            refine ⟨p1, ws1, hs1, c, hv, rfl, .inl (SqL.of (e16 _ _ h1)), L2.Paired.mapP hw1 fun _ _ z => z.same e16, by omega, lim, ⟨by omega, by omega⟩, ?_⟩
            exact ⟨_, rfl, q H6 (Same.refl _)⟩
          · intro v H6 Q q
            walk_at "go"
            exact q
          · intro H6 zs e6 hD66 hz
            walk_at "go"
            refine lcAt_open ?_
            refine list_open ?_
            walk_at "go"
            refine ⟨D6, rfl, ⟨_, SqL.of hD66⟩, fun D7 hD7 => ?_⟩
            have e06 := e04.trans (e5.trans e6)
            refine cellV_at (fun c => .bl (decide (at2 u c.1 c.2 = at2 t c.1 c.2))) hD66 hz ?_ hD7 (fun x => rfl) ?_ ?_
            · rw [hz.length]
              refine Nat.le_trans (List.length_filter_le _ _) ?_
              rw [← hw5.length]
              omega
            · intro v c H7 e7 hc hv Q q
              have hcb := cells_mem.mp (List.mem_filter.mp hc).1
              have e07 := e06.trans e7
              walk_at "go"
              refine ⟨p, v, rs', u, m, n, c.1, c.2, rfl, hu.same e07, hRu, hv, hcb.1, hcb.2, ?_⟩
              walk_at "go"
              refine ⟨g, v, rs, t, m, n, c.1, c.2, rfl, ht.same e07, hR, hv, hcb.1, hcb.2, ?_⟩
              refine w_eqI ?_
              rw [decV]
              exact q H7 (Same.refl _)
            · intro H7 e7 hD77
              refine ⟨D7, ((cellsOf m n).filter fun c => !decide (c ∈ hs1)).map fun c => decide (at2 u c.1 c.2 = at2 t c.1 c.2), rfl, SqL.of (by rw [hD77, List.map_map]; rfl), ?_⟩
              refine q _ H7 (e06.trans e7) ?_
              rw [List.all_eq_true]
              constructor
              · intro h
                refine ⟨hRu, nonneg, right, fun i hi j hj hn => ?_⟩
                exact of_decide_eq_true (h _ (List.mem_map.mpr ⟨(i, j), List.mem_filter.mpr ⟨cells_mem.mpr ⟨hi, hj⟩, by simpa using fun z => hn ((hs1m _).mp z)⟩, rfl⟩))
              · rintro ⟨_, _, _, h⟩ b hb
                obtain ⟨c, hc, rfl⟩ := List.mem_map.mp hb
                obtain ⟨c1, c2⟩ := List.mem_filter.mp hc
                obtain ⟨c3, c4⟩ := cells_mem.mp c1
                refine decide_eq_true (h c.1 c3 c.2 c4 fun z => ?_)
                have : c ∈ hs1 := (hs1m _).mpr z
                simp [this] at c2
  · rw [decide_eq_false c0]
    walk_at "go"
    refine q false H2 e02 ?_
    constructor
    · intro h; cases h
    · intro h
      exact absurd ((wide_iff hR hU m1').mpr h.1) c0
end
end K3
end L12_part
section L13_part
set_option Elab.async false
set_option linter.all false
set_option maxRecDepth 100000
set_option maxHeartbeats 1000000
set_option pp.deepTerms.threshold 5
open PySem PySem.Spec PyProof.Rows L2
/-- go on as far as nothing is open -/
local macro_rules | `(tactic| walk_at "go") => `(tactic| repeat (first
  | with_reducible refine w_seq ?_ | with_reducible refine w_next ?_ | with_reducible refine w_set ?_ | with_reducible refine w_drop ?_ | with_reducible refine w_ret ?_ | with_reducible refine w_retN ?_
  | with_reducible refine w_if ?_ | ((with_reducible refine' w_var ?hv ?_); (case hv => exact rfl)) | with_reducible refine w_c ?_ | with_reducible refine w_nil ?_ | with_reducible refine w_cons ?_ | with_reducible refine w_op ?_ | with_reducible refine w_un ?_
  | with_reducible refine w_test ?_ | with_reducible refine w_tB ?_ | with_reducible refine w_not ?_ | with_reducible refine w_and ?_ | with_reducible refine w_or ?_ | with_reducible refine w_bl ?_
  | with_reducible refine w_andV ?_ | with_reducible refine w_orV ?_ | with_reducible refine w_notV ?_ | with_reducible refine w_ifE ?_ | with_reducible refine w_chain ?_ | with_reducible refine w_i0 ?_
  | with_reducible refine w_call ?_ | with_reducible refine w_callS ?_ | with_reducible refine w_cB ?_ | with_reducible refine w_tup ?_ | with_reducible refine w_lst ?_ | with_reducible refine w_fldV ?_
  | with_reducible refine w_neF ?_ | with_reducible refine w_neT ?_ | with_reducible refine w_notN ?_ | with_reducible refine w_isN ?_ | with_reducible refine w_gname ?_ | with_reducible refine w_gsub ?_ | with_reducible refine w_asg ?_ | with_reducible refine w_sl ?_ | with_reducible refine w_noP ?_ | with_reducible refine w_int1 ?_ | with_reducible refine w_part ?_ | with_reducible refine w_yes ?_ | with_reducible refine w_nT ?_ | with_reducible refine w_nF ?_ | with_reducible refine w_iteT ?_ | with_reducible refine w_iteF ?_))
namespace K3
theorem w_neI {i j : Int} {H : Hp} {Q : VK} (h : Q (.bl (!decide (i = j))) H) : rNe (.int i) (.int j) H Q := ⟨rfl, by rw [decV]; exact h⟩
theorem cells_split {m n : Nat} (m1 : 1 ≤ m) (n1 : 1 ≤ n) : cellsOf m n = (cellsOf m n).dropLast ++ [(m - 1, n - 1)] := by
  obtain ⟨m, rfl⟩ : ∃ k, m = k + 1 := ⟨m - 1, by omega⟩
  obtain ⟨n, rfl⟩ : ∃ k, n = k + 1 := ⟨n - 1, by omega⟩
  rw [cells_last, Nat.add_sub_cancel, Nat.add_sub_cancel]
  unfold cellsOf rowCells
  rw [List.range_succ (n := m), List.flatMap_append, List.flatMap_cons, List.flatMap_nil, List.append_nil, List.append_assoc]
  congr 1
  rw [List.range_succ (n := n), List.map_append]
  rfl
theorem Tab.take {H : Hp} {p : Addr} {rs : List Addr} {t : List (List Int)} (h : Paired (RowAt H) rs t) : Paired (RowAt H) rs.dropLast t.dropLast := paired_drop h
theorem last_row {H : Hp} {rs : List Addr} {t : List (List Int)} (h : Paired (RowAt H) rs t) (ne : t ≠ []) : ∃ a r, rs[rs.length - 1]? = some a ∧ t = t.dropLast ++ [r] ∧ RowAt H a r ∧ atI (rs.map V.ref) (-1) = some (.ref a) := by
  have l := h.length
  have l0 : t.length ≠ 0 := fun z => ne (List.length_eq_zero_iff.mp z)
  have rne : rs ≠ [] := fun z => by rw [z] at l; exact l0 l.symm
  obtain ⟨as, a, rfl⟩ : ∃ as a, rs = as ++ [a] := ⟨rs.dropLast, rs.getLast rne, (List.dropLast_concat_getLast rne).symm⟩
  obtain ⟨ts, r, rfl⟩ : ∃ ts r, t = ts ++ [r] := ⟨t.dropLast, t.getLast ne, (List.dropLast_concat_getLast ne).symm⟩
  have hl : as.length = ts.length := by simpa using l
  obtain ⟨y, hy, hr⟩ := K3.Paired.get h (i := as.length) (x := a) (by simp)
  rw [hl] at hy
  simp at hy
  subst hy
  exact ⟨a, r, by simp, by rw [List.dropLast_concat], hr, by rw [List.map_append]; exact atI_last _ _⟩
theorem col_drop (u : List (List Int)) (c : Nat) : colOf u.dropLast c = (colOf u c).dropLast := by unfold colOf; rw [List.map_dropLast]
theorem col_last {u : List (List Int)} {r : List Int} (h : u = u.dropLast ++ [r]) (c : Nat) : (colOf u c).getLastD 0 = r.getD c 0 := by
  rw [h]
  unfold colOf
  rw [List.map_append]
  exact List.getLastD_concat ..
def rowOk (r : List Int) : Prop := (∀ x ∈ r, 0 ≤ x) ∧ r.getLastD 0 = r.dropLast.sum
section
variable {P : Program} {w : World} {K : PySem.W.Frag} {mg : Str → Option Value} {base : Heap}
theorem sc_law_fits : FnScope ["_law_grid", "_law_hidden", "_law_table", "_law_row", "_law_column"] ["_law_grid", "_law_hidden", "_law_table"] (defScope s__law_fits) := ⟨rfl, rfl, rfl, by decide +kernel, rfl, by decide +kernel, by decide +kernel⟩
theorem ok_law_fits (T : Tx K mg) : Ok P w K mg base 2 (He.ga K "_law_fits") ["_law_grid", "_law_hidden", "_law_table"] (spFits K) := by
  obtain ⟨fd, F⟩ := T.f__law_fits
  have O_law_cells := ok_cells (P := P) (w := w) (base := base) T
  refine ⟨fd, F.ok (k := 1) sc_law_fits (fun vs H Q E h => ?_) (fun cdv A outer s_ H vs Q E hr h => ?_), F.bindsN fun _ _ _ _ _ _ us hl => match us, hl with | [_, _, _], _ => rfl, F.kp⟩
  · obtain ⟨g, p, v, rs, rs', t, u, m, n, m', n', hs, rfl, ht, hR, m1, n1, m2, n2, ⟨ph, wh, rfl, hhp, hhw, hmem, hhl⟩, hu, hU, m1', n1', m2', n2', q⟩ := h
    rfl
  obtain ⟨g, p, v, rs, rs', t, u, m, n, m', n', hs, rfl, ht, hR, m1, n1, m2, n2, ⟨ph, wh, rfl, hhp, hhw, hmem, hhl⟩, hu, hU, m1', n1', m2', n2', q⟩ := h
  have hu65 := K3.Room.units65 hr
  have hu64 := Nat.lt_of_succ_lt hu65
  have hu0 := Nat.lt_of_le_of_lt (Nat.le_add_right _ 65) hu65
  have r_law_cells : Room 1 _ := hr.mono (by decide)
  refine ⟨_, pss_cons (ps_if (pw_or (pt_cmpR op_ne (pe_callB call_len_seq (by rfl) T.z_len PySem.boot_len (pa_cons (pv 2) pa_nil)) (pe_callB call_len_seq (by rfl) T.z_len PySem.boot_len (pa_cons (pv 0) pa_nil)) (nomark _)) (pw_or1 (pt_cmpR (op_neE hu0) (by exact pe_lc (own := [("_law_row", 3)]) (g := gName 3) (tt := (tTest (tOp rNe (tCB (fun xs H Q => ∃ p ys, xs = [V.ref p] ∧ (SqL K H p ys ∨ SqT K H p ys) ∧ Q (.int ys.length) H) (tCons (tVar 3) tNil)) (tCB (fun xs H Q => ∃ p ys, xs = [V.ref p] ∧ (SqL K H p ys ∨ SqT K H p ys) ∧ Q (.int ys.length) H) (tCons (tOp (rIxL K) (tVar 0) (tC (.int 0))) tNil))))) (te := (tVar 3)) (by rfl) sc_law_fits.nd (pi_list (pv 2)) (blkOk_by (own := [("_law_row", 3)]) (N := ["_law_grid", "_law_hidden", "_law_table", "_law_row", "_law_column"]) (sc := defScope s__law_fits) (by decide +kernel)) (fun _ _ _ _ _ => (pg_name (i := 3) sc_law_fits.nd rfl (Or.inl rfl))) (fun _ _ _ _ _ => (pts_one (pt_cmpR op_ne (pe_callB call_len_seq (by rfl) T.z_len PySem.boot_len (pa_cons (pv 3) pa_nil)) (pe_callB call_len_seq (by rfl) T.z_len PySem.boot_len (pa_cons (pe_ix ix_list (pv 0) pe_int (fun _ _ => rfl)) pa_nil)) (nomark _)))) (fun _ _ _ _ _ => (pv 3))) (pe_lst pa_nil) (nomark _)))).pt (pss_one (ps_ret pe_bl)) pss_nil)
      (pss_cons (ps_for (passes_of rfl) (by rfl) (pi_list (pv 2)) (pg_name (i := 3) sc_law_fits.nd rfl (Or.inl rfl)) (pss_one (ps_if (pw_or (pt_cmpR op_lt (pe_callB (cr_min (by rfl)) (by rfl) T.z_min (by decide +kernel) (pa_cons (pv 3) pa_nil)) pe_int (nomark _)) (pw_or1 (pt_cmpR op_ne (pe_callB (cr_sum (by rfl)) (by rfl) T.z_sum (by decide +kernel) (pa_cons (pe_slice sl_list (pv 3) po_none (po_some (pe_un un_neg pe_int))) pa_nil)) (pe_ix ix_list (pv 3) (pe_un un_neg pe_int) (fun _ _ => rfl)) (nomark _)))).pt (pss_one (ps_ret pe_bl)) pss_nil)))
      (pss_cons (ps_for (passes_of rfl) (by rfl) (pi_range1 rfl T.z_range (pa_cons (pe_callB call_len_seq (by rfl) T.z_len PySem.boot_len (pa_cons (pe_ix ix_list (pv 0) pe_int (fun _ _ => rfl)) pa_nil)) pa_nil)) (pg_name (i := 4) sc_law_fits.nd rfl (Or.inr rfl)) (pss_one (ps_if (pt_cmpR op_ne (pe_callB (cr_sum (by rfl)) (by rfl) T.z_sum (by decide +kernel) (pa_cons (by exact pe_lc (own := [("_law_row", 3)]) (g := gName 3) (tt := tYes) (te := (tOp (rIxL K) (tVar 3) (tVar 4))) (by rfl) sc_law_fits.nd (pi_list (pe_slice sl_list (pv 2) po_none (po_some (pe_un un_neg pe_int)))) (blkOk_by (own := [("_law_row", 3)]) (N := ["_law_grid", "_law_hidden", "_law_table", "_law_row", "_law_column"]) (sc := defScope s__law_fits) (by decide +kernel)) (fun _ _ _ _ _ => (pg_name (i := 3) sc_law_fits.nd rfl (Or.inl rfl))) (fun _ _ _ _ _ => pts_nil) (fun _ _ _ _ _ => (pe_ix ix_list (pv 3) (pv 4) (fun _ _ => rfl)))) pa_nil)) (pe_ix ix_list (pe_ix ix_list (pv 2) (pe_un un_neg pe_int) (fun _ _ => rfl)) (pv 4) (fun _ _ => rfl)) (nomark _)) (pss_one (ps_ret pe_bl)) pss_nil)))
      (pss_cons (ps_for (passes_of rfl) (by rfl) (pi_list (pe_op op_cat (pe_f O_law_cells r_law_cells T.g__law_cells (pa_cons (pv 0) pa_nil)) (pe_lst (pa_cons (pe_tup (pa_cons (pe_op op_sub (pe_callB call_len_seq (by rfl) T.z_len PySem.boot_len (pa_cons (pv 0) pa_nil)) pe_int) (pa_cons (pe_op op_sub (pe_callB call_len_seq (by rfl) T.z_len PySem.boot_len (pa_cons (pe_ix ix_list (pv 0) pe_int (fun _ _ => rfl)) pa_nil)) pe_int) pa_nil))) pa_nil)))) (pg_tup (by rfl) (pgs_cons (pg_name (i := 3) sc_law_fits.nd rfl (Or.inl rfl)) (pgs_cons (pg_name (i := 4) sc_law_fits.nd rfl (Or.inr rfl)) pgs_nil))) (pss_one (ps_if (pw_and (pt_cmpR (op_notInC hu65) (pe_tup (pa_cons (pv 3) (pa_cons (pv 4) pa_nil))) (pv 1) (by rfl)) (pw_and1 (pt_cmpR op_ne (pe_ix ix_list (pe_ix ix_list (pv 2) (pv 3) (fun _ _ => rfl)) (pv 4) (fun _ _ => rfl)) (pe_ix ix_list (pe_ix ix_list (pv 0) (pv 3) (fun _ _ => rfl)) (pv 4) (fun _ _ => rfl)) (nomark _)))).pt (pss_one (ps_ret pe_bl)) pss_nil)))
      (pss_one (ps_ret pe_bl))))), ?_⟩
  have lrt := ht.rows.length
  have lru := hu.rows.length
  have lt : t.length = m := hR.1
  have lu : u.length = m' := hU.1
  obtain ⟨a0, r0, ha0, hr0, hx0⟩ := row_of ht (i := 0) (by omega)
  have ln : r0.length = n := hR.2 _ (List.mem_of_getElem? hr0)
  have no : ∀ H', Same H H' → ¬ Fit t hs u m n → Q (.bl false) H' := fun H' e h => q false H' e ⟨fun z => (by cases z), fun z => absurd z h⟩
  walk_at "go"
  refine ⟨p, _, rfl, .inl (SqL.of hu.at_), ?_⟩
  rw [List.length_map, lru, lu]
  walk_at "go"
  refine ⟨g, _, rfl, .inl (SqL.of ht.at_), ?_⟩
  rw [List.length_map, lrt, lt]
  refine w_neI ?_
  walk_at "go"
  by_cases c0 : (m' : Int) = (m : Int)
  · rw [decide_eq_true c0]
    walk_at "go"
    refine lcAt_open ?_
    refine list_open ?_
    walk_at "go"
    refine ⟨p, rfl, ⟨_, SqL.of hu.at_⟩, fun D hD => ?_⟩
    refine rows_keep (fun r => !decide (r.length = n)) hu (by omega) hD (fun x => rfl) ?_ ?_ ?_
    · intro a r H1 e1 hr ha Q q
      walk_at "go"
      refine ⟨a, _, rfl, .inl (SqL.of ha), ?_⟩
      rw [List.length_map]
      walk_at "go"
      refine w_ixL (e1 _ _ ht.at_) (ref_at (i := 0) ha0) ?_
      walk_at "go"
      refine ⟨a0, _, rfl, .inl (SqL.of (e1 _ _ hx0)), ?_⟩
      rw [List.length_map, ln]
      refine w_neI ?_
      refine ⟨_, rfl, ?_⟩
      have : (decide ((r.length : Int) = (n : Int))) = decide (r.length = n) := decide_eq_decide.mpr (by omega)
      rw [this]
      exact q H1 (Same.refl _)
    · intro v H1 Q q
      walk_at "go"
      exact q
    · intro H1 zs e1 hD1 hz
      walk_at "go"
      refine ⟨Nat.zero_le _, fun l hl => ?_⟩
      have e2 := Same.new hl (.lst [])
      have e02 := e1.trans e2
      refine ⟨D, l, zs, [], rfl, rfl, SqL.of (e2 _ _ hD1), SqL.of upd_same, .inr (.inl rfl), ?_⟩
      walk_at "go"
      by_cases c1 : zs = []
      · rw [decide_eq_true (⟨c1, rfl⟩ : zs = [] ∧ ([] : List V) = [])]
        have hRu : Rect u m n := by
          refine ⟨by omega, fun r hr => ?_⟩
          rw [c1] at hz
          have hf : u.filter (fun r => !decide (r.length = n)) = [] := List.length_eq_zero_iff.mp hz.length.symm
          by_cases c : r.length = n
          · exact c
          · have : r ∈ u.filter (fun r => !decide (r.length = n)) := List.mem_filter.mpr ⟨hr, by simpa using c⟩
            rw [hf] at this
            cases this
        generalize upd H1 l (.lst []) = H2 at e2 e02 ⊢
        walk_at "go"
        refine list_open ?_
        walk_at "go"
        refine ⟨p, rfl, ⟨_, SqL.of (e02 _ _ hu.at_)⟩, ?_⟩
        refine for_list (xs := rs'.map V.ref) (fun (i : Nat) σ H' => ∃ o3 o4 : Option V, σ = [some (.ref g), some (.ref ph), some (.ref p), o3, o4] ∧ Same H H' ∧ ∀ r ∈ u.take i, rowOk r) ⟨none, none, rfl, e02, fun r hr => (by cases hr)⟩ (fun i σ H' _ ⟨_, _, _, e, _⟩ => SqL.of (e _ _ hu.at_)) ?_ ?_
        · rintro i x σ H3 hx ⟨o3, o4, rfl, e3, hok⟩
          obtain ⟨a, ha, rfl⟩ := map_ref hx
          obtain ⟨r, hr, hra⟩ := K3.Paired.get hu.rows ha
          have hra3 := e3 _ _ hra
          have hru : r ∈ u := List.mem_of_getElem? hr
          have lr : r.length = n := hRu.2 r hru
          have rne : r ≠ [] := fun z => by rw [z] at lr; simp at lr; omega
          walk_at "go"
          refine ⟨a, r, rfl, SqL.of hra3, by omega, fun mn h1 h2 => ?_⟩
          walk_at "go"
          by_cases c2 : mn < 0
          · rw [decide_eq_true c2]
            walk_at "go"
            refine no H3 e3 fun h => ?_
            have := h.2.1 r hru mn h1
            omega
          · rw [decide_eq_false c2]
            walk_at "go"
            refine ⟨1, rfl, ?_⟩
            walk_at "go"
            refine ⟨a, _, rfl, SqL.of hra3, fun l3 hl3 => ?_⟩
            rw [cut_last]
            have e4 := Same.new hl3 (.lst (r.map V.int).dropLast)
            refine ⟨l3, r.dropLast, rfl, SqL.of (by rw [upd_same, List.map_dropLast]), ?_⟩
            walk_at "go"
            refine ⟨1, rfl, ?_⟩
            refine w_ixL (e4 _ _ hra3) (at_last rne) ?_
            refine w_neI ?_
            walk_at "go"
            by_cases c3 : r.dropLast.sum = r.getLastD 0
            · rw [decide_eq_true c3]
              walk_at "go"
              refine ⟨_, _, rfl, e3.trans e4, fun r' hr' => ?_⟩
              rw [List.take_add_one, hr] at hr'
              rcases List.mem_append.mp hr' with hr' | hr'
              · exact hok r' hr'
              · rw [List.mem_singleton.mp hr']
                exact ⟨fun y hy => by have := h2 y hy; omega, c3.symm⟩
            · rw [decide_eq_false c3]
              walk_at "go"
              exact no _ (e3.trans e4) fun h => c3 (h.2.2.1.1 r hru).symm
        · rintro σ H3 ⟨o3, o4, rfl, e3, hok⟩
          rw [List.length_map, lru, List.take_length] at hok
          walk_at "go"
          refine rng_open ?_
          walk_at "go"
          refine w_ixL (e3 _ _ ht.at_) (ref_at (i := 0) ha0) ?_
          walk_at "go"
          refine ⟨a0, _, rfl, .inl (SqL.of (e3 _ _ hx0)), ?_⟩
          rw [List.length_map, ln]
          refine ⟨_, rfl, by omega, by omega, ?_⟩
          rw [Int.toNat_natCast]
          obtain ⟨al, rl, hal, hul, hrl, hatl⟩ := last_row hu.rows (fun z => by rw [z] at lu; simp at lu; omega)
          have hrlu : rl ∈ u := by rw [hul]; simp
          have lrl : rl.length = n := hRu.2 rl hrlu
          refine for_range (lo := 0) (n := n) (fun (i : Nat) σ H' => ∃ o3 o4 : Option V, σ = [some (.ref g), some (.ref ph), some (.ref p), o3, o4] ∧ Same H H' ∧ ∀ c < i, RightCol u c) ⟨o3, o4, rfl, e3, fun c hc => absurd hc (Nat.not_lt_zero _)⟩ ?_ ?_
          · rintro c σ H4 hc ⟨o5, o6, rfl, e4, hcol⟩
            rw [show (0 : Int) + (c : Int) = (c : Int) by omega]
            walk_at "go"
            refine lcAt_open ?_
            refine list_open ?_
            walk_at "go"
            refine ⟨1, rfl, ?_⟩
            walk_at "go"
            refine ⟨p, _, rfl, SqL.of (e4 _ _ hu.at_), fun l5 hl5 => ?_⟩
            rw [cut_last]
            have e5 := Same.new hl5 (.lst (rs'.map V.ref).dropLast)
            have ht5 : Tab (upd H4 l5 (.lst (rs'.map V.ref).dropLast)) l5 rs'.dropLast u.dropLast := ⟨by rw [upd_same, List.map_dropLast], paired_drop (hu.same (e4.trans e5)).rows⟩
            refine ⟨l5, rfl, ⟨_, SqL.of ht5.at_⟩, fun D6 hD6 => ?_⟩
            refine rows_at (fun r => .int (r.getD c 0)) ht5 (by rw [List.length_dropLast]; omega) hD6 (fun x => rfl) ?_ ?_
            · intro a r H6 e6 hr ha Q q
              walk_at "go"
              refine w_ixL ha (at_getD (by rw [hRu.2 r (List.dropLast_subset _ hr)]; exact hc)) ?_
              exact q H6 (Same.refl _)
            · intro H6 e6 hD66
              refine ⟨D6, colOf u.dropLast c, rfl, SqL.of (by rw [hD66]; unfold colOf; rw [List.map_map]; rfl), ?_⟩
              have e46 := e5.trans e6
              have e06 := e4.trans e46
              walk_at "go"
              refine ⟨1, rfl, ?_⟩
              refine w_ixL (e06 _ _ hu.at_) hatl ?_
              walk_at "go"
              refine w_ixL (e06 _ _ hrl) (at_getD (c := c) (by omega)) ?_
              refine w_neI ?_
              walk_at "go"
              have e7 : rl.getD c 0 = (colOf u c).getLastD 0 := (col_last hul c).symm
              rw [e7, col_drop]
              by_cases c3 : (colOf u c).dropLast.sum = (colOf u c).getLastD 0
              · rw [decide_eq_true c3]
                walk_at "go"
                refine ⟨_, _, rfl, e06, fun d hd => ?_⟩
                by_cases z : d = c
                · rw [z]; exact c3.symm
                · exact hcol d (by omega)
              · rw [decide_eq_false c3]
                walk_at "go"
                exact no _ e06 fun h => c3 (h.2.2.1.2 c hc).symm
          · rintro σ H4 ⟨o5, o6, rfl, e4, hcol⟩
            walk_at "go"
            refine list_open ?_
            walk_at "go"
            refine ⟨g, rs, t, n, r0, rfl, ht.same e4, hr0, ln, by omega, by omega, fun p5 H5 ws5 e5 hp5 h5 hw5 => ?_⟩
            have e05 := e4.trans e5
            walk_at "go"
            refine ⟨g, _, rfl, .inl (SqL.of (e05 _ _ ht.at_)), ?_⟩
            rw [List.length_map, lrt, lt]
            walk_at "go"
            refine w_ixL (e05 _ _ ht.at_) (ref_at (i := 0) ha0) ?_
            walk_at "go"
            refine ⟨a0, _, rfl, .inl (SqL.of (e05 _ _ hx0)), ?_⟩
            rw [List.length_map, ln]
            walk_at "go"
            refine ⟨(by show 2 ≤ sizeLine; decide), fun p6 hp6 => ?_⟩
            have e6 := Same.new hp6 (.tup [.int ((m : Int) - 1), .int ((n : Int) - 1)])
            have hc6 : CellAt (upd H5 p6 (.tup [.int ((m : Int) - 1), .int ((n : Int) - 1)])) (.ref p6) (m - 1, n - 1) := ⟨p6, rfl, by rw [upd_same, show ((m : Int) - 1) = ((m - 1 : Nat) : Int) by omega, show ((n : Int) - 1) = ((n - 1 : Nat) : Int) by omega]⟩
            walk_at "go"
            refine ⟨(by show 1 ≤ sizeLine; decide), fun p7 hp7 => ?_⟩
            have e7 := Same.new hp7 (.lst [.ref p6])
            have lw5 : ws5.length ≤ 3600 := by
              rw [hw5.length, List.length_dropLast, cells_len]
              have := Nat.mul_le_mul m2 n2
              rw [← lt] at this
              omega
            refine ⟨p5, p7, ws5, [.ref p6], rfl, rfl, e7 _ _ (e6 _ _ h5), upd_same, Nat.le_trans (show _ ≤ 3601 by simp; omega) (by decide), fun p8 hp8 => ?_⟩
            have e8 := Same.new hp8 (.lst (ws5 ++ [.ref p6]))
            have e58 := e6.trans (e7.trans e8)
            have hw8 := K3.Paired.app (L2.Paired.mapP hw5 fun _ _ z => z.same e58) (.cons (hc6.same (e7.trans e8)) .nil)
            rw [lt, ← cells_split m1 n1] at hw8
            have h8 : (upd (upd (upd H5 p6 (.tup [.int ((m : Int) - 1), .int ((n : Int) - 1)])) p7 (.lst [.ref p6])) p8 (.lst (ws5 ++ [.ref p6]))) p8 = some (.lst (ws5 ++ [.ref p6])) := upd_same
            generalize upd (upd (upd H5 p6 (.tup [.int ((m : Int) - 1), .int ((n : Int) - 1)])) p7 (.lst [.ref p6])) p8 (.lst (ws5 ++ [.ref p6])) = H8 at e58 hw8 h8 ⊢
            have e08 := e05.trans e58
            refine ⟨p8, rfl, ⟨_, SqL.of h8⟩, ?_⟩
            refine for_list (xs := ws5 ++ [.ref p6]) (fun (i : Nat) σ H' => ∃ o3 o4 : Option V, σ = [some (.ref g), some (.ref ph), some (.ref p), o3, o4] ∧ Same H8 H' ∧ ∀ c ∈ (cellsOf m n).take i, c ∉ hs → at2 u c.1 c.2 = at2 t c.1 c.2) ⟨o5, o6, rfl, Same.refl _, fun r hr => (by cases hr)⟩ (fun i σ H' _ ⟨_, _, _, e, _⟩ => SqL.of (e _ _ h8)) ?_ ?_
            · rintro i x σ H9 hx ⟨o7, o8, rfl, e9, hcc⟩
              obtain ⟨c, hc, hxc⟩ := K3.Paired.get hw8 hx
              obtain ⟨a, rfl, ha⟩ := hxc.same e9
              obtain ⟨c1, c2⟩ := cells_mem.mp (List.mem_of_getElem? hc)
              have e09 := e08.trans e9
              refine ⟨a, _, rfl, SqT.of ha, rfl, _, _, rfl, _, _, rfl, rfl, ?_⟩
              walk_at "go"
              refine ⟨(by show 2 ≤ sizeLine; decide), fun q1 hq1 => ?_⟩
              have e10 := Same.new hq1 (.tup [.int (c.1 : Int), .int (c.2 : Int)])
              have e010 := e09.trans e10
              have hcd : CellAt (upd H9 q1 (.tup [.int (c.1 : Int), .int (c.2 : Int)])) (.ref q1) c := ⟨q1, rfl, upd_same⟩
              generalize upd H9 q1 (.tup [.int (c.1 : Int), .int (c.2 : Int)]) = H10 at e10 e010 hcd ⊢
              have lim : ∀ h ∈ hs, h.1 < 1000 ∧ h.2 < 1000 := fun h hh => by
                have := drop_mem m1 n1 (hmem h hh)
                omega
              walk_at "go"
              refine ⟨ph, wh, hs, c, hcd, rfl, hhp.elim (fun z => .inl (e010.seq z)) (fun z => .inr (e010.sqt z)), L2.Paired.mapP hhw fun _ _ z => z.same e010, by omega, lim, ⟨by omega, by omega⟩, ?_⟩
              walk_at "go"
              have keep : (c ∉ hs → at2 u c.1 c.2 = at2 t c.1 c.2) → ∀ d ∈ (cellsOf m n).take (i + 1), d ∉ hs → at2 u d.1 d.2 = at2 t d.1 d.2 := fun k d hd hn => by
                rw [List.take_add_one, hc] at hd
                rcases List.mem_append.mp hd with hd | hd
                · exact hcc d hd hn
                · rw [List.mem_singleton.mp hd] at hn ⊢
                  exact k hn
              by_cases c4 : c ∈ hs
              · rw [decide_eq_true c4]
                walk_at "go"
                exact ⟨_, _, rfl, e9.trans e10, keep fun z => absurd c4 z⟩
              · rw [decide_eq_false c4]
                walk_at "go"
                obtain ⟨b1, y1, hb1, hy1, hz1⟩ := row_of hu (i := c.1) (by omega)
                obtain ⟨b2, y2, hb2, hy2, hz2⟩ := row_of ht (i := c.1) (by omega)
                refine w_ixL (e010 _ _ hu.at_) (ref_at hb1) ?_
                walk_at "go"
                refine w_ixL (e010 _ _ hz1) (at_getD (c := c.2) (by rw [hRu.2 y1 (List.mem_of_getElem? hy1)]; exact c2)) ?_
                walk_at "go"
                refine w_ixL (e010 _ _ ht.at_) (ref_at hb2) ?_
                walk_at "go"
                refine w_ixL (e010 _ _ hz2) (at_getD (c := c.2) (by rw [hR.2 y2 (List.mem_of_getElem? hy2)]; exact c2)) ?_
                refine w_neI ?_
                rw [← at2_of hy1, ← at2_of hy2]
                walk_at "go"
                by_cases c5 : at2 u c.1 c.2 = at2 t c.1 c.2
                · rw [decide_eq_true c5]
                  walk_at "go"
                  exact ⟨_, _, rfl, e9.trans e10, keep fun _ => c5⟩
                · rw [decide_eq_false c5]
                  walk_at "go"
                  exact no _ e010 fun h => c5 (h.2.2.2 c.1 c1 c.2 c2 c4)
            · rintro σ H9 ⟨o7, o8, rfl, e9, hcc⟩
              rw [hw8.length, List.take_length] at hcc
              walk_at "go"
              refine q true H9 (e08.trans e9) ⟨fun _ => ?_, fun _ => rfl⟩
              exact ⟨hRu, fun r hr => (hok r hr).1, ⟨fun r hr => (hok r hr).2, fun c hc => hcol c hc⟩, fun i hi j hj hn => hcc (i, j) (cells_mem.mpr ⟨hi, hj⟩) hn⟩
      · rw [decide_eq_false (fun z => c1 z.1 : ¬ (zs = [] ∧ ([] : List V) = []))]
        walk_at "go"
        refine no _ e02 fun h => ?_
        obtain ⟨z, zt, rfl⟩ : ∃ z zt, zs = z :: zt := by
          cases zs with
          | nil => exact absurd rfl c1
          | cons a b => exact ⟨a, b, rfl⟩
        cases hz' : u.filter (fun r => !decide (r.length = n)) with
        | nil => rw [hz'] at hz; cases hz
        | cons r rt =>
          have : r ∈ u.filter (fun r => !decide (r.length = n)) := by rw [hz']; exact List.mem_cons_self ..
          obtain ⟨h1, h2⟩ := List.mem_filter.mp this
          have := h.1.2 r h1
          simp [this] at h2
  · rw [decide_eq_false c0]
    walk_at "go"
    refine no H (Same.refl _) fun h => c0 ?_
    have := h.1.1
    omega
end
end K3
end L13_part
section L14_part
set_option Elab.async false
set_option linter.all false
set_option maxRecDepth 100000
set_option maxHeartbeats 1000000
set_option pp.deepTerms.threshold 5
open PySem PySem.Spec PyProof.Rows L2
/-- go on as far as nothing is open -/
local macro_rules | `(tactic| walk_at "go") => `(tactic| repeat (first
  | with_reducible refine w_seq ?_ | with_reducible refine w_next ?_ | with_reducible refine w_set ?_ | with_reducible refine w_drop ?_ | with_reducible refine w_ret ?_ | with_reducible refine w_retN ?_
  | with_reducible refine w_if ?_ | ((with_reducible refine' w_var ?hv ?_); (case hv => exact rfl)) | with_reducible refine w_c ?_ | with_reducible refine w_nil ?_ | with_reducible refine w_cons ?_ | with_reducible refine w_op ?_ | with_reducible refine w_un ?_
  | with_reducible refine w_test ?_ | with_reducible refine w_tB ?_ | with_reducible refine w_not ?_ | with_reducible refine w_and ?_ | with_reducible refine w_or ?_ | with_reducible refine w_bl ?_
  | with_reducible refine w_andV ?_ | with_reducible refine w_orV ?_ | with_reducible refine w_notV ?_ | with_reducible refine w_ifE ?_ | with_reducible refine w_chain ?_ | with_reducible refine w_i0 ?_
  | with_reducible refine w_call ?_ | with_reducible refine w_callS ?_ | with_reducible refine w_cB ?_ | with_reducible refine w_tup ?_ | with_reducible refine w_lst ?_ | with_reducible refine w_fldV ?_
  | with_reducible refine w_neF ?_ | with_reducible refine w_neT ?_ | with_reducible refine w_notN ?_ | with_reducible refine w_isN ?_ | with_reducible refine w_gname ?_ | with_reducible refine w_gsub ?_ | with_reducible refine w_asg ?_ | with_reducible refine w_sl ?_ | with_reducible refine w_noP ?_ | with_reducible refine w_int1 ?_ | with_reducible refine w_part ?_ | with_reducible refine w_yes ?_ | with_reducible refine w_nT ?_ | with_reducible refine w_nF ?_ | with_reducible refine w_iteT ?_ | with_reducible refine w_iteF ?_))
namespace K3
/-! ### tables that are the def's own -/
structure Mine (s : Addr) (H0 H : Hp) (p : Addr) (rs : List Addr) (t : List (List Int)) (m n : Nat) : Prop where
  tab : Tab H p rs t
  rect : Rect t m n
  nd : rs.Nodup
  ne : p ∉ rs
  fr : ∀ r ∈ rs, H0 r = none
  p0 : H0 p = none
  bm : BM [s] H0 H
  src : Src H s
  s0 : Src H0 s
theorem Mine.notS {s : Addr} {H0 H : Hp} {p : Addr} {rs : List Addr} {t : List (List Int)} {m n : Nat} (h : Mine s H0 H p rs t m n) : p ≠ s ∧ ∀ r ∈ rs, r ≠ s := ⟨src_ne h.s0 h.p0, fun r hr => src_ne h.s0 (h.fr r hr)⟩
theorem Tab.bm {s : Addr} {H H1 : Hp} {p : Addr} {rs : List Addr} {t : List (List Int)} (h : Tab H p rs t) (e : BM [s] H H1) (hp : p ≠ s) (hr : ∀ r ∈ rs, r ≠ s) : Tab H1 p rs t :=
  ⟨e.at h.at_ (by simpa using hp), paired_up h.rows fun r row hm z => e.at z (by simpa using hr r hm)⟩
theorem Mine.draw {s : Addr} {H0 H H1 : Hp} {p : Addr} {rs : List Addr} {t : List (List Int)} {m n : Nat} (h : Mine s H0 H p rs t m n) (e : BM [s] H H1) (q : Src H1 s) : Mine s H0 H1 p rs t m n :=
  ⟨h.tab.bm e h.notS.1 h.notS.2, h.rect, h.nd, h.ne, h.fr, h.p0, h.bm.trans e, q, h.s0⟩
theorem Mine.same {s : Addr} {H0 H H1 : Hp} {p : Addr} {rs : List Addr} {t : List (List Int)} {m n : Nat} (h : Mine s H0 H p rs t m n) (e : Same H H1) : Mine s H0 H1 p rs t m n := h.draw (BM.of e) (h.src.same e)
/-- one number of it set anew -/
theorem paired_set {α β : Type} {F G : α → β → Prop} : ∀ {xs : List α} {ys : List β}, Paired F xs ys → ∀ {i : Nat} {a : α} {b : β}, xs[i]? = some a → G a b → (∀ j x y, j ≠ i → xs[j]? = some x → F x y → G x y) → Paired G xs (ys.set i b)
  | _, _, .nil, i, a, b, h, _, _ => by simp at h
  | _, _, .cons (a := x) (b := y) h t, 0, a, b, e, hb, k => by
    have : x = a := by simpa using e
    subst this
    refine .cons hb ?_
    exact go t fun j x y hx z => k (j + 1) x y (by omega) (by simpa using hx) z
  | _, _, .cons (a := x) (b := y) h t, i + 1, a, b, e, hb, k => by
    refine .cons (k 0 x y (by omega) rfl h) ?_
    exact paired_set t (by simpa using e) hb fun j x y ne hx z => k (j + 1) x y (by omega) (by simpa using hx) z
where go {α β : Type} {F G : α → β → Prop} : ∀ {xs : List α} {ys : List β}, Paired F xs ys → (∀ (j : Nat) (x : α) (y : β), xs[j]? = some x → F x y → G x y) → Paired G xs ys
  | _, _, .nil, _ => .nil
  | _, _, .cons h t, k => .cons (k 0 _ _ rfl h) (go t fun j x y hx z => k (j + 1) x y (by simpa using hx) z)
theorem nodup_at {α : Type} : ∀ {l : List α}, l.Nodup → ∀ {i j : Nat} {a : α}, l[i]? = some a → l[j]? = some a → i = j
  | [], _, i, j, a, h, _ => by simp at h
  | x :: l, nd, 0, 0, a, _, _ => rfl
  | x :: l, nd, 0, j + 1, a, h, k => by
    have e : x = a := by simpa using h
    have m : a ∈ l := List.mem_of_getElem? (by simpa using k)
    rw [← e] at m
    exact absurd m (List.nodup_cons.mp nd).1
  | x :: l, nd, i + 1, 0, a, h, k => by
    have e : x = a := by simpa using k
    have m : a ∈ l := List.mem_of_getElem? (by simpa using h)
    rw [← e] at m
    exact absurd m (List.nodup_cons.mp nd).1
  | x :: l, nd, i + 1, j + 1, a, h, k => congrArg (· + 1) (nodup_at (List.nodup_cons.mp nd).2 (by simpa using h) (by simpa using k))
theorem Mine.put {s : Addr} {H0 H : Hp} {p : Addr} {rs : List Addr} {t : List (List Int)} {m n : Nat} (h : Mine s H0 H p rs t m n) {i j : Nat} {a : Addr} {r : List Int} (ha : rs[i]? = some a) (hr : t[i]? = some r) (x : Int) :
    Mine s H0 (upd H a (.lst ((r.set j x).map V.int))) p rs (t.set i (r.set j x)) m n := by
  have am : a ∈ rs := List.mem_of_getElem? ha
  have ap : a ≠ p := fun z => h.ne (by rw [← z]; exact am)
  refine ⟨⟨by rw [upd_ne ap.symm]; exact h.tab.at_, ?_⟩, ⟨by rw [List.length_set]; exact h.rect.1, ?_⟩, h.nd, h.ne, h.fr, h.p0, h.bm.mut (h.fr a am), h.src.upd (h.notS.2 a am) _, h.s0⟩
  · refine paired_set h.tab.rows ha upd_same fun k b row ne hb z => ?_
    show upd H a _ b = _
    rw [upd_ne (fun e => ne (nodup_at h.nd (by rw [e] at hb; exact hb) ha))]
    exact z
  · intro row hrow
    rcases List.mem_or_eq_of_mem_set hrow with z | z
    · exact h.rect.2 row z
    · rw [z, List.length_set]
      exact h.rect.2 r (List.mem_of_getElem? hr)
/-- a comprehension whose elements are new rows -/
theorem rows_new {K : PySem.W.Frag} {a D : Addr} {rs : List Addr} {t : List (List Int)} {te : TE} {vs : List Nat} {σ : L2.St} {j : Nat} {H1 : Hp} {Qd : Hp → Prop} (f : List Int → List Int) (ht : Tab H1 a rs t) (hlen : t.length ≤ 10000) (hD : H1 D = none) (hw : ∀ x, wipe ((wipe σ vs).set j (some x)) vs = wipe σ vs)
    (he : ∀ (b : Addr) (r : List Int) (H' : Hp), Same H1 H' → r ∈ t → RowAt H' b r → ∀ Q : VK, (∀ c H'', H' c = none → Same H' H'' → RowAt H'' c (f r) → Q (.ref c) H'') → te ((wipe σ vs).set j (some (.ref b))) H' Q)
    (hd : ∀ H' cs, Same H1 H' → Tab H' D cs (t.map f) → cs.Nodup → (∀ c ∈ cs, H1 c = none ∧ c ≠ D) → Qd H') : LcAt (Itl K a) D (gName j) tYes te vs σ H1 Qd := by
  have lr := ht.rows.length
  refine lc_list (xs := rs.map V.ref) (fun i H' => Same H1 H' ∧ ∃ cs : List Addr, H' D = some (.lst (cs.map V.ref)) ∧ Paired (RowAt H') cs ((t.take i).map f) ∧ cs.Nodup ∧ ∀ c ∈ cs, H1 c = none ∧ c ≠ D)
    ⟨Same.new hD _, [], upd_same, .nil, List.nodup_nil, fun c hc => (by cases hc)⟩ (fun i H' _ z => SqL.of (z.1 _ _ ht.at_)) ?_ ?_
  · rintro i x H2 hx ⟨e2, cs, hD2, hp2, nd, fr⟩
    obtain ⟨b, hb, rfl⟩ := map_ref hx
    obtain ⟨r, hr, hrb⟩ := K3.Paired.get ht.rows hb
    refine ⟨hw _, ?_⟩
    refine w_yes ?_
    refine iteT ?_
    refine he b r H2 e2 (List.mem_of_getElem? hr) (e2 _ _ hrb) _ fun c H3 hc e3 hcr => ?_
    have hD3 := e3 _ _ hD2
    have cD : c ≠ D := fun z => by rw [z, hD2] at hc; cases hc
    have lcs : cs.length ≤ 10000 := by rw [hp2.length, List.length_map, List.length_take]; omega
    refine ⟨_, hD3, Nat.lt_of_le_of_lt (show _ ≤ 10000 by rw [List.length_map]; exact lcs) (by decide), (e2.trans e3).mut hD, cs ++ [c], by rw [upd_same, List.map_append]; rfl, ?_, ?_, ?_⟩
    · rw [List.take_add_one, hr, List.map_append]
      refine K3.Paired.app (paired_up hp2 fun d row hd z => ?_) (.cons ?_ .nil)
      · show upd H3 D _ d = _
        rw [upd_ne (fr d hd).2]
        exact e3 _ _ z
      · show upd H3 D _ c = _
        rw [upd_ne cD]
        exact hcr
    · refine nodup_snoc nd fun z => ?_
      obtain ⟨row, hrow⟩ := paired_has hp2 z
      have hrow : H2 c = some _ := hrow
      rw [hc] at hrow
      cases hrow
    · intro d hd
      rcases List.mem_append.mp hd with hd | hd
      · exact fr d hd
      · rw [List.mem_singleton.mp hd]
        exact ⟨e2.free hc, cD⟩
  · rintro H2 ⟨e2, cs, hD2, hp2, nd, fr⟩
    rw [List.length_map, lr, List.take_length] at hp2
    exact hd H2 cs e2 ⟨hD2, hp2⟩ nd fr
theorem Mine.of {s : Addr} {H0 H1 H2 : Hp} {p : Addr} {cs : List Addr} {t : List (List Int)} {m n : Nat} (b : BM [s] H0 H1) (q0 : Src H0 s) (q : Src H1 s) (e : Same H1 H2) (hp : H1 p = none) (ht : Tab H2 p cs t) (hR : Rect t m n) (nd : cs.Nodup) (fr : ∀ c ∈ cs, H1 c = none ∧ c ≠ p) : Mine s H0 H2 p cs t m n :=
  ⟨ht, hR, nd, fun z => (fr p z).2 rfl, fun r hr => b.free (fr r hr).1, b.free hp, b.same e, q.same e, q0⟩
theorem rect_sums {t : List (List Int)} {m k : Nat} (h : Rect t m k) : Rect (withSums k t) (m + 1) (k + 1) := by
  unfold withSums
  refine ⟨by rw [List.length_append, List.length_map, h.1]; rfl, fun r hr => ?_⟩
  rcases List.mem_append.mp hr with hr | hr
  · obtain ⟨r', hr', rfl⟩ := List.mem_map.mp hr
    unfold addSum
    rw [List.length_append, h.2 r' hr']
    rfl
  · rw [List.mem_singleton.mp hr, List.length_map, List.length_range]
theorem w_par {ta : TA} {i j : Nat} {D : L2.Ends} {σ : L2.St} {H : Hp} (h : ta σ H fun vs H1 => ∃ v w, vs = [v, w] ∧ D.nx ((σ.set i (some v)).set j (some w)) H1) : tPar i j ta D σ H := h
theorem inc_go {K : PySem.W.Frag} {f : Int → Int → Int} {R I J U : Nat} {s : Addr} {H0 H : Hp} {p : Addr} {rs : List Addr} {t : List (List Int)} {m n i j : Nat} {x : Int} {σ : L2.St} {D : L2.Ends} (σR : σ[R]? = some (some (.ref p))) (σI : σ[I]? = some (some (.int (i : Int)))) (σJ : σ[J]? = some (some (.int (j : Int)))) (σU : σ[U]? = some (some (.int x)))
    (h : Mine s H0 H p rs t m n) (hi : i < m) (hj : j < n) (k : ∀ H' t', Mine s H0 H' p rs t' m n → D.nx σ H') :
    tAsg (tOp (rI0 fun i j => .int (f i j)) (tOp (rIxL K) (tOp (rIxL K) (tVar R) (tVar I)) (tVar J)) (tVar U)) (gSub (tOp (rIxL K) (tVar R) (tVar I)) (tVar J) rSetL) D σ H := by
  obtain ⟨a, r, ha, hr, hx⟩ := row_of h.tab (i := i) (by rw [h.rect.1]; exact hi)
  have lr : r.length = n := h.rect.2 r (List.mem_of_getElem? hr)
  refine w_asg (w_op (w_op (w_op (w_var σR (w_var σI (w_ixL h.tab.at_ (ref_at ha) ?_))))))
  refine w_var σJ (w_ixL hx (at_getD (by omega)) (w_var σU (w_i0 ?_)))
  refine w_gsub (w_op (w_var σR (w_var σI (w_ixL h.tab.at_ (ref_at ha) ?_))))
  refine w_var σJ (w_setL hx (j := j) ?_ ?_)
  · unfold ixN
    rw [if_pos (by omega), if_pos (by rw [List.length_map]; omega)]
    simp
  · rw [← List.map_set]
    exact k _ _ (h.put ha hr _)
def spSquare (K : PySem.W.Frag) : Sp := fun vs H Q _ => ∃ (s p : Addr) (rs : List Addr) (t : List (List Int)) (m n : Nat) (x : Int), vs = [.ref s, .ref p, .int x] ∧ Src H s ∧ Tab H p rs t ∧ (p ≠ s ∧ ∀ r ∈ rs, r ≠ s) ∧ Rect t m n ∧ 2 ≤ m ∧ 2 ≤ n ∧ m ≤ 50 ∧ n ≤ 50 ∧ ∀ p' H' rs' t', Mine s H H' p' rs' t' m n → Q (.ref p') H'
section
variable {P : Program} {w : World} {K : PySem.W.Frag} {mg : Str → Option Value} {base : Heap}
theorem sc_square : FnScope ["_law_rng_here", "_law_table", "_law_much", "_law_result", "_law_first", "_law_second", "_law_left", "_law_right", "_law_row"] ["_law_rng_here", "_law_table", "_law_much"] (defScope s__law_square) := ⟨rfl, rfl, rfl, by decide +kernel, rfl, by decide +kernel, by decide +kernel⟩
theorem ok_square (T : Tx K mg) : Ok P w K mg base 2 (He.ga K "_law_square") ["_law_rng_here", "_law_table", "_law_much"] (spSquare K) := by
  obtain ⟨fd, F⟩ := T.f__law_square
  have O_law_draw := ok_draw (P := P) (w := w) (base := base) T
  have O_law_with_sums := ok_ws (P := P) (w := w) (base := base) T
  refine ⟨fd, F.ok (k := 1) sc_square (fun vs H Q E h => ?_) (fun cdv A outer s_ H vs Q E hr h => ?_), F.bindsN fun _ _ _ _ _ _ us hl => match us, hl with | [_, _, _], _ => rfl, F.kp⟩
  · obtain ⟨s, p, rs, t, m, n, x, rfl, hs, ht, hns, hR, m2, n2, m50, n50, q⟩ := h
    rfl
  obtain ⟨s, p, rs, t, m, n, x, rfl, hs, ht, hns, hR, m2, n2, m50, n50, q⟩ := h
  have hu65 := K3.Room.units65 hr
  have hu64 := Nat.lt_of_succ_lt hu65
  have hu0 := Nat.lt_of_le_of_lt (Nat.le_add_right _ 65) hu65
  have r_law_draw : Room 1 _ := hr.mono (by decide)
  have r_law_with_sums : Room 1 _ := hr.mono (by decide)
  refine ⟨_, pss_cons (by exact ps_setLc (i := 3) (own := [("_law_row", 8)]) (g := gName 8) (tt := tYes) (te := (tCB (fun xs H Q => ∃ p ys, xs = [V.ref p] ∧ (SqL K H p ys ∨ SqT K H p ys) ∧ ∀ l, H l = none → Q (.ref l) (upd H l (.lst ys))) (tCons (tVar 8) tNil))) (by rfl) sc_square.nd rfl rfl (by rfl) (pi_list (pv 1)) (blkOk_by (own := [("_law_row", 8)]) (N := ["_law_rng_here", "_law_table", "_law_much", "_law_result", "_law_first", "_law_second", "_law_left", "_law_right", "_law_row"]) (sc := defScope s__law_square) (by decide +kernel)) (fun _ _ _ _ _ => (pg_name (i := 8) sc_square.nd rfl (Or.inl rfl))) (fun _ _ _ _ _ => pts_nil) (fun _ _ _ _ _ => (pe_callTy call_list_of (by rfl) T.z_list (by decide +kernel) (pa_cons (pv 8) pa_nil))))
      (pss_cons (ps_par (by rfl) sc_square.nd (i := 4) (j := 5) rfl rfl (by decide) rfl rfl (pa_cons (pe_f O_law_draw r_law_draw T.g__law_draw (pa_cons (pv 0) (pa_cons (pe_op op_sub (pe_callB call_len_seq (by rfl) T.z_len PySem.boot_len (pa_cons (pv 1) pa_nil)) pe_int) pa_nil))) (pa_cons (pe_f O_law_draw r_law_draw T.g__law_draw (pa_cons (pv 0) (pa_cons (pe_op op_sub (pe_callB call_len_seq (by rfl) T.z_len PySem.boot_len (pa_cons (pv 1) pa_nil)) pe_int) pa_nil))) pa_nil)) (by rfl))
      (pss_cons (ps_par (by rfl) sc_square.nd (i := 6) (j := 7) rfl rfl (by decide) rfl rfl (pa_cons (pe_f O_law_draw r_law_draw T.g__law_draw (pa_cons (pv 0) (pa_cons (pe_op op_sub (pe_callB call_len_seq (by rfl) T.z_len PySem.boot_len (pa_cons (pe_ix ix_list (pv 1) pe_int (fun _ _ => rfl)) pa_nil)) pe_int) pa_nil))) (pa_cons (pe_f O_law_draw r_law_draw T.g__law_draw (pa_cons (pv 0) (pa_cons (pe_op op_sub (pe_callB call_len_seq (by rfl) T.z_len PySem.boot_len (pa_cons (pe_ix ix_list (pv 1) pe_int (fun _ _ => rfl)) pa_nil)) pe_int) pa_nil))) pa_nil)) (by rfl))
      (pss_cons (ps_asg (pe_op op_add (pe_ix ix_list (pe_ix ix_list (pv 3) (pv 4) (fun _ _ => rfl)) (pv 6) (fun _ _ => rfl)) (pv 2)) (pg_sub (pe_ix ix_list (pv 3) (pv 4) (fun _ _ => rfl)) (pv 6) set_list))
      (pss_cons (ps_asg (pe_op op_sub (pe_ix ix_list (pe_ix ix_list (pv 3) (pv 5) (fun _ _ => rfl)) (pv 7) (fun _ _ => rfl)) (pv 2)) (pg_sub (pe_ix ix_list (pv 3) (pv 5) (fun _ _ => rfl)) (pv 7) set_list))
      (pss_cons (ps_if (pw_and (pt_cmpR op_eq (pv 4) (pv 5) (nomark _)) (pw_and1 (pt_cmpR op_eq (pv 6) (pv 7) (nomark _)))).pt (pss_one (ps_ret (pv 3))) pss_nil)
      (pss_cons (ps_if (pt_cmpR op_eq (pv 4) (pv 5) (nomark _)) (pss_one (ps_ret (pe_f O_law_with_sums r_law_with_sums T.g__law_with_sums (pa_cons (by exact pe_lc (own := [("_law_row", 8)]) (g := gName 8) (tt := tYes) (te := (tSl (rSlL K) (tVar 8) tNoPart (tPart (tUn (rU fun i => .int (-i)) (tC (.int 1)))))) (by rfl) sc_square.nd (pi_list (pe_slice sl_list (pv 3) po_none (po_some (pe_un un_neg pe_int)))) (blkOk_by (own := [("_law_row", 8)]) (N := ["_law_rng_here", "_law_table", "_law_much", "_law_result", "_law_first", "_law_second", "_law_left", "_law_right", "_law_row"]) (sc := defScope s__law_square) (by decide +kernel)) (fun _ _ _ _ _ => (pg_name (i := 8) sc_square.nd rfl (Or.inl rfl))) (fun _ _ _ _ _ => pts_nil) (fun _ _ _ _ _ => (pe_slice sl_list (pv 8) po_none (po_some (pe_un un_neg pe_int))))) pa_nil)))) pss_nil)
      (pss_cons (ps_if (pw_or (pt_cmpR op_eq (pv 6) (pv 7) (nomark _)) (pw_or1 (pt_cmpR op_eq (pe_f O_law_draw r_law_draw T.g__law_draw (pa_cons (pv 0) (pa_cons pe_int pa_nil))) pe_int (nomark _)))).pt (pss_one (ps_ret (pe_f O_law_with_sums r_law_with_sums T.g__law_with_sums (pa_cons (by exact pe_lc (own := [("_law_row", 8)]) (g := gName 8) (tt := tYes) (te := (tSl (rSlL K) (tVar 8) tNoPart (tPart (tUn (rU fun i => .int (-i)) (tC (.int 1)))))) (by rfl) sc_square.nd (pi_list (pe_slice sl_list (pv 3) po_none (po_some (pe_un un_neg pe_int)))) (blkOk_by (own := [("_law_row", 8)]) (N := ["_law_rng_here", "_law_table", "_law_much", "_law_result", "_law_first", "_law_second", "_law_left", "_law_right", "_law_row"]) (sc := defScope s__law_square) (by decide +kernel)) (fun _ _ _ _ _ => (pg_name (i := 8) sc_square.nd rfl (Or.inl rfl))) (fun _ _ _ _ _ => pts_nil) (fun _ _ _ _ _ => (pe_slice sl_list (pv 8) po_none (po_some (pe_un un_neg pe_int))))) pa_nil)))) pss_nil)
      (pss_cons (ps_asg (pe_op op_sub (pe_ix ix_list (pe_ix ix_list (pv 3) (pv 4) (fun _ _ => rfl)) (pv 7) (fun _ _ => rfl)) (pv 2)) (pg_sub (pe_ix ix_list (pv 3) (pv 4) (fun _ _ => rfl)) (pv 7) set_list))
      (pss_cons (ps_asg (pe_op op_add (pe_ix ix_list (pe_ix ix_list (pv 3) (pv 5) (fun _ _ => rfl)) (pv 6) (fun _ _ => rfl)) (pv 2)) (pg_sub (pe_ix ix_list (pv 3) (pv 5) (fun _ _ => rfl)) (pv 6) set_list))
      (pss_one (ps_ret (pv 3)))))))))))), ?_⟩
  have lm : t.length = m := hR.1
  have lr := ht.rows.length
  walk_at "go"
  refine lcAt_open ?_
  refine list_open ?_
  walk_at "go"
  refine ⟨p, rfl, ⟨_, SqL.of ht.at_⟩, fun D hD => ?_⟩
  refine rows_new (fun r => r) ht (by omega) hD (fun x => rfl) ?_ ?_
  · intro b r H1 e1 hr hb Q q
    walk_at "go"
    refine ⟨b, _, rfl, .inl (SqL.of hb), fun l hl => ?_⟩
    exact q l _ hl (Same.new hl _) upd_same
  intro H1 cs e1 hT1 nd1 fr1
  rw [List.map_id'] at hT1
  have mine1 : Mine s H H1 D cs t m n := Mine.of (BM.refl _ _) hs hs e1 hD hT1 hR nd1 fr1
  walk_at "go"
  refine w_par ?_
  walk_at "go"
  obtain ⟨a0, r0, ha0, hr0, hx0⟩ := row_of ht (i := 0) (by omega)
  have ln : r0.length = n := hR.2 _ (List.mem_of_getElem? hr0)
  have hT := ht.same e1
  have hs1 := hs.same e1
  refine ⟨p, _, rfl, .inl (SqL.of hT.at_), ?_⟩
  rw [List.length_map, lr, lm]
  walk_at "go"
  refine ⟨s, _, rfl, hs1, by omega, by omega, fun i H2 i0 i1 b2 s2 => ?_⟩
  obtain ⟨i, rfl⟩ : ∃ k : Nat, i = (k : Int) := ⟨i.toNat, by omega⟩
  have mine2 := mine1.draw b2 s2
  have hT := hT.bm b2 hns.1 hns.2
  walk_at "go"
  refine ⟨p, _, rfl, .inl (SqL.of hT.at_), ?_⟩
  rw [List.length_map, lr, lm]
  walk_at "go"
  refine ⟨s, _, rfl, s2, by omega, by omega, fun j H3 j0 j1 b3 s3 => ?_⟩
  obtain ⟨j, rfl⟩ : ∃ k : Nat, j = (k : Int) := ⟨j.toNat, by omega⟩
  have mine3 := mine2.draw b3 s3
  have hT := hT.bm b3 hns.1 hns.2
  refine ⟨_, _, rfl, ?_⟩
  walk_at "go"
  refine w_par ?_
  walk_at "go"
  refine w_ixL hT.at_ (ref_at (i := 0) ha0) ?_
  walk_at "go"
  obtain ⟨a0', r0', ha0', hr0', hx3⟩ := row_of hT (i := 0) (by omega)
  obtain rfl : a0 = a0' := Option.some.inj (ha0.symm.trans ha0')
  obtain rfl : r0 = r0' := Option.some.inj (hr0.symm.trans hr0')
  refine ⟨a0, _, rfl, .inl (SqL.of hx3), ?_⟩
  rw [List.length_map, ln]
  walk_at "go"
  refine ⟨s, _, rfl, s3, by omega, by omega, fun i2 H4 i20 i21 b4 s4 => ?_⟩
  obtain ⟨i2, rfl⟩ : ∃ k : Nat, i2 = (k : Int) := ⟨i2.toNat, by omega⟩
  have mine4 := mine3.draw b4 s4
  have hT := hT.bm b4 hns.1 hns.2
  walk_at "go"
  refine w_ixL hT.at_ (ref_at (i := 0) ha0) ?_
  walk_at "go"
  have hx4 := b4.at hx3 (by simpa using hns.2 a0 (List.mem_of_getElem? ha0))
  refine ⟨a0, _, rfl, .inl (SqL.of hx4), ?_⟩
  rw [List.length_map, ln]
  walk_at "go"
  refine ⟨s, _, rfl, s4, by omega, by omega, fun j2 H5 j20 j21 b5 s5 => ?_⟩
  obtain ⟨j2, rfl⟩ : ∃ k : Nat, j2 = (k : Int) := ⟨j2.toNat, by omega⟩
  have mine5 := mine4.draw b5 s5
  refine ⟨_, _, rfl, ?_⟩
  refine w_seq (inc_go (f := fun a b => a + b) (R := 3) (I := 4) (J := 6) (U := 2) rfl rfl rfl rfl mine5 (i := i) (j := i2) (by omega) (by omega) fun H6 t6 mine6 => ?_)
  refine w_seq (inc_go (f := fun a b => a - b) (R := 3) (I := 5) (J := 7) (U := 2) rfl rfl rfl rfl mine6 (i := j) (j := j2) (by omega) (by omega) fun H7 t7 mine7 => ?_)
  have sums : ∀ (H8 : Hp) (t8 : List (List Int)) (Q8 : VK), Mine s H H8 D cs t8 m n → (∀ p' H' rs' t', Mine s H H' p' rs' t' m n → Q8 (.ref p') H') → (tCall (spWS K) [] E0 (tCons (tLc (iList K (tSl (rSlL K) (tVar 3) tNoPart (tPart (tUn (rU fun i => .int (-i)) (tC (.int 1)))))) (gName 8) tYes (tSl (rSlL K) (tVar 8) tNoPart (tPart (tUn (rU fun i => .int (-i)) (tC (.int 1))))) [8]) tNil)) [some (.ref s), some (.ref p), some (.int x), some (.ref D), some (.int (i : Int)), some (.int (j : Int)), some (.int (i2 : Int)), some (.int (j2 : Int)), none] H8 Q8 := by
    intro H8 t8 Q8 mine8 q8
    walk_at "go"
    refine lcAt_open ?_
    refine list_open ?_
    walk_at "go"
    refine ⟨1, rfl, ?_⟩
    walk_at "go"
    refine ⟨D, _, rfl, SqL.of mine8.tab.at_, fun l9 hl9 => ?_⟩
    rw [cut_last]
    have e9 := Same.new hl9 (.lst (cs.map V.ref).dropLast)
    have mine9 := mine8.same e9
    have ht9 : Tab (upd H8 l9 (.lst (cs.map V.ref).dropLast)) l9 cs.dropLast t8.dropLast := ⟨by rw [upd_same, List.map_dropLast], paired_drop mine9.tab.rows⟩
    refine ⟨l9, rfl, ⟨_, SqL.of ht9.at_⟩, fun D9 hD9 => ?_⟩
    have l8 := mine8.rect.1
    refine rows_new (fun r => r.dropLast) ht9 (by rw [List.length_dropLast]; omega) hD9 (fun x => rfl) ?_ ?_
    · intro b r H10 e10 hr hb Q q
      walk_at "go"
      refine ⟨1, rfl, ?_⟩
      walk_at "go"
      refine ⟨b, _, rfl, SqL.of hb, fun l hl => ?_⟩
      rw [cut_last]
      refine q l _ hl (Same.new hl _) ?_
      show upd H10 l _ l = _
      rw [upd_same, List.map_dropLast]
    · intro H10 cs10 e10 hT10 nd10 fr10
      have rect10 : Rect (t8.dropLast.map fun r => r.dropLast) (m - 1) (n - 1) := by
        refine ⟨by rw [List.length_map, List.length_dropLast, l8], fun r hr => ?_⟩
        obtain ⟨r', hr', rfl⟩ := List.mem_map.mp hr
        rw [List.length_dropLast, mine8.rect.2 r' (List.dropLast_subset _ hr')]
      refine ⟨D9, cs10, _, n - 1, rfl, hT10, rect10.2, fun z => ?_, by rw [rect10.1]; omega, by omega, fun p' H' rs' e11 new11 hT11 => ?_⟩
      · have := rect10.1
        rw [z] at this
        simp at this
        omega
      · have e811 := e9.trans (e10.trans e11)
        have rs11 := rect_sums rect10
        rw [show m - 1 + 1 = m by omega, show n - 1 + 1 = n by omega] at rs11
        have e810 := e9.trans e10
        exact q8 p' H' rs' _ (Mine.of (mine8.bm.same e810) hs (mine8.src.same e810) e11 new11.p0 hT11 rs11 new11.nd fun c hc => ⟨new11.rs0 c hc, fun z => new11.ne (by rw [← z]; exact hc)⟩)
  have fin : ∀ (H8 : Hp) (t8 : List (List Int)), Mine s H H8 D cs t8 m n → Q (.ref D) H8 := fun H8 t8 h => q D H8 cs t8 h
  walk_at "go"
  refine w_eqI ?_
  rw [decV]
  walk_at "go"
  by_cases c1 : (i : Int) = (j : Int)
  · rw [decide_eq_true c1]
    walk_at "go"
    refine w_eqI ?_
    rw [decV]
    walk_at "go"
    by_cases c2 : (i2 : Int) = (j2 : Int)
    · rw [decide_eq_true c2]
      walk_at "go"
      exact fin _ _ mine7
    · rw [decide_eq_false c2]
      walk_at "go"
      refine w_eqI ?_
      rw [decV, decide_eq_true c1]
      walk_at "go"
      exact sums H7 t7 _ mine7 q
  · rw [decide_eq_false c1]
    walk_at "go"
    refine w_eqI ?_
    rw [decV, decide_eq_false c1]
    walk_at "go"
    refine w_eqI ?_
    rw [decV]
    walk_at "go"
    by_cases c2 : (i2 : Int) = (j2 : Int)
    · rw [decide_eq_true c2]
      walk_at "go"
      exact sums H7 t7 _ mine7 q
    · rw [decide_eq_false c2]
      walk_at "go"
      refine ⟨s, 2, rfl, mine7.src, by decide, by decide, fun z H8 _ _ b8 s8 => ?_⟩
      have mine8 := mine7.draw b8 s8
      walk_at "go"
      refine w_eqI ?_
      rw [decV]
      walk_at "go"
      by_cases c3 : z = 0
      · rw [decide_eq_true c3]
        walk_at "go"
        exact sums H8 t7 _ mine8 q
      · rw [decide_eq_false c3]
        refine w_seq (inc_go (f := fun a b => a - b) (R := 3) (I := 4) (J := 7) (U := 2) rfl rfl rfl rfl mine8 (i := i) (j := j2) (by omega) (by omega) fun H9 t9 mine9 => ?_)
        refine w_seq (inc_go (f := fun a b => a + b) (R := 3) (I := 5) (J := 6) (U := 2) rfl rfl rfl rfl mine9 (i := j) (j := i2) (by omega) (by omega) fun H10 t10 mine10 => ?_)
        walk_at "go"
        exact fin _ _ mine10
end
end K3
end L14_part
section L15_part
set_option Elab.async false
set_option linter.all false
set_option maxRecDepth 100000
set_option maxHeartbeats 1000000
set_option pp.deepTerms.threshold 5
open PySem PySem.Spec PyProof.Rows L2
/-- go on as far as nothing is open -/
local macro_rules | `(tactic| walk_at "go") => `(tactic| repeat (first
  | with_reducible refine w_seq ?_ | with_reducible refine w_next ?_ | with_reducible refine w_set ?_ | with_reducible refine w_drop ?_ | with_reducible refine w_ret ?_ | with_reducible refine w_retN ?_
  | with_reducible refine w_if ?_ | ((with_reducible refine' w_var ?hv ?_); (case hv => exact rfl)) | with_reducible refine w_c ?_ | with_reducible refine w_nil ?_ | with_reducible refine w_cons ?_ | with_reducible refine w_op ?_ | with_reducible refine w_un ?_
  | with_reducible refine w_test ?_ | with_reducible refine w_tB ?_ | with_reducible refine w_not ?_ | with_reducible refine w_and ?_ | with_reducible refine w_or ?_ | with_reducible refine w_bl ?_
  | with_reducible refine w_andV ?_ | with_reducible refine w_orV ?_ | with_reducible refine w_notV ?_ | with_reducible refine w_ifE ?_ | with_reducible refine w_chain ?_ | with_reducible refine w_i0 ?_
  | with_reducible refine w_call ?_ | with_reducible refine w_callS ?_ | with_reducible refine w_cB ?_ | with_reducible refine w_tup ?_ | with_reducible refine w_lst ?_ | with_reducible refine w_fldV ?_
  | with_reducible refine w_neF ?_ | with_reducible refine w_neT ?_ | with_reducible refine w_notN ?_ | with_reducible refine w_isN ?_ | with_reducible refine w_gname ?_ | with_reducible refine w_gsub ?_ | with_reducible refine w_asg ?_ | with_reducible refine w_sl ?_ | with_reducible refine w_noP ?_ | with_reducible refine w_int1 ?_ | with_reducible refine w_part ?_ | with_reducible refine w_yes ?_ | with_reducible refine w_nT ?_ | with_reducible refine w_nF ?_ | with_reducible refine w_iteT ?_ | with_reducible refine w_iteF ?_))
namespace K3
theorem inc2 {K : PySem.W.Frag} {f : Int → Int → Int} {R : Nat} {ei ej eu : TE} {s : Addr} {H0 H : Hp} {p : Addr} {rs : List Addr} {t : List (List Int)} {m n i j : Nat} {σ : L2.St} {D : L2.Ends} (σR : σ[R]? = some (some (.ref p)))
    (hei : ∀ H' t' (Q : VK), Mine s H0 H' p rs t' m n → Q (.int (i : Int)) H' → ei σ H' Q) (hej : ∀ H' t' (Q : VK), Mine s H0 H' p rs t' m n → Q (.int (j : Int)) H' → ej σ H' Q)
    (heu : ∀ H' t' (Q : VK), Mine s H0 H' p rs t' m n → (∀ x H'', Mine s H0 H'' p rs t' m n → Q (.int x) H'') → eu σ H' Q)
    (h : Mine s H0 H p rs t m n) (hi : i < m) (hj : j < n) (k : ∀ H' t', Mine s H0 H' p rs t' m n → D.nx σ H') :
    tAsg (tOp (rI0 fun i j => .int (f i j)) (tOp (rIxL K) (tOp (rIxL K) (tVar R) ei) ej) eu) (gSub (tOp (rIxL K) (tVar R) ei) ej rSetL) D σ H := by
  obtain ⟨a, r, ha, hr, hx⟩ := row_of h.tab (i := i) (by rw [h.rect.1]; exact hi)
  have lr : r.length = n := h.rect.2 r (List.mem_of_getElem? hr)
  refine w_asg (w_op (w_op (w_op (w_var σR (hei H t _ h (w_ixL h.tab.at_ (ref_at ha) ?_))))))
  refine hej H t _ h (w_ixL hx (at_getD (by omega)) (heu H t _ h fun x H2 h2 => w_i0 ?_))
  obtain ⟨a', r', ha', hr', hx2⟩ := row_of h2.tab (i := i) (by rw [h2.rect.1]; exact hi)
  obtain rfl : a = a' := Option.some.inj (ha.symm.trans ha')
  obtain rfl : r = r' := Option.some.inj (hr.symm.trans hr')
  refine w_gsub (w_op (w_var σR (hei H2 t _ h2 (w_ixL h2.tab.at_ (ref_at ha) ?_))))
  refine hej H2 t _ h2 (w_setL hx2 (j := j) ?_ ?_)
  · unfold ixN
    rw [if_pos (by omega), if_pos (by rw [List.length_map]; omega)]
    simp
  · rw [← List.map_set]
    exact k _ _ (h2.put ha hr _)
theorem paired_from {α β : Type} {F : α → β → Prop} : ∀ {xs : List α} {ys : List β}, Paired F xs ys → ∀ k, Paired F (xs.drop k) (ys.drop k)
  | _, _, .nil, k => by rw [List.drop_nil, List.drop_nil]; exact .nil
  | _, _, .cons h t, 0 => .cons h t
  | _, _, .cons h t, k + 1 => paired_from t k
theorem min_at {i j : Int} {H : Hp} : ∀ {Q : VK}, Q (.int (if j < i then j else i)) H → Q (.int (if j < i then j else i)) H := fun h => h
def spBroken (K : PySem.W.Frag) : Sp := fun vs H Q _ => ∃ (s g p : Addr) (rs rs' : List Addr) (t u : List (List Int)) (m n : Nat), vs = [.ref s, .ref g, .ref p] ∧ Src H s ∧ Tab H g rs t ∧ (g ≠ s ∧ ∀ r ∈ rs, r ≠ s) ∧ Rect t m n ∧ Tab H p rs' u ∧ (p ≠ s ∧ ∀ r ∈ rs', r ≠ s) ∧ Rect u m n ∧ 2 ≤ m ∧ 2 ≤ n ∧ m ≤ 50 ∧ n ≤ 50 ∧
  ∀ p' H' rs' t' m' n', BM [s] H H' → Src H' s → Tab H' p' rs' t' → Rect t' m' n' → 1 ≤ m' → 1 ≤ n' → m' ≤ 60 → n' ≤ 60 → Q (.ref p') H'
section
variable {P : Program} {w : World} {K : PySem.W.Frag} {mg : Str → Option Value} {base : Heap}
theorem sc_broken : FnScope ["_law_rng_here", "_law_grid", "_law_table", "_law_row", "_law_result", "_law_column", "_law_other", "_law_way", "_law_cells_here", "_law_line", "_law_number"] ["_law_rng_here", "_law_grid", "_law_table"] (defScope s__law_broken) := ⟨rfl, rfl, rfl, by decide +kernel, rfl, by decide +kernel, by decide +kernel⟩
theorem ok_broken (T : Tx K mg) : Ok P w K mg base 3 (He.ga K "_law_broken") ["_law_rng_here", "_law_grid", "_law_table"] (spBroken K) := by
  obtain ⟨fd, F⟩ := T.f__law_broken
  have O_law_pick := ok_pick (P := P) (w := w) (base := base) T
  have O_law_with_sums := ok_ws (P := P) (w := w) (base := base) T
  have O_law_square := ok_square (P := P) (w := w) (base := base) T
  have O_law_draw := ok_draw (P := P) (w := w) (base := base) T
  refine ⟨fd, F.ok (k := 2) sc_broken (fun vs H Q E h => ?_) (fun cdv A outer s_ H vs Q E hr h => ?_), F.bindsN fun _ _ _ _ _ _ us hl => match us, hl with | [_, _, _], _ => rfl, F.kp⟩
  · obtain ⟨s, g, p, rs, rs', t, u, m, n, rfl, hs, ht, hns, hR, hu, hnu, hU, m2, n2, m50, n50, q⟩ := h
    rfl
  obtain ⟨s, g, p, rs, rs', t, u, m, n, rfl, hs, ht, hns, hR, hu, hnu, hU, m2, n2, m50, n50, q⟩ := h
  have hu65 := K3.Room.units65 hr
  have hu64 := Nat.lt_of_succ_lt hu65
  have hu0 := Nat.lt_of_le_of_lt (Nat.le_add_right _ 65) hu65
  have r_law_pick : Room 2 _ := hr.mono (by decide)
  have r_law_with_sums : Room 1 _ := hr.mono (by decide)
  have r_law_square : Room 2 _ := hr.mono (by decide)
  have r_law_draw : Room 1 _ := hr.mono (by decide)
  refine ⟨_, pss_cons (by exact ps_setLc (i := 4) (own := [("_law_row", 3)]) (g := gName 3) (tt := tYes) (te := (tCB (fun xs H Q => ∃ p ys, xs = [V.ref p] ∧ (SqL K H p ys ∨ SqT K H p ys) ∧ ∀ l, H l = none → Q (.ref l) (upd H l (.lst ys))) (tCons (tVar 3) tNil))) (by rfl) sc_broken.nd rfl rfl (by rfl) (pi_list (pv 2)) (blkOk_by (own := [("_law_row", 3)]) (N := ["_law_rng_here", "_law_grid", "_law_table", "_law_row", "_law_result", "_law_column", "_law_other", "_law_way", "_law_cells_here", "_law_line", "_law_number"]) (sc := defScope s__law_broken) (by decide +kernel)) (fun _ _ _ _ _ => (pg_name (i := 3) sc_broken.nd rfl (Or.inl rfl))) (fun _ _ _ _ _ => pts_nil) (fun _ _ _ _ _ => (pe_callTy call_list_of (by rfl) T.z_list (by decide +kernel) (pa_cons (pv 3) pa_nil))))
      (pss_cons (ps_par (by rfl) sc_broken.nd (i := 3) (j := 5) rfl rfl (by decide) rfl rfl (pa_cons (pe_f O_law_draw r_law_draw T.g__law_draw (pa_cons (pv 0) (pa_cons (pe_callB call_len_seq (by rfl) T.z_len PySem.boot_len (pa_cons (pv 1) pa_nil)) pa_nil))) (pa_cons (pe_f O_law_draw r_law_draw T.g__law_draw (pa_cons (pv 0) (pa_cons (pe_callB call_len_seq (by rfl) T.z_len PySem.boot_len (pa_cons (pe_ix ix_list (pv 1) pe_int (fun _ _ => rfl)) pa_nil)) pa_nil))) pa_nil)) (by rfl))
      (pss_cons (ps_set (i := 6) sc_broken.nd rfl (Or.inl rfl) (pe_f O_law_draw r_law_draw T.g__law_draw (pa_cons (pv 0) (pa_cons (pe_callB (call_max2 (by rfl)) (by rfl) T.z_max (by decide +kernel) (pa_cons pe_int (pa_cons (pe_op op_sub (pe_callB call_len_seq (by rfl) T.z_len PySem.boot_len (pa_cons (pe_ix ix_list (pv 1) pe_int (fun _ _ => rfl)) pa_nil)) pe_int) pa_nil))) pa_nil))))
      (pss_cons (ps_set (i := 7) sc_broken.nd rfl (Or.inl rfl) (pe_f O_law_draw r_law_draw T.g__law_draw (pa_cons (pv 0) (pa_cons pe_int pa_nil))))
      (Evl.pss_cut (ps_if (pt_cmpR op_eq (pv 7) pe_int (nomark _)) (pss_one (ps_asg (pe_op op_add (pe_ix ix_list (pe_ix ix_list (pv 4) (pv 3) (fun _ _ => rfl)) (pv 5) (fun _ _ => rfl)) (pe_f O_law_pick r_law_pick T.g__law_pick (pa_cons (pv 0) (pa_cons (pe_lst (pa_cons pe_int (pa_cons (pe_un un_neg pe_int) (pa_cons pe_int pa_nil)))) pa_nil)))) (pg_sub (pe_ix ix_list (pv 4) (pv 3) (fun _ _ => rfl)) (pv 5) set_list))) pss_nil)
      (Evl.pss_cut (ps_if (pw_and (pt_cmpR op_eq (pv 7) pe_int (nomark _)) (pw_and1 (pt_cmpR op_lt (pv 5) (pe_op op_sub (pe_callB call_len_seq (by rfl) T.z_len PySem.boot_len (pa_cons (pe_ix ix_list (pv 1) pe_int (fun _ _ => rfl)) pa_nil)) pe_int) (nomark _)))).pt (pss_cons (ps_asg (pe_op op_add (pe_ix ix_list (pe_ix ix_list (pv 4) (pv 3) (fun _ _ => rfl)) (pv 5) (fun _ _ => rfl)) pe_int) (pg_sub (pe_ix ix_list (pv 4) (pv 3) (fun _ _ => rfl)) (pv 5) set_list))
      (pss_one (ps_asg (pe_op op_sub (pe_ix ix_list (pe_ix ix_list (pv 4) (pv 3) (fun _ _ => rfl)) (pv 6) (fun _ _ => rfl)) pe_int) (pg_sub (pe_ix ix_list (pv 4) (pv 3) (fun _ _ => rfl)) (pv 6) set_list)))) pss_nil)
      (Evl.pss_cut (ps_if (pt_cmpR op_eq (pv 7) pe_int (nomark _)) (pss_cons (ps_set (i := 6) sc_broken.nd rfl (Or.inl rfl) (pe_f O_law_draw r_law_draw T.g__law_draw (pa_cons (pv 0) (pa_cons (pe_callB (call_max2 (by rfl)) (by rfl) T.z_max (by decide +kernel) (pa_cons pe_int (pa_cons (pe_op op_sub (pe_callB call_len_seq (by rfl) T.z_len PySem.boot_len (pa_cons (pv 1) pa_nil)) pe_int) pa_nil))) pa_nil))))
      (pss_cons (ps_asg (pe_op op_add (pe_ix ix_list (pe_ix ix_list (pv 4) (pe_callB (call_min2 (by rfl)) (by rfl) T.z_min (by decide +kernel) (pa_cons (pv 3) (pa_cons (pe_op op_sub (pe_callB call_len_seq (by rfl) T.z_len PySem.boot_len (pa_cons (pv 1) pa_nil)) pe_int) pa_nil))) (fun _ _ => rfl)) (pv 5) (fun _ _ => rfl)) pe_int) (pg_sub (pe_ix ix_list (pv 4) (pe_callB (call_min2 (by rfl)) (by rfl) T.z_min (by decide +kernel) (pa_cons (pv 3) (pa_cons (pe_op op_sub (pe_callB call_len_seq (by rfl) T.z_len PySem.boot_len (pa_cons (pv 1) pa_nil)) pe_int) pa_nil))) (fun _ _ => rfl)) (pv 5) set_list))
      (pss_one (ps_asg (pe_op op_sub (pe_ix ix_list (pe_ix ix_list (pv 4) (pv 6) (fun _ _ => rfl)) (pv 5) (fun _ _ => rfl)) pe_int) (pg_sub (pe_ix ix_list (pv 4) (pv 6) (fun _ _ => rfl)) (pv 5) set_list))))) pss_nil)
      (pss_cons (ps_if (pt_cmpR op_eq (pv 7) pe_int (nomark _)) (pss_one (ps_ret (pe_f O_law_square r_law_square T.g__law_square (pa_cons (pv 0) (pa_cons (pv 2) (pa_cons (pe_op op_pow pe_int pe_int) pa_nil)))))) pss_nil)
      (pss_cons (ps_if (pt_cmpR op_eq (pv 7) pe_int (nomark _)) (pss_one (ps_ret (pe_f O_law_square r_law_square T.g__law_square (pa_cons (pv 0) (pa_cons (pv 2) (pa_cons (pe_f O_law_pick r_law_pick T.g__law_pick (pa_cons (pv 0) (pa_cons (pe_lst (pa_cons pe_int (pa_cons (pe_un un_neg pe_int) pa_nil))) pa_nil))) pa_nil)))))) pss_nil)
      (pss_cons (ps_if (pt_cmpR op_eq (pv 7) pe_int (nomark _)) (pss_cons (by exact ps_setLc (i := 8) (own := [("_law_line", 9)]) (g := gName 9) (tt := tYes) (te := (tSl (rSlL K) (tVar 9) tNoPart (tPart (tUn (rU fun i => .int (-i)) (tC (.int 1)))))) (by rfl) sc_broken.nd rfl rfl (by rfl) (pi_list (pe_slice sl_list (pv 4) po_none (po_some (pe_un un_neg pe_int)))) (blkOk_by (own := [("_law_line", 9)]) (N := ["_law_rng_here", "_law_grid", "_law_table", "_law_row", "_law_result", "_law_column", "_law_other", "_law_way", "_law_cells_here", "_law_line", "_law_number"]) (sc := defScope s__law_broken) (by decide +kernel)) (fun _ _ _ _ _ => (pg_name (i := 9) sc_broken.nd rfl (Or.inl rfl))) (fun _ _ _ _ _ => pts_nil) (fun _ _ _ _ _ => (pe_slice sl_list (pv 9) po_none (po_some (pe_un un_neg pe_int)))))
      (pss_cons (ps_asg (pe_op op_add (pe_ix ix_list (pe_ix ix_list (pv 8) (pe_callB (call_min2 (by rfl)) (by rfl) T.z_min (by decide +kernel) (pa_cons (pv 3) (pa_cons (pe_op op_sub (pe_callB call_len_seq (by rfl) T.z_len PySem.boot_len (pa_cons (pv 8) pa_nil)) pe_int) pa_nil))) (fun _ _ => rfl)) (pv 6) (fun _ _ => rfl)) pe_int) (pg_sub (pe_ix ix_list (pv 8) (pe_callB (call_min2 (by rfl)) (by rfl) T.z_min (by decide +kernel) (pa_cons (pv 3) (pa_cons (pe_op op_sub (pe_callB call_len_seq (by rfl) T.z_len PySem.boot_len (pa_cons (pv 8) pa_nil)) pe_int) pa_nil))) (fun _ _ => rfl)) (pv 6) set_list))
      (pss_one (ps_ret (pe_f O_law_with_sums r_law_with_sums T.g__law_with_sums (pa_cons (pv 8) pa_nil)))))) pss_nil)
      (pss_cons (ps_if (pt_cmpR op_eq (pv 7) pe_int (nomark _)) (pss_one (ps_ret (pe_f O_law_with_sums r_law_with_sums T.g__law_with_sums (pa_cons (by exact pe_lc (own := [("_law_line", 9)]) (g := gName 9) (tt := tYes) (te := (tLc (iList K (tSl (rSlL K) (tVar 9) tNoPart (tPart (tUn (rU fun i => .int (-i)) (tC (.int 1)))))) (gName 10) tYes (tOp (rI CMul fun i j => .int (i * j)) (tC (.int 2)) (tVar 10)) [10])) (by rfl) sc_broken.nd (pi_list (pe_slice sl_list (pv 4) po_none (po_some (pe_un un_neg pe_int)))) (blkOk_by (own := [("_law_line", 9)]) (N := ["_law_rng_here", "_law_grid", "_law_table", "_law_row", "_law_result", "_law_column", "_law_other", "_law_way", "_law_cells_here", "_law_line", "_law_number"]) (sc := defScope s__law_broken) (by decide +kernel)) (fun _ _ _ _ _ => (pg_name (i := 9) sc_broken.nd rfl (Or.inl rfl))) (fun _ _ _ _ _ => pts_nil) (fun _ _ _ _ _ => (by exact pe_lc (own := [("_law_number", 10)]) (g := gName 10) (tt := tYes) (te := (tOp (rI CMul fun i j => .int (i * j)) (tC (.int 2)) (tVar 10))) (by rfl) sc_broken.nd (pi_list (pe_slice sl_list (pv 9) po_none (po_some (pe_un un_neg pe_int)))) (blkOk_by (own := [("_law_number", 10)]) (N := ["_law_rng_here", "_law_grid", "_law_table", "_law_row", "_law_result", "_law_column", "_law_other", "_law_way", "_law_cells_here", "_law_line", "_law_number"]) (sc := { kind := .function, names := [(".0", .local), ("_law_line", .local)], isGenerator := false, isCoroutine := false }) (by decide +kernel)) (fun _ _ _ _ _ => (pg_name (i := 10) sc_broken.nd rfl (Or.inl rfl))) (fun _ _ _ _ _ => pts_nil) (fun _ _ _ _ _ => (pe_op op_mul pe_int (pv 10)))))) pa_nil)))) pss_nil)
      (pss_cons (ps_if (pt_cmpR op_eq (pv 7) pe_int (nomark _)) (pss_one (ps_ret (pe_f O_law_pick r_law_pick T.g__law_pick (pa_cons (pv 0) (pa_cons (pe_lst (pa_cons (pe_slice sl_list (pv 4) (po_some pe_int) po_none) (pa_cons (pe_op op_cat (pv 4) (pe_lst (pa_cons (pe_ix ix_list (pv 4) (pe_un un_neg pe_int) (fun _ _ => rfl)) pa_nil))) (pa_cons (by exact pe_lc (own := [("_law_line", 9)]) (g := gName 9) (tt := tYes) (te := (tSl (rSlL K) (tVar 9) (tPart (tC (.int 1))) tNoPart)) (by rfl) sc_broken.nd (pi_list (pv 4)) (blkOk_by (own := [("_law_line", 9)]) (N := ["_law_rng_here", "_law_grid", "_law_table", "_law_row", "_law_result", "_law_column", "_law_other", "_law_way", "_law_cells_here", "_law_line", "_law_number"]) (sc := defScope s__law_broken) (by decide +kernel)) (fun _ _ _ _ _ => (pg_name (i := 9) sc_broken.nd rfl (Or.inl rfl))) (fun _ _ _ _ _ => pts_nil) (fun _ _ _ _ _ => (pe_slice sl_list (pv 9) (po_some pe_int) po_none))) pa_nil)))) pa_nil))))) pss_nil)
      (pss_cons (ps_if (pt_cmpR op_eq (pv 7) pe_int (nomark _)) (pss_one (ps_ret (by exact pe_lc (own := [("_law_line", 9)]) (g := gName 9) (tt := tYes) (te := (tOp rCat (tLst (tCons (tC (.int 0)) tNil)) (tVar 9))) (by rfl) sc_broken.nd (pi_list (pv 4)) (blkOk_by (own := [("_law_line", 9)]) (N := ["_law_rng_here", "_law_grid", "_law_table", "_law_row", "_law_result", "_law_column", "_law_other", "_law_way", "_law_cells_here", "_law_line", "_law_number"]) (sc := defScope s__law_broken) (by decide +kernel)) (fun _ _ _ _ _ => (pg_name (i := 9) sc_broken.nd rfl (Or.inl rfl))) (fun _ _ _ _ _ => pts_nil) (fun _ _ _ _ _ => (pe_op op_cat (pe_lst (pa_cons pe_int pa_nil)) (pv 9)))))) pss_nil)
      (pss_one (ps_ret (pv 4))))))))))))))), ?_⟩
  have lm : t.length = m := hR.1
  have lr := ht.rows.length
  have lu : u.length = m := hU.1
  have lru := hu.rows.length
  obtain ⟨a0, r0, ha0, hr0, hx0⟩ := row_of ht (i := 0) (by omega)
  have ln : r0.length = n := hR.2 _ (List.mem_of_getElem? hr0)
  have a0s : a0 ≠ s := hns.2 a0 (List.mem_of_getElem? ha0)
  have at0 : ∀ {H' : Hp}, BM [s] H H' → H' a0 = some (.lst (r0.map V.int)) := fun e => e.at hx0 (by simpa using a0s)
  have atg : ∀ {H' : Hp}, BM [s] H H' → Tab H' g rs t := fun e => ht.bm e hns.1 hns.2
  have atp : ∀ {H' : Hp}, BM [s] H H' → Tab H' p rs' u := fun e => hu.bm e hnu.1 hnu.2
  have lenG : ∀ {σ : L2.St} {H' : Hp} {Q : VK}, σ[1]? = some (some (.ref g)) → BM [s] H H' → Q (.int (m : Int)) H' → (tCB (fun xs H Q => ∃ p ys, xs = [V.ref p] ∧ (SqL K H p ys ∨ SqT K H p ys) ∧ Q (.int ys.length) H) (tCons (tVar 1) tNil)) σ H' Q := by
    intro σ H' Q hσ e q
    refine w_cB (w_cons (w_var hσ (w_nil ?_)))
    refine ⟨g, _, rfl, .inl (SqL.of (atg e).at_), ?_⟩
    rw [List.length_map, lr, lm]
    exact q
  have lenC : ∀ {σ : L2.St} {H' : Hp} {Q : VK}, σ[1]? = some (some (.ref g)) → BM [s] H H' → Q (.int (n : Int)) H' → (tCB (fun xs H Q => ∃ p ys, xs = [V.ref p] ∧ (SqL K H p ys ∨ SqT K H p ys) ∧ Q (.int ys.length) H) (tCons (tOp (rIxL K) (tVar 1) (tC (.int 0))) tNil)) σ H' Q := by
    intro σ H' Q hσ e q
    refine w_cB (w_cons (w_op (w_var hσ (w_c (w_ixL (atg e).at_ (ref_at (i := 0) ha0) (w_nil ?_))))))
    refine ⟨a0, _, rfl, .inl (SqL.of (at0 e)), ?_⟩
    rw [List.length_map, ln]
    exact q
  have drawn : ∀ {σ : L2.St} {e : TE} {H' : Hp} {Q : VK} (k : Nat), σ[0]? = some (some (.ref s)) → BM [s] H H' → Src H' s → 0 < k → k ≤ 1000 → (∀ Q' : VK, Q' (.int (k : Int)) H' → e σ H' Q') → (∀ (r : Nat) H'', r < k → BM [s] H' H'' → Src H'' s → Q (.int (r : Int)) H'') → tCall (spDraw K) [] E0 (tCons (tVar 0) (tCons e tNil)) σ H' Q := by
    intro σ e H' Q k hσ b q0 k0 k1 he q
    refine w_call (w_cons (w_var hσ (w_cons (he _ (w_nil ?_)))))
    refine ⟨s, _, rfl, q0, by omega, by omega, fun r H'' r0 r1 b2 s2 => ?_⟩
    obtain ⟨r, rfl⟩ : ∃ k : Nat, r = (k : Int) := ⟨r.toNat, by omega⟩
    exact q r H'' (by omega) b2 s2
  walk_at "go"
  refine lcAt_open ?_
  refine list_open ?_
  walk_at "go"
  refine ⟨p, rfl, ⟨_, SqL.of hu.at_⟩, fun D hD => ?_⟩
  refine rows_new (fun r => r) hu (by omega) hD (fun x => rfl) ?_ ?_
  · intro b r H1 e1 hr hb Q q
    walk_at "go"
    refine ⟨b, _, rfl, .inl (SqL.of hb), fun l hl => ?_⟩
    exact q l _ hl (Same.new hl _) upd_same
  intro H1 cs e1 hT1 nd1 fr1
  rw [List.map_id'] at hT1
  have mine1 : Mine s H H1 D cs u m n := Mine.of (BM.refl _ _) hs hs e1 hD hT1 hU nd1 fr1
  refine w_seq (w_par (w_cons (drawn m rfl mine1.bm mine1.src (by omega) (by omega) (fun Q' q' => lenG rfl mine1.bm q') fun i H2 hi b2 s2 => ?_)))
  have mine2 := mine1.draw b2 s2
  refine w_cons (drawn n rfl mine2.bm mine2.src (by omega) (by omega) (fun Q' q' => lenC rfl mine2.bm q') fun j H3 hj b3 s3 => w_nil ?_)
  have mine3 := mine2.draw b3 s3
  refine ⟨_, _, rfl, ?_⟩
  refine w_seq (w_set (drawn (n - 1) rfl mine3.bm mine3.src (by omega) (by omega) (fun Q' q' => ?_) fun o H4 ho b4 s4 => ?_))
  · refine w_cB (w_cons (w_c (w_cons (w_op (lenC rfl mine3.bm (w_c (w_i0 (w_nil ⟨1, _, rfl, ?_⟩))))))))
    rw [show (if (n : Int) - 1 > 1 then (n : Int) - 1 else 1) = ((n - 1 : Nat) : Int) by split <;> omega]
    exact q'
  have mine4 := mine3.draw b4 s4
  refine w_seq (w_set (drawn 10 rfl mine4.bm mine4.src (by omega) (by omega) (fun Q' q' => w_c q') fun way H5 hway b5 s5 => ?_))
  have mine5 := mine4.draw b5 s5
  refine ⟨fun σ' H' => σ' = [some (.ref s), some (.ref g), some (.ref p), some (.int (i : Int)), some (.ref D), some (.int (j : Int)), some (.int (o : Int)), some (.int (way : Int)), none, none, none] ∧ ∃ t', Mine s H H' D cs t' m n, ?_, ?_⟩
  · walk_at "go"
    refine w_eqI (w_bl ?_)
    rw [decV]
    by_cases c : (way : Int) = 0
    · rw [decide_eq_true c]
      refine iteT ?_
      refine inc2 (f := fun a b => a + b) (R := 4) (i := i) (j := j) rfl (fun H' t' Q h k => w_var rfl k) (fun H' t' Q h k => w_var rfl k) (fun H' t' Q h k => ?_) mine5 hi hj fun H' t' h => ⟨rfl, t', h⟩
      walk_at "go"
      refine ⟨1, rfl, ?_⟩
      walk_at "go"
      refine ⟨(by show 3 ≤ sizeLine; decide), fun l hl => ?_⟩
      have e7 := Same.new hl (.lst [V.int 1, .int (-1), .int 5])
      have h7 := h.same e7
      refine ⟨s, l, _, rfl, h7.src, upd_same, src_ne h.s0 (h.bm.free hl), by show 0 < 3; decide, by show 3 ≤ 1000; decide, fun v H'' hv b8 s8 => ?_⟩
      obtain ⟨x, rfl⟩ : ∃ x : Int, v = .int x := by
        simp only [List.mem_cons, List.not_mem_nil, or_false] at hv
        rcases hv with rfl | rfl | rfl <;> exact ⟨_, rfl⟩
      exact k x H'' (h7.draw b8 s8)
    · rw [decide_eq_false c]
      exact ⟨rfl, _, mine5⟩
  rintro σ H6 ⟨rfl, t6, mine6⟩
  refine ⟨fun σ' H' => σ' = [some (.ref s), some (.ref g), some (.ref p), some (.int (i : Int)), some (.ref D), some (.int (j : Int)), some (.int (o : Int)), some (.int (way : Int)), none, none, none] ∧ ∃ t', Mine s H H' D cs t' m n, ?_, ?_⟩
  · walk_at "go"
    refine w_eqI (w_bl ?_)
    rw [decV]
    by_cases c : (way : Int) = 1
    · rw [decide_eq_true c]
      refine iteT ?_
      refine w_test (w_op (w_var rfl (w_op (lenC rfl mine6.bm (w_c (w_i0 (w_i0 (w_bl ?_))))))))
      by_cases c2 : (j : Int) < (n : Int) - 1
      · rw [decide_eq_true c2]
        refine iteT ?_
        refine w_seq (inc2 (f := fun a b => a + b) (R := 4) (i := i) (j := j) rfl (fun H' t' Q h k => w_var rfl k) (fun H' t' Q h k => w_var rfl k) (fun H' t' Q h k => w_c (k 1 H' h)) mine6 hi hj fun H7 t7 h7 => ?_)
        exact inc2 (f := fun a b => a - b) (R := 4) (i := i) (j := o) rfl (fun H' t' Q h k => w_var rfl k) (fun H' t' Q h k => w_var rfl k) (fun H' t' Q h k => w_c (k 1 H' h)) h7 hi (by omega) fun H8 t8 h8 => ⟨rfl, t8, h8⟩
      · rw [decide_eq_false c2]
        exact ⟨rfl, _, mine6⟩
    · rw [decide_eq_false c]
      exact ⟨rfl, _, mine6⟩
  rintro σ H7 ⟨rfl, t7, mine7⟩
  refine ⟨fun σ' H' => ∃ o' : Nat, σ' = [some (.ref s), some (.ref g), some (.ref p), some (.int (i : Int)), some (.ref D), some (.int (j : Int)), some (.int (o' : Int)), some (.int (way : Int)), none, none, none] ∧ ((way : Int) ≠ 2 → o' < n - 1) ∧ ∃ t', Mine s H H' D cs t' m n, ?_, ?_⟩
  · walk_at "go"
    refine w_eqI (w_bl ?_)
    rw [decV]
    by_cases c : (way : Int) = 2
    · rw [decide_eq_true c]
      refine iteT ?_
      refine w_seq (w_set (drawn (m - 1) rfl mine7.bm mine7.src (by omega) (by omega) (fun Q' q' => ?_) fun o' H8 ho' b8 s8 => ?_))
      · refine w_cB (w_cons (w_c (w_cons (w_op (lenG rfl mine7.bm (w_c (w_i0 (w_nil ⟨1, _, rfl, ?_⟩))))))))
        rw [show (if (m : Int) - 1 > 1 then (m : Int) - 1 else 1) = ((m - 1 : Nat) : Int) by split <;> omega]
        exact q'
      have mine8 := mine7.draw b8 s8
      obtain ⟨i', hi', hi2⟩ : ∃ i' : Nat, (if (m : Int) - 2 < (i : Int) then (m : Int) - 2 else (i : Int)) = (i' : Int) ∧ i' < m := ⟨(if (m : Int) - 2 < (i : Int) then (m : Int) - 2 else (i : Int)).toNat, by split <;> omega, by split <;> omega⟩
      refine w_seq (inc2 (f := fun a b => a + b) (R := 4) (i := i') (j := j) rfl (fun H' t' Q h k => ?_) (fun H' t' Q h k => w_var rfl k) (fun H' t' Q h k => w_c (k 1 H' h)) mine8 hi2 hj fun H9 t9 h9 => ?_)
      · refine w_cB (w_cons (w_var rfl (w_cons (w_op (lenG rfl h.bm (w_c (w_i0 (w_nil ⟨_, _, rfl, ?_⟩))))))))
        rw [hi']
        exact k
      · exact inc2 (f := fun a b => a - b) (R := 4) (i := o') (j := j) rfl (fun H' t' Q h k => w_var rfl k) (fun H' t' Q h k => w_var rfl k) (fun H' t' Q h k => w_c (k 1 H' h)) h9 (by omega) hj fun H10 t10 h10 => ⟨o', rfl, fun z => absurd c z, t10, h10⟩
    · rw [decide_eq_false c]
      exact ⟨o, rfl, fun _ => ho, _, mine7⟩
  rintro σ H8 ⟨o, rfl, ho8, t8, mine8⟩
  have e0s : ∀ {k : Nat}, (way : Int) ≠ (k : Int) → decide ((way : Int) = (k : Int)) = false := fun h => decide_eq_false h
  have sq : ∀ (x : Int) (H' : Hp), BM [s] H H' → Src H' s → spSquare K [.ref s, .ref p, .int x] H' Q E0 := fun x H' b q' => ⟨s, p, rs', u, m, n, x, rfl, q', atp b, hnu, hU, m2, n2, m50, n50, fun p' H'' rs2 t2 h => q p' H'' rs2 t2 m n (b.trans h.bm) h.src h.tab h.rect (by omega) (by omega) (by omega) (by omega)⟩
  have cut8 : ∀ {e : TE} {σ : L2.St} {Q' : VK} (H' : Hp), Same H8 H' → (∀ l, H' l = none → Tab (upd H' l (.lst (cs.map V.ref).dropLast)) l cs.dropLast t8.dropLast → Q' (.ref l) (upd H' l (.lst (cs.map V.ref).dropLast))) → σ[4]? = some (some (.ref D)) → (tSl (rSlL K) (tVar 4) tNoPart (tPart (tUn (rU fun i => .int (-i)) (tC (.int 1))))) σ H' Q' := by
    intro e σ Q' H' e1 k hσ
    walk_at "go"
    refine w_var hσ ?_
    walk_at "go"
    refine ⟨1, rfl, ?_⟩
    walk_at "go"
    have h1 := mine8.same e1
    refine ⟨D, _, rfl, SqL.of h1.tab.at_, fun l hl => ?_⟩
    rw [cut_last]
    have e2 := Same.new hl (.lst (cs.map V.ref).dropLast)
    exact k l hl ⟨by rw [upd_same, List.map_dropLast], paired_drop (h1.same e2).tab.rows⟩
  have l8 := mine8.rect.1
  walk_at "go"
  refine w_eqI (w_bl ?_)
  rw [decV]
  by_cases c3 : (way : Int) = 3
  · rw [decide_eq_true c3]
    walk_at "go"
    refine w_i (by refine ⟨?_, ?_, ?_⟩ <;> decide) ?_
    walk_at "go"
    exact sq _ H8 mine8.bm mine8.src
  rw [decide_eq_false c3]
  walk_at "go"
  refine w_eqI (w_bl ?_)
  rw [decV]
  by_cases c4 : (way : Int) = 4
  · rw [decide_eq_true c4]
    walk_at "go"
    refine ⟨1, rfl, ?_⟩
    walk_at "go"
    refine ⟨(by show 2 ≤ sizeLine; decide), fun l hl => ?_⟩
    have h9 := mine8.same (Same.new hl (.lst [V.int 1, .int (-1)]))
    refine ⟨s, l, _, rfl, h9.src, upd_same, src_ne mine8.s0 (mine8.bm.free hl), by show 0 < 2; decide, by show 2 ≤ 1000; decide, fun v H'' hv b10 s10 => ?_⟩
    obtain ⟨x, rfl⟩ : ∃ x : Int, v = .int x := by
      simp only [List.mem_cons, List.not_mem_nil, or_false] at hv
      rcases hv with rfl | rfl <;> exact ⟨_, rfl⟩
    walk_at "go"
    exact sq x H'' (h9.bm.trans b10) s10
  rw [decide_eq_false c4]
  walk_at "go"
  refine w_eqI (w_bl ?_)
  rw [decV]
  by_cases c5 : (way : Int) = 5
  · rw [decide_eq_true c5]
    refine iteT ?_
    refine w_seq (w_set (lcAt_open (list_open ?_)))
    refine cut8 (e := tVar 0) H8 (Same.refl _) (fun l9 hl9 ht9 => ?_) rfl
    have e9 := Same.new hl9 (.lst (cs.map V.ref).dropLast)
    refine ⟨l9, rfl, ⟨_, SqL.of ht9.at_⟩, fun D9 hD9 => ?_⟩
    refine rows_new (fun r => r.dropLast) ht9 (by rw [List.length_dropLast]; omega) hD9 (fun x => rfl) ?_ ?_
    · intro b r H10 e10 hr hb Q q
      walk_at "go"
      refine ⟨1, rfl, ?_⟩
      walk_at "go"
      refine ⟨b, _, rfl, SqL.of hb, fun l hl => ?_⟩
      rw [cut_last]
      refine q l _ hl (Same.new hl _) ?_
      show upd H10 l _ l = _
      rw [upd_same, List.map_dropLast]
    intro H10 cs10 e10 hT10 nd10 fr10
    have rect10 : Rect (t8.dropLast.map fun r => r.dropLast) (m - 1) (n - 1) := by
      refine ⟨by rw [List.length_map, List.length_dropLast, l8], fun r hr => ?_⟩
      obtain ⟨r', hr', rfl⟩ := List.mem_map.mp hr
      rw [List.length_dropLast, mine8.rect.2 r' (List.dropLast_subset _ hr')]
    have h9 := mine8.same e9
    have mine10 : Mine s H H10 D9 cs10 _ (m - 1) (n - 1) := Mine.of h9.bm hs h9.src e10 hD9 hT10 rect10 nd10 fr10
    obtain ⟨i', hi', hi2⟩ : ∃ i' : Nat, (if (m : Int) - 1 - 1 < (i : Int) then (m : Int) - 1 - 1 else (i : Int)) = (i' : Int) ∧ i' < m - 1 := ⟨(if (m : Int) - 1 - 1 < (i : Int) then (m : Int) - 1 - 1 else (i : Int)).toNat, by split <;> omega, by split <;> omega⟩
    refine w_seq (inc2 (f := fun a b => a + b) (R := 8) (i := i') (j := o) rfl (fun H' t' Q h k => ?_) (fun H' t' Q h k => w_var rfl k) (fun H' t' Q h k => w_c (k 1 H' h)) mine10 hi2 (ho8 (by omega)) fun H11 t11 mine11 => ?_)
    · refine w_cB (w_cons (w_var rfl (w_cons (w_op (w_cB (w_cons (w_var rfl (w_nil ⟨D9, _, rfl, .inl (SqL.of h.tab.at_), ?_⟩))))))))
      rw [List.length_map, h.tab.rows.length, h.rect.1]
      refine w_c (w_i0 (w_nil ⟨_, _, rfl, ?_⟩))
      rw [show ((m - 1 : Nat) : Int) = (m : Int) - 1 by omega, hi']
      exact k
    · walk_at "go"
      refine ⟨D9, cs10, t11, n - 1, rfl, mine11.tab, mine11.rect.2, fun z => ?_, by rw [mine11.rect.1]; omega, by omega, fun p' H' rs2 e12 new12 hT12 => ?_⟩
      · have := mine11.rect.1
        rw [z] at this
        simp at this
        omega
      · have rs12 := rect_sums mine11.rect
        exact q p' H' rs2 _ _ _ (mine11.bm.same e12) (mine11.src.same e12) hT12 rs12 (by omega) (by omega) (by omega) (by omega)
  rw [decide_eq_false c5]
  walk_at "go"
  refine w_eqI (w_bl ?_)
  rw [decV]
  by_cases c6 : (way : Int) = 6
  · rw [decide_eq_true c6]
    walk_at "go"
    refine lcAt_open (list_open ?_)
    refine cut8 (e := tVar 0) H8 (Same.refl _) (fun l9 hl9 ht9 => ?_) rfl
    have e9 := Same.new hl9 (.lst (cs.map V.ref).dropLast)
    refine ⟨l9, rfl, ⟨_, SqL.of ht9.at_⟩, fun D9 hD9 => ?_⟩
    refine rows_new (fun r => r.dropLast.map fun x => 2 * x) ht9 (by rw [List.length_dropLast]; omega) hD9 (fun x => rfl) ?_ ?_
    · intro b r H10 e10 hr hb Q q
      refine lcAt_open (list_open ?_)
      walk_at "go"
      refine ⟨1, rfl, ?_⟩
      walk_at "go"
      refine ⟨b, _, rfl, SqL.of hb, fun l hl => ?_⟩
      rw [cut_last]
      have e11 := Same.new hl (.lst (r.map V.int).dropLast)
      have lr : r.length = n := mine8.rect.2 r (List.dropLast_subset _ hr)
      refine ⟨l, rfl, ⟨_, SqL.of upd_same⟩, fun D11 hD11 => ?_⟩
      refine items_at (F := fun _ v (x : Int) => v = .int x) (fun _ h => h) (fun x => .int (2 * x)) (xs := (r.map V.int).dropLast) (ys := r.dropLast) (SqL.of upd_same) ?_ hD11 (by rw [List.length_dropLast, List.length_map]; omega) (fun x => rfl) ?_ ?_
      · rw [← List.map_dropLast]
        generalize r.dropLast = ys
        induction ys with
        | nil => exact .nil
        | cons y ys ih => exact .cons rfl ih
      · rintro v x H12 e12 hx rfl Q q
        walk_at "go"
        refine w_i (.inl (by decide)) ?_
        exact q H12 (Same.refl _)
      · intro H12 e12 hD12
        refine q D11 H12 (e11.free hD11) (e11.trans e12) ?_
        show H12 D11 = _
        rw [hD12, List.map_map]
        rfl
    intro H10 cs10 e10 hT10 nd10 fr10
    have rect10 : Rect (t8.dropLast.map fun r => r.dropLast.map fun x => 2 * x) (m - 1) (n - 1) := by
      refine ⟨by rw [List.length_map, List.length_dropLast, l8], fun r hr => ?_⟩
      obtain ⟨r', hr', rfl⟩ := List.mem_map.mp hr
      rw [List.length_map, List.length_dropLast, mine8.rect.2 r' (List.dropLast_subset _ hr')]
    have h9 := mine8.same e9
    walk_at "go"
    refine ⟨D9, cs10, _, n - 1, rfl, hT10, rect10.2, fun z => ?_, by rw [rect10.1]; omega, by omega, fun p' H' rs2 e12 new12 hT12 => ?_⟩
    · have := rect10.1
      rw [z] at this
      simp at this
      omega
    · have rs12 := rect_sums rect10
      exact q p' H' rs2 _ _ _ (h9.bm.same (e10.trans e12)) (h9.src.same (e10.trans e12)) hT12 rs12 (by omega) (by omega) (by omega) (by omega)
  rw [decide_eq_false c6]
  walk_at "go"
  refine w_eqI (w_bl ?_)
  rw [decV]
  by_cases c7 : (way : Int) = 7
  · rw [decide_eq_true c7]
    walk_at "go"
    refine ⟨D, _, rfl, SqL.of mine8.tab.at_, fun lA hA => ?_⟩
    rw [show (1 : Int) = ((1 : Nat) : Int) from rfl, cut_from]
    have eA := Same.new hA (.lst ((cs.map V.ref).drop 1))
    have mineA := mine8.same eA
    walk_at "go"
    obtain ⟨al, rl, hal, hul, hrl, hatl⟩ := last_row mineA.tab.rows (fun z => by rw [z] at l8; simp at l8; omega)
    refine ⟨1, rfl, ?_⟩
    refine w_ixL mineA.tab.at_ hatl ?_
    walk_at "go"
    refine ⟨(by show 1 ≤ sizeLine; decide), fun lB hB => ?_⟩
    have eB := Same.new hB (.lst [V.ref al])
    have mineB := mineA.same eB
    have lcs : cs.length = m := by rw [mine8.tab.rows.length, l8]
    refine ⟨D, lB, _, _, rfl, rfl, mineB.tab.at_, upd_same, Nat.le_trans (show _ ≤ 60 by rw [List.length_map]; simp; omega) (by decide), fun lC hC => ?_⟩
    have eC := Same.new hC (.lst (cs.map V.ref ++ [V.ref al]))
    have mineC := mineB.same eC
    walk_at "go"
    refine lcAt_open (list_open ?_)
    walk_at "go"
    refine ⟨D, rfl, ⟨_, SqL.of mineC.tab.at_⟩, fun D9 hD9 => ?_⟩
    refine rows_new (fun r => r.drop 1) mineC.tab (by omega) hD9 (fun x => rfl) ?_ ?_
    · intro b r H10 e10 hr hb Q q
      walk_at "go"
      refine ⟨b, _, rfl, SqL.of hb, fun l hl => ?_⟩
      rw [cut_from]
      refine q l _ hl (Same.new hl _) ?_
      show upd H10 l _ l = _
      rw [upd_same, List.map_drop]
    intro H10 cs10 e10 hT10 nd10 fr10
    walk_at "go"
    refine ⟨(by show 3 ≤ sizeLine; decide), fun lD hDD => ?_⟩
    have eD := Same.new hDD (.lst [V.ref lA, .ref lC, .ref D9])
    have mineD := (mineC.same e10).same eD
    have neS : ∀ {x : Addr} {H' : Hp}, BM [s] H H' → H' x = none → x ≠ s := fun b z => src_ne hs (b.free z)
    refine ⟨s, lD, _, rfl, mineD.src, upd_same, neS (mineC.same e10).bm hDD, by show 0 < 3; decide, by show 3 ≤ 1000; decide, fun v H'' hv b11 s11 => ?_⟩
    have tabs : ∃ (p' : Addr) (rs2 : List Addr) (t2 : List (List Int)) (m2 n2 : Nat), v = .ref p' ∧ Tab (upd H10 lD (.lst [V.ref lA, .ref lC, .ref D9])) p' rs2 t2 ∧ Rect t2 m2 n2 ∧ 1 ≤ m2 ∧ 1 ≤ n2 ∧ m2 ≤ 60 ∧ n2 ≤ 60 ∧ p' ≠ s ∧ ∀ r ∈ rs2, r ≠ s := by
      have e1 := eB.trans (eC.trans (e10.trans eD))
      have e2 := e10.trans eD
      simp only [List.mem_cons, List.not_mem_nil, or_false] at hv
      rcases hv with rfl | rfl | rfl
      · refine ⟨lA, cs.drop 1, t8.drop 1, m - 1, n, rfl, ⟨by rw [← List.map_drop] at e1; exact e1 _ _ upd_same, paired_up (paired_from mineD.tab.rows 1) fun _ _ _ z => z⟩, ⟨by rw [List.length_drop, l8], fun r hr => mine8.rect.2 r (List.mem_of_mem_drop hr)⟩, by omega, by omega, by omega, by omega, neS mine8.bm hA, fun r hr => mine8.notS.2 r (List.mem_of_mem_drop hr)⟩
      · refine ⟨lC, cs ++ [al], t8 ++ [rl], m + 1, n, rfl, ⟨by rw [List.map_append]; exact e2 _ _ upd_same, K3.Paired.app mineD.tab.rows (.cons ?_ .nil)⟩, ⟨by rw [List.length_append, l8]; rfl, fun r hr => ?_⟩, by omega, by omega, by omega, by omega, neS mineB.bm hC, fun r hr => ?_⟩
        · show _ = _
          exact e1 _ _ hrl
        · rcases List.mem_append.mp hr with hr | hr
          · exact mine8.rect.2 r hr
          · rw [List.mem_singleton.mp hr]
            refine mine8.rect.2 rl ?_
            rw [hul]
            simp
        · rcases List.mem_append.mp hr with hr | hr
          · exact mine8.notS.2 r hr
          · rw [List.mem_singleton.mp hr]
            exact mine8.notS.2 al (List.mem_of_getElem? hal)
      · refine ⟨D9, cs10, t8.map fun r => r.drop 1, m, n - 1, rfl, hT10.same eD, ⟨by rw [List.length_map, l8], fun r hr => ?_⟩, by omega, by omega, by omega, by omega, neS mineC.bm hD9, fun r hr => neS mineC.bm (fr10 r hr).1⟩
        obtain ⟨r', hr', rfl⟩ := List.mem_map.mp hr
        rw [List.length_drop, mine8.rect.2 r' hr']
    obtain ⟨p', rs2, t2, m2', n2', rfl, hT2, hR2, x1, x2, x3, x4, x5, x6⟩ := tabs
    exact q p' H'' rs2 t2 m2' n2' (mineD.bm.trans b11) s11 (hT2.bm b11 x5 x6) hR2 x1 x2 x3 x4
  rw [decide_eq_false c7]
  walk_at "go"
  refine w_eqI (w_bl ?_)
  rw [decV]
  by_cases c8 : (way : Int) = 8
  · rw [decide_eq_true c8]
    walk_at "go"
    refine lcAt_open (list_open ?_)
    walk_at "go"
    refine ⟨D, rfl, ⟨_, SqL.of mine8.tab.at_⟩, fun D9 hD9 => ?_⟩
    refine rows_new (fun r => 0 :: r) mine8.tab (by omega) hD9 (fun x => rfl) ?_ ?_
    · intro b r H10 e10 hr hb Q q
      walk_at "go"
      refine ⟨(by show 1 ≤ sizeLine; decide), fun l hl => ?_⟩
      have e11 := Same.new hl (.lst [V.int 0])
      have lr : r.length = n := mine8.rect.2 r hr
      walk_at "go"
      refine ⟨l, b, _, _, rfl, rfl, upd_same, e11 _ _ hb, Nat.le_trans (show _ ≤ 60 by rw [List.length_map]; simp; omega) (by decide), fun l2 hl2 => ?_⟩
      exact q l2 _ (e11.free hl2) (e11.trans (Same.new hl2 _)) upd_same
    intro H10 cs10 e10 hT10 nd10 fr10
    refine q D9 H10 cs10 _ m (n + 1) (mine8.bm.same e10) (mine8.src.same e10) hT10 ⟨by rw [List.length_map, l8], fun r hr => ?_⟩ (by omega) (by omega) (by omega) (by omega)
    obtain ⟨r', hr', rfl⟩ := List.mem_map.mp hr
    rw [List.length_cons, mine8.rect.2 r' hr']
  rw [decide_eq_false c8]
  walk_at "go"
  exact q D H8 cs t8 m n mine8.bm mine8.src mine8.tab mine8.rect (by omega) (by omega) (by omega) (by omega)
end
end K3
end L15_part
section L16_part
set_option Elab.async false
set_option linter.all false
set_option maxRecDepth 100000
set_option maxHeartbeats 1000000
set_option pp.deepTerms.threshold 5
open PySem PySem.Spec PyProof.Rows L2
/-- go on as far as nothing is open -/
local macro_rules | `(tactic| walk_at "go") => `(tactic| repeat (first
  | with_reducible refine w_seq ?_ | with_reducible refine w_next ?_ | with_reducible refine w_set ?_ | with_reducible refine w_drop ?_ | with_reducible refine w_ret ?_ | with_reducible refine w_retN ?_
  | with_reducible refine w_if ?_ | ((with_reducible refine' w_var ?hv ?_); (case hv => exact rfl)) | with_reducible refine w_c ?_ | with_reducible refine w_nil ?_ | with_reducible refine w_cons ?_ | with_reducible refine w_op ?_ | with_reducible refine w_un ?_
  | with_reducible refine w_test ?_ | with_reducible refine w_tB ?_ | with_reducible refine w_not ?_ | with_reducible refine w_and ?_ | with_reducible refine w_or ?_ | with_reducible refine w_bl ?_
  | with_reducible refine w_andV ?_ | with_reducible refine w_orV ?_ | with_reducible refine w_notV ?_ | with_reducible refine w_ifE ?_ | with_reducible refine w_chain ?_ | with_reducible refine w_i0 ?_
  | with_reducible refine w_call ?_ | with_reducible refine w_callS ?_ | with_reducible refine w_cB ?_ | with_reducible refine w_tup ?_ | with_reducible refine w_lst ?_ | with_reducible refine w_fldV ?_
  | with_reducible refine w_neF ?_ | with_reducible refine w_neT ?_ | with_reducible refine w_notN ?_ | with_reducible refine w_isN ?_ | with_reducible refine w_gname ?_ | with_reducible refine w_gsub ?_ | with_reducible refine w_asg ?_ | with_reducible refine w_sl ?_ | with_reducible refine w_noP ?_ | with_reducible refine w_int1 ?_ | with_reducible refine w_part ?_ | with_reducible refine w_yes ?_ | with_reducible refine w_nT ?_ | with_reducible refine w_nF ?_ | with_reducible refine w_iteT ?_ | with_reducible refine w_iteF ?_))
namespace K3
theorem Mine.trans {s : Addr} {H0 H1 H2 : Hp} {p : Addr} {rs : List Addr} {t : List (List Int)} {m n : Nat} (b : BM [s] H0 H1) (q0 : Src H0 s) (h : Mine s H1 H2 p rs t m n) : Mine s H0 H2 p rs t m n :=
  ⟨h.tab, h.rect, h.nd, h.ne, fun r hr => b.free (h.fr r hr), b.free h.p0, b.trans h.bm, h.src, q0⟩
/-- a list of hidden cells that is not the source -/
structure HidL (s : Addr) (H : Hp) (p : Addr) (ws : List V) (hs : List (Nat × Nat)) (m n : Nat) : Prop where
  at_ : H p = some (.lst ws)
  ne : p ≠ s
  src : Src H s
  cells : Paired (CellAt H) ws hs
  mem : ∀ h ∈ hs, h ∈ (cellsOf m n).dropLast
  len : hs.length ≤ 60
theorem HidL.draw {s : Addr} {H H1 : Hp} {p : Addr} {ws : List V} {hs : List (Nat × Nat)} {m n : Nat} (h : HidL s H p ws hs m n) (e : BM [s] H H1) (q : Src H1 s) : HidL s H1 p ws hs m n :=
  ⟨e.at h.at_ (by simpa using h.ne), h.ne, q, L2.Paired.mapP h.cells fun _ _ z => z.bm h.src e, h.mem, h.len⟩
theorem HidL.same {s : Addr} {H H1 : Hp} {p : Addr} {ws : List V} {hs : List (Nat × Nat)} {m n : Nat} (h : HidL s H p ws hs m n) (e : Same H H1) : HidL s H1 p ws hs m n := h.draw (BM.of e) (h.src.same e)
theorem HidL.inn {K : PySem.W.Frag} {s : Addr} {H : Hp} {p : Addr} {ws : List V} {hs : List (Nat × Nat)} {m n : Nat} (h : HidL s H p ws hs m n) : HidIn K H (.ref p) hs m n := ⟨p, ws, rfl, .inl (SqL.of h.at_), h.cells, h.mem, h.len⟩
def spShifted (K : PySem.W.Frag) : Sp := fun vs H Q _ => ∃ (s g h : Addr) (rs : List Addr) (t : List (List Int)) (ws : List V) (hs : List (Nat × Nat)) (m n : Nat), vs = [.ref s, .ref g, .ref h] ∧ Src H s ∧ Tab H g rs t ∧ (g ≠ s ∧ ∀ r ∈ rs, r ≠ s) ∧ Rect t m n ∧ HidL s H h ws hs m n ∧ Fit t hs t m n ∧ 2 ≤ m ∧ 2 ≤ n ∧ m ≤ 50 ∧ n ≤ 50 ∧
  ∀ p' H' rs' t', Mine s H H' p' rs' t' m n → Fit t hs t' m n → Q (.ref p') H'
section
variable {P : Program} {w : World} {K : PySem.W.Frag} {mg : Str → Option Value} {base : Heap}
theorem sc_shifted : FnScope ["_law_rng_here", "_law_grid", "_law_hidden", "_law_table", "_law_attempt", "_law_changed", "_law_row"] ["_law_rng_here", "_law_grid", "_law_hidden"] (defScope s__law_shifted) := ⟨rfl, rfl, rfl, by decide +kernel, rfl, by decide +kernel, by decide +kernel⟩
theorem ok_shifted (T : Tx K mg) : Ok P w K mg base 3 (He.ga K "_law_shifted") ["_law_rng_here", "_law_grid", "_law_hidden"] (spShifted K) := by
  obtain ⟨fd, F⟩ := T.f__law_shifted
  have O_law_fits := ok_law_fits (P := P) (w := w) (base := base) T
  have O_law_square := ok_square (P := P) (w := w) (base := base) T
  refine ⟨fd, F.ok (k := 2) sc_shifted (fun vs H Q E h => ?_) (fun cdv A outer s_ H vs Q E hr h => ?_), F.bindsN fun _ _ _ _ _ _ us hl => match us, hl with | [_, _, _], _ => rfl, F.kp⟩
  · obtain ⟨s, g, h, rs, t, ws, hs, m, n, rfl, hsrc, ht, hns, hR, hh, hF, m2, n2, m50, n50, q⟩ := h
    rfl
  obtain ⟨s, g, h, rs, t, ws, hs, m, n, rfl, hsrc, ht, hns, hR, hh, hF, m2, n2, m50, n50, q⟩ := h
  have hu65 := K3.Room.units65 hr
  have hu64 := Nat.lt_of_succ_lt hu65
  have hu0 := Nat.lt_of_le_of_lt (Nat.le_add_right _ 65) hu65
  have r_law_fits : Room 2 _ := hr.mono (by decide)
  have r_law_square : Room 2 _ := hr.mono (by decide)
  refine ⟨_, pss_cons (by exact ps_setLc (i := 3) (own := [("_law_row", 6)]) (g := gName 6) (tt := tYes) (te := (tCB (fun xs H Q => ∃ p ys, xs = [V.ref p] ∧ (SqL K H p ys ∨ SqT K H p ys) ∧ ∀ l, H l = none → Q (.ref l) (upd H l (.lst ys))) (tCons (tVar 6) tNil))) (by rfl) sc_shifted.nd rfl rfl (by rfl) (pi_list (pv 1)) (blkOk_by (own := [("_law_row", 6)]) (N := ["_law_rng_here", "_law_grid", "_law_hidden", "_law_table", "_law_attempt", "_law_changed", "_law_row"]) (sc := defScope s__law_shifted) (by decide +kernel)) (fun _ _ _ _ _ => (pg_name (i := 6) sc_shifted.nd rfl (Or.inl rfl))) (fun _ _ _ _ _ => pts_nil) (fun _ _ _ _ _ => (pe_callTy call_list_of (by rfl) T.z_list (by decide +kernel) (pa_cons (pv 6) pa_nil))))
      (pss_cons (ps_for (passes_of rfl) (by rfl) (pi_range1 rfl T.z_range (pa_cons pe_int pa_nil)) (pg_name (i := 4) sc_shifted.nd rfl (Or.inl rfl)) (pss_cons (ps_set (i := 5) sc_shifted.nd rfl (Or.inl rfl) (pe_f O_law_square r_law_square T.g__law_square (pa_cons (pv 0) (pa_cons (pv 3) (pa_cons pe_int pa_nil)))))
      (pss_one (ps_if (pt_val (pe_f O_law_fits r_law_fits T.g__law_fits (pa_cons (pv 1) (pa_cons (pv 2) (pa_cons (pv 5) pa_nil))))) (pss_one (ps_set (i := 3) sc_shifted.nd rfl (Or.inl rfl) (pv 5))) pss_nil))))
      (pss_one (ps_ret (pv 3)))), ?_⟩
  have lm : t.length = m := hR.1
  refine w_seq (w_set (lcAt_open (list_open ?_)))
  walk_at "go"
  refine ⟨g, rfl, ⟨_, SqL.of ht.at_⟩, fun D hD => ?_⟩
  refine rows_new (fun r => r) ht (by omega) hD (fun x => rfl) ?_ ?_
  · intro b r H1 e1 hr hb Q q
    walk_at "go"
    refine ⟨b, _, rfl, .inl (SqL.of hb), fun l hl => ?_⟩
    exact q l _ hl (Same.new hl _) upd_same
  intro H1 cs e1 hT1 nd1 fr1
  rw [List.map_id'] at hT1
  have mine1 : Mine s H H1 D cs t m n := Mine.of (BM.refl _ _) hsrc hsrc e1 hD hT1 hR nd1 fr1
  walk_at "go"
  refine rng_open ?_
  walk_at "go"
  refine ⟨8, rfl, by decide, by decide, ?_⟩
  refine for_range (lo := 0) (n := 8) (fun (i : Nat) σ H' => ∃ (p' : Addr) (rs' : List Addr) (t' : List (List Int)) (o4 o5 : Option V), σ = [some (.ref s), some (.ref g), some (.ref h), some (.ref p'), o4, o5, none] ∧ Mine s H H' p' rs' t' m n ∧ Fit t hs t' m n) ⟨D, cs, t, none, none, rfl, mine1, hF⟩ ?_ ?_
  · rintro i σ H2 hi ⟨p', rs', t', o4, o5, rfl, mine2, fit2⟩
    walk_at "go"
    refine ⟨s, p', rs', t', m, n, 1, rfl, mine2.src, mine2.tab, mine2.notS, mine2.rect, m2, n2, m50, n50, fun p3 H3 rs3 t3 mine3 => ?_⟩
    have mine03 := Mine.trans mine2.bm hsrc mine3
    walk_at "go"
    have hT3 := ht.bm mine03.bm hns.1 hns.2
    have hh3 := hh.draw mine03.bm mine03.src
    refine ⟨g, p3, .ref h, rs, rs3, t, t3, m, n, m, n, hs, rfl, hT3, hR, by omega, by omega, by omega, by omega, hh3.inn, mine03.tab, mine03.rect, by omega, by omega, by omega, by omega, fun b H4 e4 hb => ?_⟩
    walk_at "go"
    cases b with
    | true =>
      walk_at "go"
      exact ⟨p3, rs3, t3, _, _, rfl, mine03.same e4, hb.mp rfl⟩
    | false =>
      walk_at "go"
      exact ⟨p', rs', t', _, _, rfl, (mine2.draw mine3.bm mine3.src).same e4, fit2⟩
  · rintro σ H2 ⟨p', rs', t', o4, o5, rfl, mine2, fit2⟩
    walk_at "go"
    exact q p' H2 rs' t' mine2 fit2
def spLCell (K : PySem.W.Frag) : Sp := fun vs H Q _ => ∃ (a : Addr) (ns : List Int), vs = [.ref a, .int 0] ∧ SqL K H a (ns.map V.int) ∧ ∀ c, Q (.int c) H
theorem sc_cell : FnScope ["_law_script", "_law_index"] ["_law_script", "_law_index"] (defScope s__law_cell) := ⟨rfl, rfl, rfl, by decide +kernel, rfl, by decide +kernel, by decide +kernel⟩
theorem ok_cell (T : Tx K mg) : Ok P w K mg base 1 (He.ga K "_law_cell") ["_law_script", "_law_index"] (spLCell K) := by
  obtain ⟨fd, F⟩ := T.f__law_cell
  refine ⟨fd, F.ok (k := 0) sc_cell (fun vs H Q E h => ?_) (fun cdv A outer s_ H vs Q E hr h => ?_), F.bindsN fun _ _ _ _ _ _ us hl => match us, hl with | [_, _], _ => rfl, F.kp⟩
  · obtain ⟨a, ns, rfl, ha, q⟩ := h
    rfl
  obtain ⟨a, ns, rfl, ha, q⟩ := h
  have hu65 := K3.Room.units65 hr
  have hu64 := Nat.lt_of_succ_lt hu65
  have hu0 := Nat.lt_of_le_of_lt (Nat.le_add_right _ 65) hu65
  refine ⟨_, pss_cons (ps_if (pt_cmpR op_lt (pv 1) (pe_callB call_len_seq (by rfl) T.z_len PySem.boot_len (pa_cons (pv 0) pa_nil)) (nomark _)) (pss_one (ps_ret (pe_ix ix_list (pv 0) (pv 1) (fun _ _ => rfl)))) pss_nil)
      (pss_one (ps_ret pe_int)), ?_⟩
  walk_at "go"
  refine ⟨a, _, rfl, .inl ha, ?_⟩
  rw [List.length_map]
  walk_at "go"
  cases ns with
  | nil =>
    rw [decide_eq_false (by decide)]
    walk_at "go"
    exact q 0
  | cons c ns =>
    rw [decide_eq_true (by show (0 : Int) < ((ns.length + 1 : Nat) : Int); omega)]
    walk_at "go"
    refine ⟨a, _, 0, .int c, rfl, rfl, ha, atI_nat (j := 0) rfl, ?_⟩
    exact q c
end
/-! ### a grid with its sums fits itself -/
theorem sum_add (f g : Nat → Int) : ∀ l : List Nat, (l.map fun c => f c + g c).sum = (l.map f).sum + (l.map g).sum
  | [] => rfl
  | x :: l => by simp only [List.map_cons, List.sum_cons, sum_add f g l]; omega
theorem sum_zero : ∀ l : List Nat, (l.map fun _ => (0 : Int)).sum = 0
  | [] => rfl
  | _ :: l => by simp only [List.map_cons, List.sum_cons, sum_zero l]; rfl
theorem sum_getD (r : List Int) : ((List.range r.length).map fun c => r.getD c 0).sum = r.sum := by
  induction r with
  | nil => rfl
  | cons x r ih =>
    rw [List.length_cons, List.range_succ_eq_map, List.map_cons, List.map_map, List.sum_cons, List.sum_cons, ← ih]
    rfl
theorem fubini (k : Nat) : ∀ t : List (List Int), (∀ r ∈ t, r.length = k) → ((List.range k).map fun c => (colOf t c).sum).sum = (t.map List.sum).sum
  | [], _ => by
    show ((List.range k).map fun _ => (0 : Int)).sum = 0
    exact sum_zero _
  | r :: t, h => by
    have ih := fubini k t fun r hr => h r (List.mem_cons_of_mem _ hr)
    have e : ((List.range k).map fun c => (colOf (r :: t) c).sum) = (List.range k).map fun c => r.getD c 0 + (colOf t c).sum := rfl
    rw [e, sum_add, ih, List.map_cons, List.sum_cons, ← h r (List.mem_cons_self ..), sum_getD]
theorem fit_self {t : List (List Int)} {k m : Nat} (hk : ∀ r ∈ t, r.length = k ∧ ∀ x ∈ r, 0 ≤ x) (hm : t.length = m) (hs : List (Nat × Nat)) : Fit (withSums k t) hs (withSums k t) (m + 1) (k + 1) := by
  have sum_nn : ∀ l : List Int, (∀ x ∈ l, 0 ≤ x) → 0 ≤ l.sum := by
    intro l
    induction l with
    | nil => intro _; exact Int.le_refl 0
    | cons x l ih =>
      intro h
      have h1 := h x (List.mem_cons_self ..)
      have h2 := ih fun y hy => h y (List.mem_cons_of_mem _ hy)
      rw [List.sum_cons]
      omega
  have nnA : ∀ r ∈ t.map addSum, ∀ x ∈ r, 0 ≤ x := by
    intro r hr x hx
    obtain ⟨r', hr', rfl⟩ := List.mem_map.mp hr
    unfold addSum at hx
    rcases List.mem_append.mp hx with hx | hx
    · exact (hk r' hr').2 x hx
    · rw [List.mem_singleton.mp hx]
      exact sum_nn _ (hk r' hr').2
  have getD_nn : ∀ (r : List Int) (c : Nat), (∀ x ∈ r, 0 ≤ x) → 0 ≤ r.getD c 0 := by
    intro r c h
    rw [List.getD_eq_getElem?_getD]
    cases e : r[c]? with
    | none => exact Int.le_refl 0
    | some x => exact h x (List.mem_of_getElem? e)
  refine ⟨rect_sums ⟨hm, fun r hr => (hk r hr).1⟩, ?_, ⟨?_, ?_⟩, fun i _ j _ _ => rfl⟩
  · intro r hr x hx
    unfold withSums at hr
    rcases List.mem_append.mp hr with hr | hr
    · exact nnA r hr x hx
    · rw [List.mem_singleton.mp hr] at hx
      obtain ⟨c, _, rfl⟩ := List.mem_map.mp hx
      refine sum_nn _ fun y hy => ?_
      obtain ⟨r', hr', rfl⟩ := List.mem_map.mp hy
      exact getD_nn r' c (nnA r' hr')
  · intro r hr
    unfold withSums at hr
    rcases List.mem_append.mp hr with hr | hr
    · obtain ⟨r', hr', rfl⟩ := List.mem_map.mp hr
      unfold addSum
      rw [List.getLastD_concat, List.dropLast_concat]
    · rw [List.mem_singleton.mp hr, List.range_succ, List.map_append]
      rw [show ((List.range k).map (fun c => (colOf (t.map addSum) c).sum)) ++ [k].map (fun c => (colOf (t.map addSum) c).sum) = ((List.range k).map fun c => (colOf (t.map addSum) c).sum) ++ [(colOf (t.map addSum) k).sum] from rfl, List.getLastD_concat, List.dropLast_concat]
      have c1 : ∀ c ∈ List.range k, (colOf (t.map addSum) c).sum = (colOf t c).sum := by
        intro c hc
        congr 1
        unfold colOf
        rw [List.map_map]
        refine List.map_congr_left fun r hr => ?_
        have := (hk r hr).1
        have hc := List.mem_range.mp hc
        show (addSum r).getD c 0 = r.getD c 0
        unfold addSum
        rw [List.getD_eq_getElem?_getD, List.getD_eq_getElem?_getD, List.getElem?_append_left (by omega)]
      rw [List.map_congr_left c1, fubini k t fun r hr => (hk r hr).1]
      congr 1
      unfold colOf
      rw [List.map_map]
      refine List.map_congr_left fun r hr => ?_
      have := (hk r hr).1
      show (addSum r).getD k 0 = r.sum
      unfold addSum
      rw [List.getD_eq_getElem?_getD, List.getElem?_append_right (by omega), this]
      simp
  · intro c hc
    unfold RightCol
    have e : colOf (withSums k t) c = colOf (t.map addSum) c ++ [(colOf (t.map addSum) c).sum] := by
      unfold withSums
      show (t.map addSum ++ [_]).map _ = _
      rw [List.map_append]
      congr 1
      show [((List.range (k + 1)).map fun c => (colOf (t.map addSum) c).sum).getD c 0] = _
      rw [List.getD_eq_getElem?_getD, List.getElem?_map, List.getElem?_range hc]
      rfl
    rw [e, List.getLastD_concat, List.dropLast_concat]
end K3
end L16_part
section L17_part
set_option Elab.async false
set_option linter.all false
set_option maxRecDepth 100000
set_option maxHeartbeats 1000000
set_option pp.deepTerms.threshold 5
open PySem PySem.Spec PyProof.Rows L2
/-- go on as far as nothing is open -/
local macro_rules | `(tactic| walk_at "go") => `(tactic| repeat (first
  | with_reducible refine w_seq ?_ | with_reducible refine w_next ?_ | with_reducible refine w_set ?_ | with_reducible refine w_drop ?_ | with_reducible refine w_ret ?_ | with_reducible refine w_retN ?_
  | with_reducible refine w_if ?_ | ((with_reducible refine' w_var ?hv ?_); (case hv => exact rfl)) | with_reducible refine w_c ?_ | with_reducible refine w_nil ?_ | with_reducible refine w_cons ?_ | with_reducible refine w_op ?_ | with_reducible refine w_un ?_
  | with_reducible refine w_test ?_ | with_reducible refine w_tB ?_ | with_reducible refine w_not ?_ | with_reducible refine w_and ?_ | with_reducible refine w_or ?_ | with_reducible refine w_bl ?_
  | with_reducible refine w_andV ?_ | with_reducible refine w_orV ?_ | with_reducible refine w_notV ?_ | with_reducible refine w_ifE ?_ | with_reducible refine w_chain ?_ | with_reducible refine w_i0 ?_
  | with_reducible refine w_call ?_ | with_reducible refine w_callS ?_ | with_reducible refine w_cB ?_ | with_reducible refine w_tup ?_ | with_reducible refine w_lst ?_ | with_reducible refine w_fldV ?_
  | with_reducible refine w_neF ?_ | with_reducible refine w_neT ?_ | with_reducible refine w_notN ?_ | with_reducible refine w_isN ?_ | with_reducible refine w_gname ?_ | with_reducible refine w_gsub ?_ | with_reducible refine w_asg ?_ | with_reducible refine w_sl ?_ | with_reducible refine w_noP ?_ | with_reducible refine w_int1 ?_ | with_reducible refine w_part ?_ | with_reducible refine w_yes ?_ | with_reducible refine w_nT ?_ | with_reducible refine w_nF ?_ | with_reducible refine w_iteT ?_ | with_reducible refine w_iteF ?_))
namespace K3
def spLaw (K : PySem.W.Frag) : Sp := fun vs H Q _ => ∃ (a : Addr) (ns : List Int), vs = [.ref a] ∧ SqL K H a (ns.map V.int) ∧ ns.length ≤ 63 ∧ ∀ H', Q (.bl true) H'
theorem fit_same {t u : List (List Int)} {hs hs' : List (Nat × Nat)} {m n : Nat} (h : ∀ c, c ∈ hs ↔ c ∈ hs') : Fit t hs u m n ↔ Fit t hs' u m n := by
  unfold Fit
  simp only [h]
theorem paired_rev {α β : Type} {F : α → β → Prop} : ∀ {xs : List α} {ys : List β}, Paired F xs ys → Paired F xs.reverse ys.reverse
  | _, _, .nil => .nil
  | _, _, .cons h t => by
    rw [List.reverse_cons, List.reverse_cons]
    exact K3.Paired.app (paired_rev t) (.cons h .nil)
theorem same_new {s : Addr} {H H1 H2 : Hp} (h0 : H s = none) (e : Same H H1) (b : BM [s] H1 H2) : Same H H2 := fun c o h => b.at (e _ _ h) (by simpa using fun z => by rw [z, h0] at h; cases h)
/-! ### tables as data -/
def tabD (t : List (List Int)) : PyData := .list (t.map fun r => .list (r.map PyData.int))
theorem rows_dp {K : PySem.W.Frag} {H : Hp} : ∀ {rs : List Addr} {t : List (List Int)}, Paired (RowAt H) rs t → DpAll K H (rs.map V.ref) (t.map fun r => .list (r.map PyData.int))
  | _, _, .nil => .nil
  | _, _, .cons h t => .cons (lst_dp h) (rows_dp t)
theorem tab_dp {K : PySem.W.Frag} {H : Hp} {p : Addr} {rs : List Addr} {t : List (List Int)} (h : Tab H p rs t) : Dp K H (.ref p) (tabD t) := .lst (SqL.of h.at_) (rows_dp h.rows)
theorem lay_rows : ∀ t : List (List Int), PyData.canLayAll0 (t.map fun r => .list (r.map PyData.int)) = true ∧ PyData.depthAll (t.map fun r => .list (r.map PyData.int)) ≤ 2
  | [] => by simp [PyData.canLayAll0, PyData.depthAll]
  | r :: t => by
    obtain ⟨a, b⟩ := lay_rows t
    obtain ⟨c, d⟩ := lay_ints r
    simp only [List.map_cons, PyData.canLayAll0, PyData.depthAll, PyData.canLay0, PyData.depth]
    exact ⟨by rw [a, c]; rfl, by omega⟩
theorem lay_cells : ∀ hs : List (Nat × Nat), PyData.canLayAll0 (hs.map cellD) = true ∧ PyData.depthAll (hs.map cellD) ≤ 5
  | [] => by simp [PyData.canLayAll0, PyData.depthAll]
  | c :: hs => by
    obtain ⟨a, b⟩ := lay_cells hs
    have d : (cellD c).canLay0 = true ∧ (cellD c).depth ≤ 5 := by
      unfold cellD
      exact ⟨rfl, by simp [PyData.depth, PyData.depthAll]⟩
    simp only [List.map_cons, PyData.canLayAll0, PyData.depthAll]
    exact ⟨by rw [a, d.1]; rfl, by omega⟩
def allD (t : List (List Int)) (hs : List (Nat × Nat)) (u : List (List Int)) : PyData := .tuple [tabD t, .list (hs.map cellD), tabD u]
theorem all_lay (t : List (List Int)) (hs : List (Nat × Nat)) (u : List (List Int)) : SeqAt.shaped (allD t hs u) = true ∧ PyData.eqv (allD t hs u) (allD t hs u) = true := by
  obtain ⟨a1, a2⟩ := lay_rows t
  obtain ⟨b1, b2⟩ := lay_cells hs
  obtain ⟨c1, c2⟩ := lay_rows u
  have c : (allD t hs u).canLay0 = true := by
    unfold allD tabD
    simp only [PyData.canLay0, PyData.canLayAll0, a1, b1, c1]
    rfl
  have d : (allD t hs u).depth ≤ 64 := by
    unfold allD tabD
    simp only [PyData.depth, PyData.depthAll]
    omega
  refine ⟨?_, SeqAt.eqv_refl _ c⟩
  unfold SeqAt.shaped
  rw [c, decide_eq_true d]
  rfl
theorem w_rev {K : PySem.W.Frag} {te : TE} {σ : L2.St} {H : Hp} {Q : VK} (h : te σ H fun x H1 => ∃ a xs, x = .ref a ∧ SqL K H1 a xs ∧ ∀ p, H1 p = none → Q (.ref p) (upd H1 p (.lst xs.reverse))) : tRevL K te σ H Q := h
theorem cut_mem {xs : List V} {lo hi : Option Int} {x : V} (h : x ∈ cutV xs lo hi) : x ∈ xs := by
  unfold cutV at h
  exact List.mem_of_mem_drop (List.mem_of_mem_take h)
section
variable {P : Program} {w : World} {K : PySem.W.Frag} {mg : Str → Option Value} {base : Heap}
theorem sc_law : FnScope ["_law_script", "_law_cell_here", "_law_rng_here", "_law_grid", "_law_hidden", "_law_table", "_law_copies", "_law_attempt", "_law_changed", "_law_some", "_law_row"] ["_law_script"] (defScope s_law) := ⟨rfl, rfl, rfl, by decide +kernel, rfl, by decide +kernel, by decide +kernel⟩
theorem ok_law (T : Tx K mg) {fd : FuncData} (F : FunD K "law" "law" (defArgs s_law) (defBody s_law) (defScope s_law) [] [] (He.ga K "law") fd) : FnOk P w K mg base L2.CX0 4 (He.ga K "law") fd ["_law_script"] (spLaw K) := by
  have Ofits := ok_fits (P := P) (w := w) (base := base) T
  have O_law_cells := ok_cells (P := P) (w := w) (base := base) T
  have O_law_cell := ok_cell (P := P) (w := w) (base := base) T
  have O_law_fits := ok_law_fits (P := P) (w := w) (base := base) T
  have O_law_broken := ok_broken (P := P) (w := w) (base := base) T
  have O_law_shifted := ok_shifted (P := P) (w := w) (base := base) T
  have O_law_random_hidden := ok_hidden (P := P) (w := w) (base := base) T
  have O_law_random_grid := ok_grid (P := P) (w := w) (base := base) T
  have O_law_rng := ok_rng (P := P) (w := w) (base := base) T
  refine F.ok (k := 3) sc_law (fun vs H Q E h => ?_) (fun cdv A outer s_ H vs Q E hr h => ?_)
  · obtain ⟨a, ns, rfl, _⟩ := h
    rfl
  obtain ⟨a, ns, rfl, hns, h63, q⟩ := h
  have hu65 := K3.Room.units65 hr
  have hu64 := Nat.lt_of_succ_lt hu65
  have rfits : Room 3 _ := hr.mono (by decide)
  have r_law_cells : Room 1 _ := hr.mono (by decide)
  have r_law_cell : Room 1 _ := hr.mono (by decide)
  have r_law_fits : Room 2 _ := hr.mono (by decide)
  have r_law_broken : Room 3 _ := hr.mono (by decide)
  have r_law_shifted : Room 3 _ := hr.mono (by decide)
  have r_law_random_hidden : Room 3 _ := hr.mono (by decide)
  have r_law_random_grid : Room 3 _ := hr.mono (by decide)
  have r_law_rng : Room 1 _ := hr.mono (by decide)
  refine ⟨_, pss_cons (ps_for (passes_of rfl) (by rfl) (pi_list (pe_op op_cat (pe_lst (pa_cons (pe_f O_law_cell r_law_cell T.g__law_cell (pa_cons (pv 0) (pa_cons pe_int pa_nil))) pa_nil)) (pe_slice sl_list (pv 0) (po_some pe_int) (po_some pe_int)))) (pg_name (i := 1) sc_law.nd rfl (Or.inl rfl)) (pss_cons (ps_set (i := 2) sc_law.nd rfl (Or.inl rfl) (pe_f O_law_rng r_law_rng T.g__law_rng (pa_cons (pv 1) pa_nil)))
      (pss_cons (ps_set (i := 3) sc_law.nd rfl (Or.inl rfl) (pe_f O_law_random_grid r_law_random_grid T.g__law_random_grid (pa_cons (pv 2) pa_nil)))
      (pss_cons (ps_set (i := 4) sc_law.nd rfl (Or.inl rfl) (pe_f O_law_random_hidden r_law_random_hidden T.g__law_random_hidden (pa_cons (pv 2) (pa_cons (pv 3) pa_nil))))
      (pss_cons (ps_set (i := 5) sc_law.nd rfl (Or.inl rfl) (pe_f O_law_shifted r_law_shifted T.g__law_shifted (pa_cons (pv 2) (pa_cons (pv 3) (pa_cons (pv 4) pa_nil)))))
      (pss_cons (ps_set (i := 6) sc_law.nd rfl (Or.inl rfl) (pe_tup (pa_cons (by exact pe_lc (own := [("_law_row", 10)]) (g := gName 10) (tt := tYes) (te := (tCB (fun xs H Q => ∃ p ys, xs = [V.ref p] ∧ (SqL K H p ys ∨ SqT K H p ys) ∧ ∀ l, H l = none → Q (.ref l) (upd H l (.lst ys))) (tCons (tVar 10) tNil))) (by rfl) sc_law.nd (pi_list (pv 3)) (blkOk_by (own := [("_law_row", 10)]) (N := ["_law_script", "_law_cell_here", "_law_rng_here", "_law_grid", "_law_hidden", "_law_table", "_law_copies", "_law_attempt", "_law_changed", "_law_some", "_law_row"]) (sc := defScope s_law) (by decide +kernel)) (fun _ _ _ _ _ => (pg_name (i := 10) sc_law.nd rfl (Or.inl rfl))) (fun _ _ _ _ _ => pts_nil) (fun _ _ _ _ _ => (pe_callTy call_list_of (by rfl) T.z_list (by decide +kernel) (pa_cons (pv 10) pa_nil)))) (pa_cons (pe_callTy call_list_of (by rfl) T.z_list (by decide +kernel) (pa_cons (pv 4) pa_nil)) (pa_cons (by exact pe_lc (own := [("_law_row", 10)]) (g := gName 10) (tt := tYes) (te := (tCB (fun xs H Q => ∃ p ys, xs = [V.ref p] ∧ (SqL K H p ys ∨ SqT K H p ys) ∧ ∀ l, H l = none → Q (.ref l) (upd H l (.lst ys))) (tCons (tVar 10) tNil))) (by rfl) sc_law.nd (pi_list (pv 5)) (blkOk_by (own := [("_law_row", 10)]) (N := ["_law_script", "_law_cell_here", "_law_rng_here", "_law_grid", "_law_hidden", "_law_table", "_law_copies", "_law_attempt", "_law_changed", "_law_some", "_law_row"]) (sc := defScope s_law) (by decide +kernel)) (fun _ _ _ _ _ => (pg_name (i := 10) sc_law.nd rfl (Or.inl rfl))) (fun _ _ _ _ _ => pts_nil) (fun _ _ _ _ _ => (pe_callTy call_list_of (by rfl) T.z_list (by decide +kernel) (pa_cons (pv 10) pa_nil)))) pa_nil)))))
      (pss_cons (ps_if (pw_or (pt_cmpR op_notBl (pe_f Ofits rfits T.g_fits (pa_cons (pv 3) (pa_cons (pv 4) (pa_cons (pv 5) pa_nil)))) pe_bl (nomark _)) (pw_or1 (pt_cmpR op_notBl (pe_f Ofits rfits T.g_fits (pa_cons (pv 3) (pa_cons (pv 4) (pa_cons (pv 3) pa_nil)))) pe_bl (nomark _)))).pt (pss_one (ps_ret pe_bl)) pss_nil)
      (pss_cons (ps_for (passes_of rfl) (by rfl) (pi_range1 rfl T.z_range (pa_cons pe_int pa_nil)) (pg_name (i := 7) sc_law.nd rfl (Or.inl rfl)) (pss_cons (ps_set (i := 8) sc_law.nd rfl (Or.inl rfl) (pe_f O_law_broken r_law_broken T.g__law_broken (pa_cons (pv 2) (pa_cons (pv 3) (pa_cons (pv 5) pa_nil)))))
      (pss_cons (ps_if (pt_cmpR op_ne (pe_f Ofits rfits T.g_fits (pa_cons (pv 3) (pa_cons (pv 4) (pa_cons (pv 8) pa_nil)))) (pe_f O_law_fits r_law_fits T.g__law_fits (pa_cons (pv 3) (pa_cons (pv 4) (pa_cons (pv 8) pa_nil)))) (nomark _)) (pss_one (ps_ret pe_bl)) pss_nil)
      (pss_one (ps_if (pt_cmpR op_ne (pe_f Ofits rfits T.g_fits (pa_cons (pv 3) (pa_cons (pe_callTy call_tuple_of (by rfl) T.z_tuple (by decide +kernel) (pa_cons (pe_revL (pv 4)) pa_nil)) (pa_cons (pv 8) pa_nil)))) (pe_f O_law_fits r_law_fits T.g__law_fits (pa_cons (pv 3) (pa_cons (pv 4) (pa_cons (pv 8) pa_nil)))) (nomark _)) (pss_one (ps_ret pe_bl)) pss_nil)))))
      (pss_one (ps_if (pt_cmpR (op_neD hu64) (pe_tup (pa_cons (pv 3) (pa_cons (pv 4) (pa_cons (pv 5) pa_nil)))) (pv 6) (nomark _)) (pss_one (ps_ret pe_bl)) pss_nil))))))))))
      (pss_cons (ps_set (i := 9) sc_law.nd rfl (Or.inl rfl) (pe_lst (pa_cons (pe_lst (pa_cons pe_int (pa_cons pe_int (pa_cons pe_int pa_nil)))) (pa_cons (pe_lst (pa_cons pe_int (pa_cons pe_int (pa_cons pe_int pa_nil)))) (pa_cons (pe_lst (pa_cons pe_int (pa_cons pe_int (pa_cons pe_int pa_nil)))) pa_nil)))))
      (pss_cons (ps_if (pt_val (pe_f Ofits rfits T.g_fits (pa_cons (pv 9) (pa_cons (pe_lst (pa_cons (pe_tup (pa_cons pe_int (pa_cons pe_int pa_nil))) (pa_cons (pe_tup (pa_cons pe_int (pa_cons pe_int pa_nil))) (pa_cons (pe_tup (pa_cons pe_int (pa_cons pe_int pa_nil))) (pa_cons (pe_tup (pa_cons pe_int (pa_cons pe_int pa_nil))) pa_nil))))) (pa_cons (pe_lst (pa_cons (pe_lst (pa_cons pe_int (pa_cons pe_int (pa_cons pe_int pa_nil)))) (pa_cons (pe_lst (pa_cons pe_int (pa_cons pe_int (pa_cons pe_int pa_nil)))) (pa_cons (pe_lst (pa_cons pe_int (pa_cons pe_int (pa_cons pe_int pa_nil)))) pa_nil)))) pa_nil))))) (pss_one (ps_ret pe_bl)) pss_nil)
      (pss_one (ps_ret (pe_not (pe_f Ofits rfits T.g_fits (pa_cons (pv 9) (pa_cons (pe_f O_law_cells r_law_cells T.g__law_cells (pa_cons (pv 9) pa_nil)) (pa_cons (pe_lst (pa_cons (pe_lst (pa_cons pe_int (pa_cons pe_int (pa_cons pe_int pa_nil)))) (pa_cons (pe_lst (pa_cons pe_int (pa_cons pe_int (pa_cons pe_int pa_nil)))) (pa_cons (pe_lst (pa_cons pe_int (pa_cons pe_int (pa_cons pe_int pa_nil)))) pa_nil)))) pa_nil))))))))), ?_⟩
  walk_at "go"
  refine list_open ?_
  walk_at "go"
  refine ⟨a, ns, rfl, hns, fun c0 => ?_⟩
  walk_at "go"
  refine ⟨(by show 1 ≤ sizeLine; decide), fun p1 hp1 => ?_⟩
  have e1 := Same.new hp1 (.lst [V.int c0])
  walk_at "go"
  refine ⟨a, _, rfl, e1.seq hns, fun p2 hp2 => ?_⟩
  have hx2 : ∀ x ∈ cutV (ns.map V.int) (some 1) (some 3), ∃ c, x = V.int c := fun x hx => by
    obtain ⟨c, _, rfl⟩ := List.mem_map.mp (cut_mem hx)
    exact ⟨c, rfl⟩
  have lx2 : (cutV (ns.map V.int) (some 1) (some 3)).length ≤ 63 := by
    unfold cutV
    rw [List.length_take, List.length_drop, List.length_map]
    omega
  generalize cutV (ns.map V.int) (some 1) (some 3) = xs2 at hp2 hx2 lx2 ⊢
  have e2 := Same.new hp2 (.lst xs2)
  refine ⟨p1, p2, _, _, rfl, rfl, e2 _ _ upd_same, upd_same, Nat.le_trans (show _ ≤ 64 by simp; omega) (by decide), fun p3 hp3 => ?_⟩
  have h3 : (upd (upd (upd H p1 (.lst [V.int c0])) p2 (.lst xs2)) p3 (.lst ([V.int c0] ++ xs2))) p3 = some (.lst ([V.int c0] ++ xs2)) := upd_same
  have cellI : ∀ x ∈ [V.int c0] ++ xs2, ∃ c, x = V.int c := fun x hx => by
    rcases List.mem_append.mp hx with hx | hx
    · exact ⟨c0, List.mem_singleton.mp hx⟩
    · exact hx2 x hx
  generalize upd (upd (upd H p1 (.lst [V.int c0])) p2 (.lst xs2)) p3 (.lst ([V.int c0] ++ xs2)) = H0 at h3 ⊢
  generalize [V.int c0] ++ xs2 = cells at h3 cellI ⊢
  clear e1 e2 hns
  refine ⟨p3, rfl, ⟨_, SqL.of h3⟩, ?_⟩
  refine for_list (xs := cells) (fun (i : Nat) σ H' => ∃ o1 o2 o3 o4 o5 o6 o7 o8 : Option V, σ = [some (.ref a), o1, o2, o3, o4, o5, o6, o7, o8, none, none] ∧ Same H0 H')
    ⟨none, none, none, none, none, none, none, none, rfl, Same.refl _⟩ (fun i σ H' _ ⟨_, _, _, _, _, _, _, _, _, e⟩ => SqL.of (e _ _ h3)) ?_ ?_
  · rintro i x σ H1 hxi ⟨o1, o2, o3, o4, o5, o6, o7, o8, rfl, e1⟩
    obtain ⟨c, rfl⟩ := cellI x (List.mem_of_getElem? hxi)
    walk_at "go"
    refine ⟨c, rfl, fun s H2 hs1 e2 s2 => ?_⟩
    walk_at "go"
    refine ⟨s, rfl, s2, fun g H3 rs t k b3 s3 new3 tab3 hk k1 k5 l1 l5 => ?_⟩
    walk_at "go"
    have rectG : Rect (withSums k t) (t.length + 1) (k + 1) := rect_sums ⟨rfl, fun r hr => (hk r hr).1⟩
    have gs : g ≠ s ∧ ∀ r ∈ rs, r ≠ s := ⟨src_ne s2 new3.p0, fun r hr => src_ne s2 (new3.rs0 r hr)⟩
    have fitG : ∀ hs, Fit (withSums k t) hs (withSums k t) (t.length + 1) (k + 1) := fun hs => fit_self hk rfl hs
    generalize withSums k t = G at tab3 rectG fitG
    generalize hm : t.length + 1 = m at rectG fitG
    generalize hn : k + 1 = n at rectG fitG
    have m2 : 2 ≤ m ∧ m ≤ 6 := by omega
    have n2 : 2 ≤ n ∧ n ≤ 6 := by omega
    clear hk new3
    obtain ⟨a0, r0, ha0, hr0, hx0⟩ := row_of tab3 (i := 0) (by rw [rectG.1]; omega)
    refine ⟨s, g, rs, G, n, r0, rfl, s3, tab3, hr0, rectG.2 _ (List.mem_of_getElem? hr0), by rw [rectG.1]; omega, by omega, fun h H4 ws hs hp4 b4 s4 hid4 => ?_⟩
    rw [rectG.1] at hid4
    have hl4 : HidL s H4 h ws hs m n := ⟨hid4.at_, src_ne s3 hp4, s4, hid4.cells, hid4.mem, hid4.len⟩
    have tab4 := tab3.bm b4 gs.1 gs.2
    walk_at "go"
    refine ⟨s, g, h, rs, G, ws, hs, m, n, rfl, s4, tab4, gs, rectG, hl4, fitG hs, by omega, by omega, by omega, by omega, fun p H5 rs5 u mine5 fit5 => ?_⟩
    have tab5 := tab4.bm mine5.bm gs.1 gs.2
    have hl5 := hl4.draw mine5.bm mine5.src
    have ps := mine5.notS
    have s5 := mine5.src
    have b25 := (b3.trans b4).trans mine5.bm
    have utab := mine5.tab
    have urect := mine5.rect
    have S0 : ∀ {H' : Hp}, BM [s] H5 H' → Same H0 H' := fun b => e1.trans (same_new hs1 e2 (b25.trans b))
    clear mine5
    walk_at "go"
    refine lcAt_open (list_open ?_)
    walk_at "go"
    refine ⟨g, rfl, ⟨_, SqL.of tab5.at_⟩, fun d1 hd1 => ?_⟩
    refine rows_new (fun r => r) tab5 (by rw [rectG.1]; omega) hd1 (fun x => rfl) ?_ ?_
    · intro b r H6 e6 hr hb Q q
      walk_at "go"
      refine ⟨b, _, rfl, .inl (SqL.of hb), fun l hl => ?_⟩
      exact q l _ hl (Same.new hl _) upd_same
    intro H6 cs1 e6 ct1 _ cf1
    rw [List.map_id'] at ct1
    walk_at "go"
    have hl6 := hl5.same e6
    refine ⟨h, ws, rfl, .inl (SqL.of hl6.at_), fun d2 hd2 => ?_⟩
    have e7 := Same.new hd2 (.lst ws)
    have h7 : (upd H6 d2 (.lst ws)) d2 = some (.lst ws) := upd_same
    generalize upd H6 d2 (.lst ws) = H7 at e7 h7 ⊢
    have e57 := e6.trans e7
    have u7 := utab.same e57
    walk_at "go"
    refine lcAt_open (list_open ?_)
    walk_at "go"
    refine ⟨p, rfl, ⟨_, SqL.of u7.at_⟩, fun d3 hd3 => ?_⟩
    refine rows_new (fun r => r) u7 (by rw [urect.1]; omega) hd3 (fun x => rfl) ?_ ?_
    · intro b r H8 e8 hr hb Q q
      walk_at "go"
      refine ⟨b, _, rfl, .inl (SqL.of hb), fun l hl => ?_⟩
      exact q l _ hl (Same.new hl _) upd_same
    intro H8 cs3 e8 ct3 _ cf3
    rw [List.map_id'] at ct3
    walk_at "go"
    refine ⟨(by show 3 ≤ sizeLine; decide), fun d4 hd4 => ?_⟩
    have e9 := Same.new hd4 (.tup [V.ref d1, .ref d2, .ref d3])
    have h9 : (upd H8 d4 (.tup [V.ref d1, .ref d2, .ref d3])) d4 = some (.tup [V.ref d1, .ref d2, .ref d3]) := upd_same
    generalize upd H8 d4 (.tup [V.ref d1, .ref d2, .ref d3]) = H9 at e9 h9 ⊢
    have e59 := e57.trans (e8.trans e9)
    have tab9 := tab5.same e59
    have utab9 := utab.same e59
    have hl9 := hl5.same e59
    have s9 := s5.same e59
    have c1 : Tab H9 d1 cs1 G := ct1.same (e7.trans (e8.trans e9))
    have c2 : H9 d2 = some (.lst ws) := (e8.trans e9) _ _ h7
    have c3 : Tab H9 d3 cs3 u := ct3.same e9
    have n1 : d1 ≠ s ∧ ∀ r ∈ cs1, r ≠ s := ⟨src_ne s5 hd1, fun r hr => src_ne s5 (cf1 r hr).1⟩
    have n2' : d2 ≠ s := src_ne (s5.same e6) hd2
    have n3 : d3 ≠ s ∧ ∀ r ∈ cs3, r ≠ s := ⟨src_ne (s5.same e57) hd3, fun r hr => src_ne (s5.same e57) (cf3 r hr).1⟩
    have n4 : d4 ≠ s := src_ne (s5.same (e57.trans e8)) hd4
    have b59 := BM.of (M := [s]) e59
    clear ct1 ct3 cf1 cf3 h7 e9 e8 e7 e6 u7 hl6
    walk_at "go"
    refine ⟨g, p, .ref h, rs, rs5, G, u, m, n, m, n, hs, rfl, tab9, rectG, by omega, by omega, by omega, by omega, hl9.inn, utab9, urect, by omega, by omega, by omega, by omega, fun b H10 e10 hb => ?_⟩
    obtain rfl : b = true := hb.mpr fit5
    walk_at "go"
    refine ⟨true, true, rfl, rfl, ?_⟩
    rw [show (!decide (true = true)) = false from rfl]
    walk_at "go"
    refine ⟨g, g, .ref h, rs, rs, G, G, m, n, m, n, hs, rfl, tab9.same e10, rectG, by omega, by omega, by omega, by omega, (hl9.same e10).inn, tab9.same e10, rectG, by omega, by omega, by omega, by omega, fun b H11 e11 hb => ?_⟩
    obtain rfl : b = true := hb.mpr (fitG hs)
    refine ⟨true, true, rfl, rfl, ?_⟩
    rw [show (!decide (true = true)) = false from rfl]
    walk_at "go"
    refine rng_open ?_
    walk_at "go"
    refine ⟨10, rfl, by decide, by decide, ?_⟩
    refine for_range (lo := 0) (n := 10) (fun (i : Nat) σ H' => ∃ o7 o8 : Option V, σ = [some (.ref a), some (.int c), some (.ref s), some (.ref g), some (.ref h), some (.ref p), some (.ref d4), o7, o8, none, none] ∧ BM [s] H9 H' ∧ Src H' s) ⟨o7, o8, rfl, BM.of (e10.trans e11), s9.same (e10.trans e11)⟩ ?_ ?_
    · rintro i σ H12 hi ⟨o7, o8, rfl, b12, s12⟩
      walk_at "go"
      have tab12 := tab9.bm b12 gs.1 gs.2
      have utab12 := utab9.bm b12 ps.1 ps.2
      refine ⟨s, g, p, rs, rs5, G, u, m, n, rfl, s12, tab12, gs, rectG, utab12, ps, urect, by omega, by omega, by omega, by omega, fun p' H13 rs' t' m' n' b13 s13 tab' rect' m1' n1' m2' n2' => ?_⟩
      have b913 := b12.trans b13
      have tab13 := tab9.bm b913 gs.1 gs.2
      have hl13 := hl9.draw b913 s13
      walk_at "go"
      refine ⟨g, p', .ref h, rs, rs', G, t', m, n, m', n', hs, rfl, tab13, rectG, by omega, by omega, by omega, by omega, hl13.inn, tab', rect', by omega, by omega, by omega, by omega, fun b1 H14 e14 hb1 => ?_⟩
      walk_at "go"
      refine ⟨g, p', .ref h, rs, rs', G, t', m, n, m', n', hs, rfl, tab13.same e14, rectG, by omega, by omega, by omega, by omega, (hl13.same e14).inn, tab'.same e14, rect', by omega, by omega, by omega, by omega, fun b2 H15 e15 hb2 => ?_⟩
      obtain rfl : b1 = b2 := Bool.eq_iff_iff.mpr (hb1.trans hb2.symm)
      have e135 := e14.trans e15
      refine ⟨by cases b1 <;> rfl, ?_⟩
      rw [decide_eq_true (rfl : V.bl b1 = V.bl b1)]
      walk_at "go"
      have hl15 := hl13.same e135
      refine w_rev ?_
      walk_at "go"
      refine ⟨h, ws, rfl, SqL.of hl15.at_, fun q1 hq1 => ?_⟩
      have e16 := Same.new hq1 (.lst ws.reverse)
      have h16 : (upd H15 q1 (.lst ws.reverse)) q1 = some (.lst ws.reverse) := upd_same
      generalize upd H15 q1 (.lst ws.reverse) = H16 at e16 h16 ⊢
      walk_at "go"
      refine ⟨q1, _, rfl, .inl ⟨SqL.of h16, fun q2 hq2 => ?_⟩⟩
      have e17 := Same.new hq2 (.tup ws.reverse)
      have h17 : (upd H16 q2 (.tup ws.reverse)) q2 = some (.tup ws.reverse) := upd_same
      generalize upd H16 q2 (.tup ws.reverse) = H17 at e17 h17 ⊢
      have e137 := e135.trans (e16.trans e17)
      have hl17 := hl13.same e137
      walk_at "go"
      refine ⟨g, p', .ref q2, rs, rs', G, t', m, n, m', n', hs.reverse, rfl, tab13.same e137, rectG, by omega, by omega, by omega, by omega, ⟨q2, _, rfl, .inr (SqT.of h17), paired_rev hl17.cells, fun c hc => hl17.mem c (List.mem_reverse.mp hc), by rw [List.length_reverse]; exact hl17.len⟩, tab'.same e137, rect', by omega, by omega, by omega, by omega, fun b3 H18 e18 hb3 => ?_⟩
      have e138 := e137.trans e18
      walk_at "go"
      refine ⟨g, p', .ref h, rs, rs', G, t', m, n, m', n', hs, rfl, tab13.same e138, rectG, by omega, by omega, by omega, by omega, (hl13.same e138).inn, tab'.same e138, rect', by omega, by omega, by omega, by omega, fun b4 H19 e19 hb4 => ?_⟩
      obtain rfl : b3 = b4 := Bool.eq_iff_iff.mpr (hb3.trans ((fit_same fun c => List.mem_reverse).trans hb4.symm))
      refine ⟨by cases b3 <;> rfl, ?_⟩
      rw [decide_eq_true (rfl : V.bl b3 = V.bl b3)]
      walk_at "go"
      have e139 := e138.trans e19
      exact ⟨_, _, rfl, b913.same e139, s13.same e139⟩
    · rintro σ H12 ⟨o7, o8, rfl, b12, s12⟩
      have tab12 := tab9.bm b12 gs.1 gs.2
      have utab12 := utab9.bm b12 ps.1 ps.2
      have hl12 := hl9.draw b12 s12
      have c12 := c1.bm b12 n1.1 n1.2
      have c32 := c3.bm b12 n3.1 n3.2
      have c22 := b12.at c2 (by simpa using n2')
      have h12 := b12.at h9 (by simpa using n4)
      walk_at "go"
      refine ⟨(by show 3 ≤ sizeLine; decide), fun d5 hd5 => ?_⟩
      have e13 := Same.new hd5 (.tup [V.ref g, .ref h, .ref p])
      have h13 : (upd H12 d5 (.tup [V.ref g, .ref h, .ref p])) d5 = some (.tup [V.ref g, .ref h, .ref p]) := upd_same
      generalize upd H12 d5 (.tup [V.ref g, .ref h, .ref p]) = H13 at e13 h13 ⊢
      walk_at "go"
      obtain ⟨sh, er⟩ := all_lay G hs u
      have hl13 := hl12.same e13
      refine ⟨allD G hs u, allD G hs u, ?_, ?_, sh, sh, ?_⟩
      · exact Dp.tup (SqT.of h13) (.cons (tab_dp (tab12.same e13)) (.cons (Dp.lst (SqL.of hl13.at_) (cells_dp hl13.cells)) (.cons (tab_dp (utab12.same e13)) .nil)))
      · exact Dp.tup (SqT.of (e13 _ _ h12)) (.cons (tab_dp (c12.same e13)) (.cons (Dp.lst (SqL.of (e13 _ _ c22)) (cells_dp hl13.cells)) (.cons (tab_dp (c32.same e13)) .nil)))
      rw [er]
      walk_at "go"
      exact ⟨_, _, _, _, _, _, _, _, rfl, S0 ((b59.trans b12).same e13)⟩
  · rintro σ H1 ⟨o1, o2, o3, o4, o5, o6, o7, o8, rfl, e1⟩
    clear h3 cellI
    walk_at "go"
    refine ⟨(by show 3 ≤ sizeLine; decide), fun r1 hr1 => ?_⟩
    have f1 := Same.new hr1 (.lst [V.int 1, .int 1, .int 2])
    have g1 : (upd H1 r1 (.lst [V.int 1, .int 1, .int 2])) r1 = some (.lst (([1, 1, 2] : List Int).map V.int)) := upd_same
    generalize upd H1 r1 (.lst [V.int 1, .int 1, .int 2]) = H2 at f1 g1 ⊢
    walk_at "go"
    refine ⟨(by show 3 ≤ sizeLine; decide), fun r2 hr2 => ?_⟩
    have f2 := Same.new hr2 (.lst [V.int 1, .int 1, .int 2])
    have g2 : (upd H2 r2 (.lst [V.int 1, .int 1, .int 2])) r2 = some (.lst (([1, 1, 2] : List Int).map V.int)) := upd_same
    generalize upd H2 r2 (.lst [V.int 1, .int 1, .int 2]) = H3 at f2 g2 ⊢
    walk_at "go"
    refine ⟨(by show 3 ≤ sizeLine; decide), fun r3 hr3 => ?_⟩
    have f3 := Same.new hr3 (.lst [V.int 2, .int 2, .int 4])
    have g3 : (upd H3 r3 (.lst [V.int 2, .int 2, .int 4])) r3 = some (.lst (([2, 2, 4] : List Int).map V.int)) := upd_same
    generalize upd H3 r3 (.lst [V.int 2, .int 2, .int 4]) = H4 at f3 g3 ⊢
    walk_at "go"
    refine ⟨(by show 3 ≤ sizeLine; decide), fun sm hsm => ?_⟩
    have f4 := Same.new hsm (.lst [V.ref r1, .ref r2, .ref r3])
    have some4 : Tab (upd H4 sm (.lst [V.ref r1, .ref r2, .ref r3])) sm [r1, r2, r3] [[1, 1, 2], [1, 1, 2], [2, 2, 4]] := ⟨upd_same, .cons ((f2.trans (f3.trans f4)) _ _ g1) (.cons ((f3.trans f4) _ _ g2) (.cons (f4 _ _ g3) .nil))⟩
    have rect4 : Rect [[1, 1, 2], [1, 1, 2], [2, 2, 4]] 3 3 := ⟨rfl, by simp⟩
    generalize upd H4 sm (.lst [V.ref r1, .ref r2, .ref r3]) = H5 at some4 ⊢
    clear f1 f2 f3 f4 g1 g2 g3 hr1 hr2 hr3 hsm
    walk_at "go"
    refine ⟨(by show 2 ≤ sizeLine; decide), fun t1 ht1 => ?_⟩
    have f1 := Same.new ht1 (.tup [V.int 0, .int 0])
    have g1 : CellAt (upd H5 t1 (.tup [V.int 0, .int 0])) (.ref t1) (0, 0) := ⟨t1, rfl, upd_same⟩
    generalize upd H5 t1 (.tup [V.int 0, .int 0]) = H6 at f1 g1 ⊢
    walk_at "go"
    refine ⟨(by show 2 ≤ sizeLine; decide), fun t2 ht2 => ?_⟩
    have f2 := Same.new ht2 (.tup [V.int 0, .int 1])
    have g2 : CellAt (upd H6 t2 (.tup [V.int 0, .int 1])) (.ref t2) (0, 1) := ⟨t2, rfl, upd_same⟩
    generalize upd H6 t2 (.tup [V.int 0, .int 1]) = H7 at f2 g2 ⊢
    walk_at "go"
    refine ⟨(by show 2 ≤ sizeLine; decide), fun t3 ht3 => ?_⟩
    have f3 := Same.new ht3 (.tup [V.int 1, .int 0])
    have g3 : CellAt (upd H7 t3 (.tup [V.int 1, .int 0])) (.ref t3) (1, 0) := ⟨t3, rfl, upd_same⟩
    generalize upd H7 t3 (.tup [V.int 1, .int 0]) = H8 at f3 g3 ⊢
    walk_at "go"
    refine ⟨(by show 2 ≤ sizeLine; decide), fun t4 ht4 => ?_⟩
    have f4 := Same.new ht4 (.tup [V.int 1, .int 1])
    have g4 : CellAt (upd H8 t4 (.tup [V.int 1, .int 1])) (.ref t4) (1, 1) := ⟨t4, rfl, upd_same⟩
    generalize upd H8 t4 (.tup [V.int 1, .int 1]) = H9 at f4 g4 ⊢
    walk_at "go"
    refine ⟨(by show 4 ≤ sizeLine; decide), fun hl hhl => ?_⟩
    have f5 := Same.new hhl (.lst [V.ref t1, .ref t2, .ref t3, .ref t4])
    have hid : HidIn K (upd H9 hl (.lst [V.ref t1, .ref t2, .ref t3, .ref t4])) (.ref hl) [(0, 0), (0, 1), (1, 0), (1, 1)] 3 3 := ⟨hl, _, rfl, .inl (SqL.of upd_same), .cons (g1.same (f2.trans (f3.trans (f4.trans f5)))) (.cons (g2.same (f3.trans (f4.trans f5))) (.cons (g3.same (f4.trans f5)) (.cons (g4.same f5) .nil))), by decide, by decide⟩
    have some9 := some4.same (f1.trans (f2.trans (f3.trans (f4.trans f5))))
    generalize upd H9 hl (.lst [V.ref t1, .ref t2, .ref t3, .ref t4]) = H10 at some9 hid ⊢
    clear f1 f2 f3 f4 f5 g1 g2 g3 g4 ht1 ht2 ht3 ht4 hhl some4
    walk_at "go"
    refine ⟨(by show 3 ≤ sizeLine; decide), fun r1 hr1 => ?_⟩
    have f1 := Same.new hr1 (.lst [V.int 2, .int 0, .int 2])
    have g1 : (upd H10 r1 (.lst [V.int 2, .int 0, .int 2])) r1 = some (.lst (([2, 0, 2] : List Int).map V.int)) := upd_same
    generalize upd H10 r1 (.lst [V.int 2, .int 0, .int 2]) = H11 at f1 g1 ⊢
    walk_at "go"
    refine ⟨(by show 3 ≤ sizeLine; decide), fun r2 hr2 => ?_⟩
    have f2 := Same.new hr2 (.lst [V.int 2, .int 0, .int 2])
    have g2 : (upd H11 r2 (.lst [V.int 2, .int 0, .int 2])) r2 = some (.lst (([2, 0, 2] : List Int).map V.int)) := upd_same
    generalize upd H11 r2 (.lst [V.int 2, .int 0, .int 2]) = H12 at f2 g2 ⊢
    walk_at "go"
    refine ⟨(by show 3 ≤ sizeLine; decide), fun r3 hr3 => ?_⟩
    have f3 := Same.new hr3 (.lst [V.int 2, .int 2, .int 4])
    have g3 : (upd H12 r3 (.lst [V.int 2, .int 2, .int 4])) r3 = some (.lst (([2, 2, 4] : List Int).map V.int)) := upd_same
    generalize upd H12 r3 (.lst [V.int 2, .int 2, .int 4]) = H13 at f3 g3 ⊢
    walk_at "go"
    refine ⟨(by show 3 ≤ sizeLine; decide), fun tb htb => ?_⟩
    have f4 := Same.new htb (.lst [V.ref r1, .ref r2, .ref r3])
    have tab14 : Tab (upd H13 tb (.lst [V.ref r1, .ref r2, .ref r3])) tb [r1, r2, r3] [[2, 0, 2], [2, 0, 2], [2, 2, 4]] := ⟨upd_same, .cons ((f2.trans (f3.trans f4)) _ _ g1) (.cons ((f3.trans f4) _ _ g2) (.cons (f4 _ _ g3) .nil))⟩
    have f14 := f1.trans (f2.trans (f3.trans f4))
    have some14 := some9.same f14
    have hid14 : HidIn K (upd H13 tb (.lst [V.ref r1, .ref r2, .ref r3])) (.ref hl) [(0, 0), (0, 1), (1, 0), (1, 1)] 3 3 := by
      obtain ⟨pp, ww, e, hp, hw, x1, x2⟩ := hid
      exact ⟨pp, ww, e, hp.elim (fun z => .inl (f14.seq z)) (fun z => .inr (f14.sqt z)), L2.Paired.mapP hw fun _ _ z => z.same f14, x1, x2⟩
    generalize upd H13 tb (.lst [V.ref r1, .ref r2, .ref r3]) = H14 at tab14 some14 hid14 ⊢
    clear f1 f2 f3 f4 f14 g1 g2 g3 hr1 hr2 hr3 htb some9 hid
    walk_at "go"
    refine ⟨sm, tb, .ref hl, _, _, _, _, 3, 3, 3, 3, _, rfl, some14, rect4, by decide, by decide, by decide, by decide, hid14, tab14, ⟨rfl, by simp⟩, by decide, by decide, by decide, by decide, fun b H15 e15 hb => ?_⟩
    obtain rfl : b = false := by
      cases b with
      | false => rfl
      | true =>
        have := (hb.mp rfl).2.2.1.2 0 (by decide)
        exact absurd this (by unfold RightCol colOf; decide)
    have some15 := some14.same e15
    clear some14 hid14 tab14
    walk_at "go"
    refine ⟨sm, _, _, 3, _, rfl, some15, rfl, rfl, by decide, by decide, fun hc H16 wc e16 hp16 h16 hw16 => ?_⟩
    have some16 := some15.same e16
    walk_at "go"
    refine ⟨(by show 3 ≤ sizeLine; decide), fun r1 hr1 => ?_⟩
    have f1 := Same.new hr1 (.lst [V.int 2, .int 2, .int 4])
    have g1 : (upd H16 r1 (.lst [V.int 2, .int 2, .int 4])) r1 = some (.lst (([2, 2, 4] : List Int).map V.int)) := upd_same
    generalize upd H16 r1 (.lst [V.int 2, .int 2, .int 4]) = H17 at f1 g1 ⊢
    walk_at "go"
    refine ⟨(by show 3 ≤ sizeLine; decide), fun r2 hr2 => ?_⟩
    have f2 := Same.new hr2 (.lst [V.int 2, .int 2, .int 4])
    have g2 : (upd H17 r2 (.lst [V.int 2, .int 2, .int 4])) r2 = some (.lst (([2, 2, 4] : List Int).map V.int)) := upd_same
    generalize upd H17 r2 (.lst [V.int 2, .int 2, .int 4]) = H18 at f2 g2 ⊢
    walk_at "go"
    refine ⟨(by show 3 ≤ sizeLine; decide), fun r3 hr3 => ?_⟩
    have f3 := Same.new hr3 (.lst [V.int 4, .int 4, .int 8])
    have g3 : (upd H18 r3 (.lst [V.int 4, .int 4, .int 8])) r3 = some (.lst (([4, 4, 8] : List Int).map V.int)) := upd_same
    generalize upd H18 r3 (.lst [V.int 4, .int 4, .int 8]) = H19 at f3 g3 ⊢
    walk_at "go"
    refine ⟨(by show 3 ≤ sizeLine; decide), fun tb2 htb2 => ?_⟩
    have f4 := Same.new htb2 (.lst [V.ref r1, .ref r2, .ref r3])
    have tab20 : Tab (upd H19 tb2 (.lst [V.ref r1, .ref r2, .ref r3])) tb2 [r1, r2, r3] [[2, 2, 4], [2, 2, 4], [4, 4, 8]] := ⟨upd_same, .cons ((f2.trans (f3.trans f4)) _ _ g1) (.cons ((f3.trans f4) _ _ g2) (.cons (f4 _ _ g3) .nil))⟩
    have f20 := f1.trans (f2.trans (f3.trans f4))
    have some20 := some16.same f20
    have hid20 : HidIn K (upd H19 tb2 (.lst [V.ref r1, .ref r2, .ref r3])) (.ref hc) (cellsOf 3 3).dropLast 3 3 := ⟨hc, wc, rfl, .inl (SqL.of (f20 _ _ h16)), L2.Paired.mapP hw16 fun _ _ z => z.same f20, fun _ z => z, by decide⟩
    generalize upd H19 tb2 (.lst [V.ref r1, .ref r2, .ref r3]) = H20 at tab20 some20 hid20 ⊢
    refine ⟨sm, tb2, .ref hc, _, _, _, _, 3, 3, 3, 3, _, rfl, some20, rect4, by decide, by decide, by decide, by decide, hid20, tab20, ⟨rfl, by simp⟩, by decide, by decide, by decide, by decide, fun b H21 e21 hb => ?_⟩
    obtain rfl : b = false := by
      cases b with
      | false => rfl
      | true =>
        have := (hb.mp rfl).2.2.2 2 (by decide) 2 (by decide) (by decide)
        exact absurd this (by decide)
    exact ⟨false, rfl, q H21⟩
end
end K3
end L17_part
section M1_part
set_option Elab.async false
set_option linter.all false
set_option maxRecDepth 100000
set_option maxHeartbeats 0
namespace K3
open PySem PySem.Spec PyProof.Rows L2
theorem facts {P : Program} {w : World} {K : PySem.W.Frag} {h : Heap} {mg : Str → Option Value} {f : Addr} (X : K.In h) (G : h.Ns mainGlobals mg) (hfa : mg ("law" : Str) = some (.ref f)) (c : He.SaysD D.fa D.fn K) :
    ∃ fd : FuncData, (∀ (s : Shared) (v : Value), BindsTo s fd ⟨[v], []⟩ [("_law_script", v)]) ∧ ∀ base : Heap, K.In base → base.Ns mainGlobals mg → FnOk P w K mg base L2.CX0 4 f fd ["_law_script"] (spLaw K) := by
  have T : Tx K mg := ⟨c, h, X, G⟩
  obtain ⟨fd, F⟩ := T.f_law
  have e2 := hfa.symm.trans T.g_law
  cases e2
  have b := FunD.bindsA (ps := ["_law_script"]) F fun _ _ _ _ _ _ us hl => match us, hl with | [_], _ => rfl
  exact ⟨fd, fun s v => b s [v] rfl, fun base _ _ => ok_law T F⟩
end K3
open PySem PySem.W PySem.Calls PyProof.Rows
theorem PySem.Challenge.cw_skiphall_k38_tables_that_fit_but_for_one_holds : PySem.Challenge.rw_skiphall_k38_tables_that_fit_but_for_one.Holds := by
  w_on; o_law
  refine HandSHeadRun.head_any (r := OpenLaw.row PySem.Challenge.rw_skiphall_k38_tables_that_fit_but_for_one) (q := K3.qv) (H := K3.hk) (ob := K3.ob) (M := 8000) (loose := K3.loose) (d := HandSHeadRun.topDef (OpenLaw.row PySem.Challenge.rw_skiphall_k38_tables_that_fit_but_for_one).prog 28) (kwd := []) K3.ob_eq
    (by kernel_rfl) (fun s => by kernel_rfl) K3.run (by kernel_rfl) (by kernel_rfl) (by kernel_rfl) (by rfl) (by first | assumption | decide +kernel) (by decide +kernel) ⟨rfl, rfl, rfl, rfl, rfl, by decide +kernel⟩ ?hw ?hc
  case hw => w_witness2
  case hc =>
    refine L2.walk_ofE (l := PySem.Challenge.rw_skiphall_k38_tables_that_fit_but_for_one) (n := 63) (k := 4) (x := "_law_script") (CX := L2.CX0) rfl (by decide) (by kernel_rfl) ⟨rfl, by decide, by decide⟩ ?F (fun _ _ _ _ z => z)
    intro w mg fa h Y G hmg0
    obtain ⟨K, KX, c⟩ := Y
    have hmg : mg ("law" : PySem.Str) = some (.ref fa) := by
      have e : (HandSHeadRun.topDef (OpenLaw.row PySem.Challenge.rw_skiphall_k38_tables_that_fit_but_for_one).prog 28).name = ("law" : PySem.Str) := by kernel_rfl
      rw [← e]
      exact hmg0
    obtain ⟨fd, hb, hF⟩ := K3.facts (P := (PySem.Challenge.rw_skiphall_k38_tables_that_fit_but_for_one).prog) (w := w) KX G hmg c
    exact ⟨K, fd, K3.spLaw K, KX, hb, fun H a ns hl _ hS => ⟨a, ns, rfl, hS, hl, fun _ => rfl⟩, hF⟩
end M1_part
