import PyProof.Rows.All
import Wide.All
import OpenK.AllK
import Wide.FinOn
import PySem.Challenge.RW_lanescroll_k41_heads_and_their_bodies
import HandS.ForMost
import HandS.ForExc
import HandS.IsInst
import HandS.TupLe
import HandS.Wide
import HandS.Defaults
import HandS.ExcIs
import HandS.Style
import HandS.Walk
import KE.KCallOwn
import KE.KSuper
import HandS.FStr
import HandS.MakeKwOnly
import HandS.Star
import PyProof.CollectIter
import PyProof.WalksMore
import HandS.CallLocal
import HandS.ExcOwn
import HandS.TupAny
import HandS.Deep
import KE.DatumOrd
set_option Elab.async false
set_option linter.all false
set_option maxRecDepth 100000
set_option maxHeartbeats 4000000
namespace LK
open PySem PySem.Spec PyProof.Rows L2
def topS (i : Nat) : Stmt := PySem.Challenge.pw_lanescroll_k41_heads_and_their_bodies.main.body.getD i (.Pass ⟨0, 0, 0, 0⟩)
abbrev s_is_number : Stmt := topS 7
abbrev N_is_number : List Str := ["thing"]
theorem sc_is_number : FnScope N_is_number ["thing"] (defScope s_is_number) := ⟨rfl, rfl, rfl, by decide +kernel, rfl, by decide +kernel, by decide +kernel⟩
abbrev s_is_whole : Stmt := topS 8
abbrev N_is_whole : List Str := ["thing", "low", "high"]
theorem sc_is_whole : FnScope N_is_whole ["thing", "low", "high"] (defScope s_is_whole) := ⟨rfl, rfl, rfl, by decide +kernel, rfl, by decide +kernel, by decide +kernel⟩
abbrev s_is_bytes : Stmt := topS 9
abbrev N_is_bytes : List Str := ["thing", "byte"]
theorem sc_is_bytes : FnScope N_is_bytes ["thing"] (defScope s_is_bytes) := ⟨rfl, rfl, rfl, by decide +kernel, rfl, by decide +kernel, by decide +kernel⟩
abbrev s_common_divisor : Stmt := topS 11
abbrev N_common_divisor : List Str := ["one", "other"]
theorem sc_common_divisor : FnScope N_common_divisor ["one", "other"] (defScope s_common_divisor) := ⟨rfl, rfl, rfl, by decide +kernel, rfl, by decide +kernel, by decide +kernel⟩
abbrev s_is_fraction : Stmt := topS 12
abbrev N_is_fraction : List Str := ["thing", "top", "bottom"]
theorem sc_is_fraction : FnScope N_is_fraction ["thing"] (defScope s_is_fraction) := ⟨rfl, rfl, rfl, by decide +kernel, rfl, by decide +kernel, by decide +kernel⟩
abbrev s_is_moment : Stmt := topS 13
abbrev N_is_moment : List Str := ["thing"]
theorem sc_is_moment : FnScope N_is_moment ["thing"] (defScope s_is_moment) := ⟨rfl, rfl, rfl, by decide +kernel, rfl, by decide +kernel, by decide +kernel⟩
abbrev s_is_edit : Stmt := topS 16
abbrev N_is_edit : List Str := ["thing", "span", "start", "rate"]
theorem sc_is_edit : FnScope N_is_edit ["thing"] (defScope s_is_edit) := ⟨rfl, rfl, rfl, by decide +kernel, rfl, by decide +kernel, by decide +kernel⟩
abbrev s_is_edits : Stmt := topS 17
abbrev N_is_edits : List Str := ["thing", "edit"]
theorem sc_is_edits : FnScope N_is_edits ["thing"] (defScope s_is_edits) := ⟨rfl, rfl, rfl, by decide +kernel, rfl, by decide +kernel, by decide +kernel⟩
abbrev s_is_seal : Stmt := topS 26
abbrev N_is_seal : List Str := ["thing"]
theorem sc_is_seal : FnScope N_is_seal ["thing"] (defScope s_is_seal) := ⟨rfl, rfl, rfl, by decide +kernel, rfl, by decide +kernel, by decide +kernel⟩
abbrev s_is_wide : Stmt := topS 27
abbrev N_is_wide : List Str := ["thing"]
theorem sc_is_wide : FnScope N_is_wide ["thing"] (defScope s_is_wide) := ⟨rfl, rfl, rfl, by decide +kernel, rfl, by decide +kernel, by decide +kernel⟩
abbrev s_is_units : Stmt := topS 28
abbrev N_is_units : List Str := ["thing"]
theorem sc_is_units : FnScope N_is_units ["thing"] (defScope s_is_units) := ⟨rfl, rfl, rfl, by decide +kernel, rfl, by decide +kernel, by decide +kernel⟩
abbrev s_is_list : Stmt := topS 29
abbrev N_is_list : List Str := ["thing", "low", "high"]
theorem sc_is_list : FnScope N_is_list ["thing", "low", "high"] (defScope s_is_list) := ⟨rfl, rfl, rfl, by decide +kernel, rfl, by decide +kernel, by decide +kernel⟩
abbrev s_is_small_edit : Stmt := topS 30
abbrev N_is_small_edit : List Str := ["edit", "moment"]
theorem sc_is_small_edit : FnScope N_is_small_edit ["edit"] (defScope s_is_small_edit) := ⟨rfl, rfl, rfl, by decide +kernel, rfl, by decide +kernel, by decide +kernel⟩
abbrev s_is_lane_edits : Stmt := topS 31
abbrev N_is_lane_edits : List Str := ["thing", "edit"]
theorem sc_is_lane_edits : FnScope N_is_lane_edits ["thing"] (defScope s_is_lane_edits) := ⟨rfl, rfl, rfl, by decide +kernel, rfl, by decide +kernel, by decide +kernel⟩
abbrev s_written : Stmt := topS 35
abbrev N_written : List Str := ["number", "row", "rest"]
theorem sc_written : FnScope N_written ["number"] (defScope s_written) := ⟨rfl, rfl, rfl, by decide +kernel, rfl, by decide +kernel, by decide +kernel⟩
abbrev s_number_at : Stmt := topS 36
abbrev N_number_at : List Str := ["row", "at", "number", "place", "figure"]
theorem sc_number_at : FnScope N_number_at ["row", "at"] (defScope s_number_at) := ⟨rfl, rfl, rfl, by decide +kernel, rfl, by decide +kernel, by decide +kernel⟩
abbrev s_Numbers_init : Stmt := inClass (topS 41) 0
abbrev N_Numbers_init : List Str := ["self", "body"]
theorem sc_Numbers_init : FnScope N_Numbers_init ["self", "body"] (defScope s_Numbers_init) := ⟨rfl, rfl, rfl, by decide +kernel, rfl, by decide +kernel, by decide +kernel⟩
abbrev s_Numbers_one : Stmt := inClass (topS 41) 1
abbrev N_Numbers_one : List Str := ["self"]
theorem sc_Numbers_one : FnScope N_Numbers_one ["self"] (defScope s_Numbers_one) := ⟨rfl, rfl, rfl, by decide +kernel, rfl, by decide +kernel, by decide +kernel⟩
abbrev s_Numbers_some : Stmt := inClass (topS 41) 2
abbrev N_Numbers_some : List Str := ["self", "many", "place"]
theorem sc_Numbers_some : FnScope N_Numbers_some ["self", "many"] (defScope s_Numbers_some) := ⟨rfl, rfl, rfl, by decide +kernel, rfl, by decide +kernel, by decide +kernel⟩
abbrev s_Numbers_choice : Stmt := inClass (topS 41) 3
abbrev N_Numbers_choice : List Str := ["self", "many", "number"]
theorem sc_Numbers_choice : FnScope N_Numbers_choice ["self", "many"] (defScope s_Numbers_choice) := ⟨rfl, rfl, rfl, by decide +kernel, rfl, by decide +kernel, by decide +kernel⟩
abbrev s_Numbers_is_over : Stmt := inClass (topS 41) 4
abbrev N_Numbers_is_over : List Str := ["self"]
theorem sc_Numbers_is_over : FnScope N_Numbers_is_over ["self"] (defScope s_Numbers_is_over) := ⟨rfl, rfl, rfl, by decide +kernel, rfl, by decide +kernel, by decide +kernel⟩
abbrev s_numbers_in : Stmt := topS 42
abbrev N_numbers_in : List Str := ["body", "found", "at", "pair"]
theorem sc_numbers_in : FnScope N_numbers_in ["body"] (defScope s_numbers_in) := ⟨rfl, rfl, rfl, by decide +kernel, rfl, by decide +kernel, by decide +kernel⟩
abbrev s_body_of : Stmt := topS 43
abbrev N_body_of : List Str := ["numbers", "body", "number"]
theorem sc_body_of : FnScope N_body_of ["numbers"] (defScope s_body_of) := ⟨rfl, rfl, rfl, by decide +kernel, rfl, by decide +kernel, by decide +kernel⟩
abbrev s_edit_numbers : Stmt := topS 44
abbrev N_edit_numbers : List Str := ["edit", "span", "start", "rate"]
theorem sc_edit_numbers : FnScope N_edit_numbers ["edit"] (defScope s_edit_numbers) := ⟨rfl, rfl, rfl, by decide +kernel, rfl, by decide +kernel, by decide +kernel⟩
abbrev s_edits_numbers : Stmt := topS 45
abbrev N_edits_numbers : List Str := ["edits", "found", "edit"]
theorem sc_edits_numbers : FnScope N_edits_numbers ["edits"] (defScope s_edits_numbers) := ⟨rfl, rfl, rfl, by decide +kernel, rfl, by decide +kernel, by decide +kernel⟩
abbrev s_taken_edit : Stmt := topS 46
abbrev N_taken_edit : List Str := ["numbers", "span", "start"]
theorem sc_taken_edit : FnScope N_taken_edit ["numbers"] (defScope s_taken_edit) := ⟨rfl, rfl, rfl, by decide +kernel, rfl, by decide +kernel, by decide +kernel⟩
abbrev s_taken_edits : Stmt := topS 47
abbrev N_taken_edits : List Str := ["numbers", "many", "place"]
theorem sc_taken_edits : FnScope N_taken_edits ["numbers"] (defScope s_taken_edits) := ⟨rfl, rfl, rfl, by decide +kernel, rfl, by decide +kernel, by decide +kernel⟩
abbrev s_taken_head_lane : Stmt := topS 48
abbrev N_taken_head_lane : List Str := ["numbers", "units", "count"]
theorem sc_taken_head_lane : FnScope N_taken_head_lane ["numbers"] (defScope s_taken_head_lane) := ⟨rfl, rfl, rfl, by decide +kernel, rfl, by decide +kernel, by decide +kernel⟩
abbrev s_is_head_lane : Stmt := topS 49
abbrev N_is_head_lane : List Str := ["thing", "units", "count", "edits"]
theorem sc_is_head_lane : FnScope N_is_head_lane ["thing"] (defScope s_is_head_lane) := ⟨rfl, rfl, rfl, by decide +kernel, rfl, by decide +kernel, by decide +kernel⟩
abbrev s_is_head : Stmt := topS 50
abbrev N_is_head : List Str := ["thing", "seal", "wide", "lanes", "lane"]
theorem sc_is_head : FnScope N_is_head ["thing"] (defScope s_is_head) := ⟨rfl, rfl, rfl, by decide +kernel, rfl, by decide +kernel, by decide +kernel⟩
abbrev s_head_body : Stmt := topS 51
abbrev N_head_body : List Str := ["head", "seal", "wide", "lanes", "numbers", "units", "count", "edits"]
theorem sc_head_body : FnScope N_head_body ["head"] (defScope s_head_body) := ⟨rfl, rfl, rfl, by decide +kernel, rfl, by decide +kernel, by decide +kernel⟩
abbrev s_read_head : Stmt := topS 52
abbrev N_read_head : List Str := ["body", "numbers", "seal", "wide", "many", "head", "place"]
theorem sc_read_head : FnScope N_read_head ["body"] (defScope s_read_head) := ⟨rfl, rfl, rfl, by decide +kernel, rfl, by decide +kernel, by decide +kernel⟩
abbrev s_l_digit : Stmt := topS 54
abbrev N_l_digit : List Str := ["_law_state", "_law_base", "_law_found", "_law_number"]
theorem sc_l_digit : FnScope N_l_digit ["_law_state", "_law_base"] (defScope s_l_digit) := ⟨rfl, rfl, rfl, by decide +kernel, rfl, by decide +kernel, by decide +kernel⟩
abbrev s_l_shared : Stmt := topS 55
abbrev N_l_shared : List Str := ["_law_one", "_law_other"]
theorem sc_l_shared : FnScope N_l_shared ["_law_one", "_law_other"] (defScope s_l_shared) := ⟨rfl, rfl, rfl, by decide +kernel, rfl, by decide +kernel, by decide +kernel⟩
abbrev s_l_lowest : Stmt := topS 56
abbrev N_l_lowest : List Str := ["_law_top", "_law_bottom", "_law_share"]
theorem sc_l_lowest : FnScope N_l_lowest ["_law_top", "_law_bottom"] (defScope s_l_lowest) := ⟨rfl, rfl, rfl, by decide +kernel, rfl, by decide +kernel, by decide +kernel⟩
abbrev s_l_figures : Stmt := topS 57
abbrev N_l_figures : List Str := ["_law_number", "_law_found"]
theorem sc_l_figures : FnScope N_l_figures ["_law_number"] (defScope s_l_figures) := ⟨rfl, rfl, rfl, by decide +kernel, rfl, by decide +kernel, by decide +kernel⟩
abbrev s_l_edit_numbers : Stmt := topS 58
abbrev N_l_edit_numbers : List Str := ["_law_row", "_law_span", "_law_start", "_law_rate"]
theorem sc_l_edit_numbers : FnScope N_l_edit_numbers ["_law_row"] (defScope s_l_edit_numbers) := ⟨rfl, rfl, rfl, by decide +kernel, rfl, by decide +kernel, by decide +kernel⟩
abbrev s_l_head_numbers : Stmt := topS 60
abbrev N_l_head_numbers : List Str := ["_law_head_here", "_law_seal", "_law_wide", "_law_lanes", "_law_found", "_law_units", "_law_count", "_law_rows", "_law_row"]
theorem sc_l_head_numbers : FnScope N_l_head_numbers ["_law_head_here"] (defScope s_l_head_numbers) := ⟨rfl, rfl, rfl, by decide +kernel, rfl, by decide +kernel, by decide +kernel⟩
abbrev s_l_all_figures : Stmt := topS 63
abbrev N_l_all_figures : List Str := ["_law_numbers", "_law_found", "_law_number"]
theorem sc_l_all_figures : FnScope N_l_all_figures ["_law_numbers"] (defScope s_l_all_figures) := ⟨rfl, rfl, rfl, by decide +kernel, rfl, by decide +kernel, by decide +kernel⟩
abbrev s_l_refused : Stmt := topS 64
abbrev N_l_refused : List Str := ["_law_ask", "_law_thing", "e"]
theorem sc_l_refused : FnScope N_l_refused ["_law_ask", "_law_thing"] (defScope s_l_refused) := ⟨rfl, rfl, rfl, by decide +kernel, rfl, by decide +kernel, by decide +kernel⟩
abbrev s_l_moment : Stmt := topS 65
abbrev N_l_moment : List Str := ["_law_state", "_law_most"]
theorem sc_l_moment : FnScope N_l_moment ["_law_state", "_law_most"] (defScope s_l_moment) := ⟨rfl, rfl, rfl, by decide +kernel, rfl, by decide +kernel, by decide +kernel⟩
abbrev s_l_edit : Stmt := topS 66
abbrev N_l_edit : List Str := ["_law_state", "_law_most", "_law_span"]
theorem sc_l_edit : FnScope N_l_edit ["_law_state"] (defScope s_l_edit) := ⟨rfl, rfl, rfl, by decide +kernel, rfl, by decide +kernel, by decide +kernel⟩
abbrev s_l_head : Stmt := topS 67
abbrev N_l_head : List Str := ["_law_state", "_law_lanes", "_law_k", "_law_rows", "_law_units", "_law_j"]
theorem sc_l_head : FnScope N_l_head ["_law_state"] (defScope s_l_head) := ⟨rfl, rfl, rfl, by decide +kernel, rfl, by decide +kernel, by decide +kernel⟩
abbrev s_l_no_edit : Stmt := topS 68
abbrev N_l_no_edit : List Str := ["_law_state", "_law_row", "_law_some"]
theorem sc_l_no_edit : FnScope N_l_no_edit ["_law_state", "_law_row"] (defScope s_l_no_edit) := ⟨rfl, rfl, rfl, by decide +kernel, rfl, by decide +kernel, by decide +kernel⟩
abbrev s_l_no_lane : Stmt := topS 69
abbrev N_l_no_lane : List Str := ["_law_state", "_law_lane", "_law_units", "_law_count", "_law_rows", "_law_way"]
theorem sc_l_no_lane : FnScope N_l_no_lane ["_law_state", "_law_lane"] (defScope s_l_no_lane) := ⟨rfl, rfl, rfl, by decide +kernel, rfl, by decide +kernel, by decide +kernel⟩
abbrev s_l_no_head : Stmt := topS 70
abbrev N_l_no_head : List Str := ["_law_state", "_law_head_here", "_law_seal", "_law_wide", "_law_lanes", "_law_way", "_law_at"]
theorem sc_l_no_head : FnScope N_l_no_head ["_law_state", "_law_head_here"] (defScope s_l_no_head) := ⟨rfl, rfl, rfl, by decide +kernel, rfl, by decide +kernel, by decide +kernel⟩
abbrev s_l_kept : Stmt := topS 71
abbrev N_l_kept : List Str := ["_law_head_here", "_law_units", "_law_count", "_law_rows"]
theorem sc_l_kept : FnScope N_l_kept ["_law_head_here"] (defScope s_l_kept) := ⟨rfl, rfl, rfl, by decide +kernel, rfl, by decide +kernel, by decide +kernel⟩
abbrev s_l_kinds : Stmt := topS 72
abbrev N_l_kinds : List Str := ["_law_head_here", "_law_lane"]
theorem sc_l_kinds : FnScope N_l_kinds ["_law_head_here"] (defScope s_l_kinds) := ⟨rfl, rfl, rfl, by decide +kernel, rfl, by decide +kernel, by decide +kernel⟩
abbrev s_law : Stmt := topS 73
abbrev N_law : List Str := ["_law_script", "_law_cell", "_law_state", "_law_head_here", "_law_due", "_law_turn", "_law_handed", "_law_there", "_law_found"]
theorem sc_law : FnScope N_law ["_law_script"] (defScope s_law) := ⟨rfl, rfl, rfl, by decide +kernel, rfl, by decide +kernel, by decide +kernel⟩

structure Txt (K : PySem.W.Frag) (mg : Str → Option Value) : Type where
  a_is_number : Addr
  d_is_number : FuncData
  F_is_number : Fun K "is_number" "is_number" s_is_number a_is_number d_is_number
  g_is_number : mg "is_number" = some (.ref a_is_number)
  b_is_number : Binds K d_is_number ["thing"] []
  a_is_whole : Addr
  d_is_whole : FuncData
  F_is_whole : Fun K "is_whole" "is_whole" s_is_whole a_is_whole d_is_whole
  g_is_whole : mg "is_whole" = some (.ref a_is_whole)
  b_is_whole : Binds K d_is_whole ["thing", "low", "high"] []
  a_is_bytes : Addr
  d_is_bytes : FuncData
  F_is_bytes : Fun K "is_bytes" "is_bytes" s_is_bytes a_is_bytes d_is_bytes
  g_is_bytes : mg "is_bytes" = some (.ref a_is_bytes)
  b_is_bytes : Binds K d_is_bytes ["thing"] []
  a_common_divisor : Addr
  d_common_divisor : FuncData
  F_common_divisor : Fun K "common_divisor" "common_divisor" s_common_divisor a_common_divisor d_common_divisor
  g_common_divisor : mg "common_divisor" = some (.ref a_common_divisor)
  b_common_divisor : Binds K d_common_divisor ["one", "other"] []
  a_is_fraction : Addr
  d_is_fraction : FuncData
  F_is_fraction : Fun K "is_fraction" "is_fraction" s_is_fraction a_is_fraction d_is_fraction
  g_is_fraction : mg "is_fraction" = some (.ref a_is_fraction)
  b_is_fraction : Binds K d_is_fraction ["thing"] []
  a_is_moment : Addr
  d_is_moment : FuncData
  F_is_moment : Fun K "is_moment" "is_moment" s_is_moment a_is_moment d_is_moment
  g_is_moment : mg "is_moment" = some (.ref a_is_moment)
  b_is_moment : Binds K d_is_moment ["thing"] []
  a_is_edit : Addr
  d_is_edit : FuncData
  F_is_edit : Fun K "is_edit" "is_edit" s_is_edit a_is_edit d_is_edit
  g_is_edit : mg "is_edit" = some (.ref a_is_edit)
  b_is_edit : Binds K d_is_edit ["thing"] []
  a_is_edits : Addr
  d_is_edits : FuncData
  F_is_edits : Fun K "is_edits" "is_edits" s_is_edits a_is_edits d_is_edits
  g_is_edits : mg "is_edits" = some (.ref a_is_edits)
  b_is_edits : Binds K d_is_edits ["thing"] []
  a_is_seal : Addr
  d_is_seal : FuncData
  F_is_seal : Fun K "is_seal" "is_seal" s_is_seal a_is_seal d_is_seal
  g_is_seal : mg "is_seal" = some (.ref a_is_seal)
  b_is_seal : Binds K d_is_seal ["thing"] []
  a_is_wide : Addr
  d_is_wide : FuncData
  F_is_wide : Fun K "is_wide" "is_wide" s_is_wide a_is_wide d_is_wide
  g_is_wide : mg "is_wide" = some (.ref a_is_wide)
  b_is_wide : Binds K d_is_wide ["thing"] []
  a_is_units : Addr
  d_is_units : FuncData
  F_is_units : Fun K "is_units" "is_units" s_is_units a_is_units d_is_units
  g_is_units : mg "is_units" = some (.ref a_is_units)
  b_is_units : Binds K d_is_units ["thing"] []
  a_is_list : Addr
  d_is_list : FuncData
  F_is_list : Fun K "is_list" "is_list" s_is_list a_is_list d_is_list
  g_is_list : mg "is_list" = some (.ref a_is_list)
  b_is_list : Binds K d_is_list ["thing", "low", "high"] []
  a_is_small_edit : Addr
  d_is_small_edit : FuncData
  F_is_small_edit : Fun K "is_small_edit" "is_small_edit" s_is_small_edit a_is_small_edit d_is_small_edit
  g_is_small_edit : mg "is_small_edit" = some (.ref a_is_small_edit)
  b_is_small_edit : Binds K d_is_small_edit ["edit"] []
  a_is_lane_edits : Addr
  d_is_lane_edits : FuncData
  F_is_lane_edits : Fun K "is_lane_edits" "is_lane_edits" s_is_lane_edits a_is_lane_edits d_is_lane_edits
  g_is_lane_edits : mg "is_lane_edits" = some (.ref a_is_lane_edits)
  b_is_lane_edits : Binds K d_is_lane_edits ["thing"] []
  a_written : Addr
  d_written : FuncData
  F_written : Fun K "written" "written" s_written a_written d_written
  g_written : mg "written" = some (.ref a_written)
  b_written : Binds K d_written ["number"] []
  a_number_at : Addr
  d_number_at : FuncData
  F_number_at : Fun K "number_at" "number_at" s_number_at a_number_at d_number_at
  g_number_at : mg "number_at" = some (.ref a_number_at)
  b_number_at : Binds K d_number_at ["row", "at"] []
  a_Numbers_init : Addr
  d_Numbers_init : FuncData
  F_Numbers_init : Fun K "__init__" "Numbers.__init__" s_Numbers_init a_Numbers_init d_Numbers_init
  b_Numbers_init : Binds K d_Numbers_init ["self", "body"] []
  a_Numbers_one : Addr
  d_Numbers_one : FuncData
  F_Numbers_one : Fun K "one" "Numbers.one" s_Numbers_one a_Numbers_one d_Numbers_one
  b_Numbers_one : Binds K d_Numbers_one ["self"] []
  a_Numbers_some : Addr
  d_Numbers_some : FuncData
  F_Numbers_some : Fun K "some" "Numbers.some" s_Numbers_some a_Numbers_some d_Numbers_some
  b_Numbers_some : Binds K d_Numbers_some ["self", "many"] []
  a_Numbers_choice : Addr
  d_Numbers_choice : FuncData
  F_Numbers_choice : Fun K "choice" "Numbers.choice" s_Numbers_choice a_Numbers_choice d_Numbers_choice
  b_Numbers_choice : Binds K d_Numbers_choice ["self", "many"] []
  a_Numbers_is_over : Addr
  d_Numbers_is_over : FuncData
  F_Numbers_is_over : Fun K "is_over" "Numbers.is_over" s_Numbers_is_over a_Numbers_is_over d_Numbers_is_over
  b_Numbers_is_over : Binds K d_Numbers_is_over ["self"] []
  a_numbers_in : Addr
  d_numbers_in : FuncData
  F_numbers_in : Fun K "numbers_in" "numbers_in" s_numbers_in a_numbers_in d_numbers_in
  g_numbers_in : mg "numbers_in" = some (.ref a_numbers_in)
  b_numbers_in : Binds K d_numbers_in ["body"] []
  a_body_of : Addr
  d_body_of : FuncData
  F_body_of : Fun K "body_of" "body_of" s_body_of a_body_of d_body_of
  g_body_of : mg "body_of" = some (.ref a_body_of)
  b_body_of : Binds K d_body_of ["numbers"] []
  a_edit_numbers : Addr
  d_edit_numbers : FuncData
  F_edit_numbers : Fun K "edit_numbers" "edit_numbers" s_edit_numbers a_edit_numbers d_edit_numbers
  g_edit_numbers : mg "edit_numbers" = some (.ref a_edit_numbers)
  b_edit_numbers : Binds K d_edit_numbers ["edit"] []
  a_edits_numbers : Addr
  d_edits_numbers : FuncData
  F_edits_numbers : Fun K "edits_numbers" "edits_numbers" s_edits_numbers a_edits_numbers d_edits_numbers
  g_edits_numbers : mg "edits_numbers" = some (.ref a_edits_numbers)
  b_edits_numbers : Binds K d_edits_numbers ["edits"] []
  a_taken_edit : Addr
  d_taken_edit : FuncData
  F_taken_edit : Fun K "taken_edit" "taken_edit" s_taken_edit a_taken_edit d_taken_edit
  g_taken_edit : mg "taken_edit" = some (.ref a_taken_edit)
  b_taken_edit : Binds K d_taken_edit ["numbers"] []
  a_taken_edits : Addr
  d_taken_edits : FuncData
  F_taken_edits : Fun K "taken_edits" "taken_edits" s_taken_edits a_taken_edits d_taken_edits
  g_taken_edits : mg "taken_edits" = some (.ref a_taken_edits)
  b_taken_edits : Binds K d_taken_edits ["numbers"] []
  a_taken_head_lane : Addr
  d_taken_head_lane : FuncData
  F_taken_head_lane : Fun K "taken_head_lane" "taken_head_lane" s_taken_head_lane a_taken_head_lane d_taken_head_lane
  g_taken_head_lane : mg "taken_head_lane" = some (.ref a_taken_head_lane)
  b_taken_head_lane : Binds K d_taken_head_lane ["numbers"] []
  a_is_head_lane : Addr
  d_is_head_lane : FuncData
  F_is_head_lane : Fun K "is_head_lane" "is_head_lane" s_is_head_lane a_is_head_lane d_is_head_lane
  g_is_head_lane : mg "is_head_lane" = some (.ref a_is_head_lane)
  b_is_head_lane : Binds K d_is_head_lane ["thing"] []
  a_is_head : Addr
  d_is_head : FuncData
  F_is_head : Fun K "is_head" "is_head" s_is_head a_is_head d_is_head
  g_is_head : mg "is_head" = some (.ref a_is_head)
  b_is_head : Binds K d_is_head ["thing"] []
  a_head_body : Addr
  d_head_body : FuncData
  F_head_body : Fun K "head_body" "head_body" s_head_body a_head_body d_head_body
  g_head_body : mg "head_body" = some (.ref a_head_body)
  b_head_body : Binds K d_head_body ["head"] []
  a_read_head : Addr
  d_read_head : FuncData
  F_read_head : Fun K "read_head" "read_head" s_read_head a_read_head d_read_head
  g_read_head : mg "read_head" = some (.ref a_read_head)
  b_read_head : Binds K d_read_head ["body"] []
  a_l_digit : Addr
  d_l_digit : FuncData
  F_l_digit : Fun K "_law_digit" "_law_digit" s_l_digit a_l_digit d_l_digit
  g_l_digit : mg "_law_digit" = some (.ref a_l_digit)
  b_l_digit : Binds K d_l_digit ["_law_state", "_law_base"] []
  a_l_shared : Addr
  d_l_shared : FuncData
  F_l_shared : Fun K "_law_shared" "_law_shared" s_l_shared a_l_shared d_l_shared
  g_l_shared : mg "_law_shared" = some (.ref a_l_shared)
  b_l_shared : Binds K d_l_shared ["_law_one", "_law_other"] []
  a_l_lowest : Addr
  d_l_lowest : FuncData
  F_l_lowest : Fun K "_law_lowest" "_law_lowest" s_l_lowest a_l_lowest d_l_lowest
  g_l_lowest : mg "_law_lowest" = some (.ref a_l_lowest)
  b_l_lowest : Binds K d_l_lowest ["_law_top", "_law_bottom"] []
  a_l_figures : Addr
  d_l_figures : FuncData
  F_l_figures : Fun K "_law_figures" "_law_figures" s_l_figures a_l_figures d_l_figures
  g_l_figures : mg "_law_figures" = some (.ref a_l_figures)
  b_l_figures : Binds K d_l_figures ["_law_number"] []
  a_l_edit_numbers : Addr
  d_l_edit_numbers : FuncData
  F_l_edit_numbers : Fun K "_law_edit_numbers" "_law_edit_numbers" s_l_edit_numbers a_l_edit_numbers d_l_edit_numbers
  g_l_edit_numbers : mg "_law_edit_numbers" = some (.ref a_l_edit_numbers)
  b_l_edit_numbers : Binds K d_l_edit_numbers ["_law_row"] []
  a_l_head_numbers : Addr
  d_l_head_numbers : FuncData
  F_l_head_numbers : Fun K "_law_head_numbers" "_law_head_numbers" s_l_head_numbers a_l_head_numbers d_l_head_numbers
  g_l_head_numbers : mg "_law_head_numbers" = some (.ref a_l_head_numbers)
  b_l_head_numbers : Binds K d_l_head_numbers ["_law_head_here"] []
  a_l_all_figures : Addr
  d_l_all_figures : FuncData
  F_l_all_figures : Fun K "_law_all_figures" "_law_all_figures" s_l_all_figures a_l_all_figures d_l_all_figures
  g_l_all_figures : mg "_law_all_figures" = some (.ref a_l_all_figures)
  b_l_all_figures : Binds K d_l_all_figures ["_law_numbers"] []
  a_l_refused : Addr
  d_l_refused : FuncData
  F_l_refused : Fun K "_law_refused" "_law_refused" s_l_refused a_l_refused d_l_refused
  g_l_refused : mg "_law_refused" = some (.ref a_l_refused)
  b_l_refused : Binds K d_l_refused ["_law_ask", "_law_thing"] []
  a_l_moment : Addr
  d_l_moment : FuncData
  F_l_moment : Fun K "_law_moment" "_law_moment" s_l_moment a_l_moment d_l_moment
  g_l_moment : mg "_law_moment" = some (.ref a_l_moment)
  b_l_moment : Binds K d_l_moment ["_law_state", "_law_most"] []
  a_l_edit : Addr
  d_l_edit : FuncData
  F_l_edit : Fun K "_law_edit" "_law_edit" s_l_edit a_l_edit d_l_edit
  g_l_edit : mg "_law_edit" = some (.ref a_l_edit)
  b_l_edit : Binds K d_l_edit ["_law_state"] []
  a_l_head : Addr
  d_l_head : FuncData
  F_l_head : Fun K "_law_head" "_law_head" s_l_head a_l_head d_l_head
  g_l_head : mg "_law_head" = some (.ref a_l_head)
  b_l_head : Binds K d_l_head ["_law_state"] []
  a_l_no_edit : Addr
  d_l_no_edit : FuncData
  F_l_no_edit : Fun K "_law_no_edit" "_law_no_edit" s_l_no_edit a_l_no_edit d_l_no_edit
  g_l_no_edit : mg "_law_no_edit" = some (.ref a_l_no_edit)
  b_l_no_edit : Binds K d_l_no_edit ["_law_state", "_law_row"] []
  a_l_no_lane : Addr
  d_l_no_lane : FuncData
  F_l_no_lane : Fun K "_law_no_lane" "_law_no_lane" s_l_no_lane a_l_no_lane d_l_no_lane
  g_l_no_lane : mg "_law_no_lane" = some (.ref a_l_no_lane)
  b_l_no_lane : Binds K d_l_no_lane ["_law_state", "_law_lane"] []
  a_l_no_head : Addr
  d_l_no_head : FuncData
  F_l_no_head : Fun K "_law_no_head" "_law_no_head" s_l_no_head a_l_no_head d_l_no_head
  g_l_no_head : mg "_law_no_head" = some (.ref a_l_no_head)
  b_l_no_head : Binds K d_l_no_head ["_law_state", "_law_head_here"] []
  a_l_kept : Addr
  d_l_kept : FuncData
  F_l_kept : Fun K "_law_kept" "_law_kept" s_l_kept a_l_kept d_l_kept
  g_l_kept : mg "_law_kept" = some (.ref a_l_kept)
  b_l_kept : Binds K d_l_kept ["_law_head_here"] []
  a_l_kinds : Addr
  d_l_kinds : FuncData
  F_l_kinds : Fun K "_law_kinds" "_law_kinds" s_l_kinds a_l_kinds d_l_kinds
  g_l_kinds : mg "_law_kinds" = some (.ref a_l_kinds)
  b_l_kinds : Binds K d_l_kinds ["_law_head_here"] []
  a_law : Addr
  d_law : FuncData
  F_law : Fun K "law" "law" s_law a_law d_law
  g_law : mg "law" = some (.ref a_law)
  b_law : Binds K d_law ["_law_script"] []
  m_abs : mg "abs" = none
  m_all : mg "all" = none
  m_bool : mg "bool" = none
  m_int : mg "int" = none
  m_isinstance : mg "isinstance" = none
  m_len : mg "len" = none
  m_list : mg "list" = none
  m_max : mg "max" = none
  m_range : mg "range" = none
  m_tuple : mg "tuple" = none
  c_ScrollError : Addr
  g_ScrollError : mg "ScrollError" = some (.ref c_ScrollError)
  c_NoLeaf : Addr
  g_NoLeaf : mg "NoLeaf" = some (.ref c_NoLeaf)
  c_NoNumber : Addr
  g_NoNumber : mg "NoNumber" = some (.ref c_NoNumber)
  c_NoBytes : Addr
  g_NoBytes : mg "NoBytes" = some (.ref c_NoBytes)
  c_NoBody : Addr
  g_NoBody : mg "NoBody" = some (.ref c_NoBody)
  c_Numbers : Addr
  g_Numbers : mg "Numbers" = some (.ref c_Numbers)
  ca_NOUGHT : Addr
  g_NOUGHT : mg "NOUGHT" = some (.ref ca_NOUGHT)
  cs_NOUGHT : ∃ o n its, K.lookup ca_NOUGHT = some o ∧ o.cls = .type "tuple" ∧ o.data = .seq its n ∧ Vals ([.int 0, .int 1] : List V) its.toList
  ct_GREATEST_SEAL : Tok
  g_GREATEST_SEAL : mg "GREATEST_SEAL" = some (.int 1000000000 ct_GREATEST_SEAL)
  ct_GREATEST_WIDE : Tok
  g_GREATEST_WIDE : mg "GREATEST_WIDE" = some (.int 16 ct_GREATEST_WIDE)
  ct_GREATEST_UNITS : Tok
  g_GREATEST_UNITS : mg "GREATEST_UNITS" = some (.int 1000000 ct_GREATEST_UNITS)
  ct_MOST_LANES : Tok
  g_MOST_LANES : mg "MOST_LANES" = some (.int 8 ct_MOST_LANES)
  ct_MOST_LEAVES : Tok
  g_MOST_LEAVES : mg "MOST_LEAVES" = some (.int 200 ct_MOST_LEAVES)
  ct_MOST_EDITS : Tok
  g_MOST_EDITS : mg "MOST_EDITS" = some (.int 60 ct_MOST_EDITS)
  ct_GREATEST_IN_EDITS : Tok
  g_GREATEST_IN_EDITS : mg "GREATEST_IN_EDITS" = some (.int 1000000000000000000000000000000 ct_GREATEST_IN_EDITS)
  ct_GREATEST_NUMBER : Tok
  g_GREATEST_NUMBER : mg "GREATEST_NUMBER" = some (.int 1000000000000000000000000000000000000000000000000000000000000 ct_GREATEST_NUMBER)
  ct_BASE : Tok
  g_BASE : mg "BASE" = some (.int 128 ct_BASE)
  ct_HEAD : Tok
  g_HEAD : mg "HEAD" = some (.int 1 ct_HEAD)
  ct_PIECE : Tok
  g_PIECE : mg "PIECE" = some (.int 2 ct_PIECE)
  ct_INDEX : Tok
  g_INDEX : mg "INDEX" = some (.int 3 ct_INDEX)
  cl_Numbers : Cls K c_Numbers
  mkk_Numbers : PySem.W.makesIn K c_Numbers = true
  na_Numbers_row : NoAttr K c_Numbers "row"
  na_Numbers_next_at : NoAttr K c_Numbers "next_at"
  mk_Numbers : Mk K c_Numbers a_Numbers_init
  mt_Numbers_one : Meth K c_Numbers "one" a_Numbers_one
  mt_Numbers_some : Meth K c_Numbers "some" a_Numbers_some
  mt_Numbers_choice : Meth K c_Numbers "choice" a_Numbers_choice
  mt_Numbers_is_over : Meth K c_Numbers "is_over" a_Numbers_is_over
  x_NoNumber : PySem.W.excIn K c_NoNumber [.type "ValueError", .type "Exception", .type "BaseException", .type "object"] "ValueError.__new__" = true
  k_NoNumber : PySem.W.keepIn K (.ref c_NoNumber) = true
  bb_NoNumber : PySem.W.subIn K (.ref c_NoNumber) (.type "BaseException") = some true
  t_NoNumber : PySem.W.typeIn K (.ref c_NoNumber) = some (.type "type")
  xc_NoNumber : ExcC K c_NoNumber
  x_NoBody : PySem.W.excIn K c_NoBody [.type "ValueError", .type "Exception", .type "BaseException", .type "object"] "ValueError.__new__" = true
  k_NoBody : PySem.W.keepIn K (.ref c_NoBody) = true
  bb_NoBody : PySem.W.subIn K (.ref c_NoBody) (.type "BaseException") = some true
  t_NoBody : PySem.W.typeIn K (.ref c_NoBody) = some (.type "type")
  xc_NoBody : ExcC K c_NoBody
  em_NoBody_NoBody : PySem.W.exmOne K (.ref c_NoBody) (.ref c_NoBody) = some true
  em_NoNumber_NoBody : PySem.W.exmOne K (.ref c_NoNumber) (.ref c_NoBody) = some false
  em_NoBody_ScrollError : PySem.W.exmOne K (.ref c_NoBody) (.ref c_ScrollError) = some true
  em_NoNumber_ScrollError : PySem.W.exmOne K (.ref c_NoNumber) (.ref c_ScrollError) = some true
  io_NoBody_NoBytes : PySem.W.kitOne K (.ref c_NoBody) (.ref c_NoBytes) = some false
  io_NoNumber_NoBytes : PySem.W.kitOne K (.ref c_NoNumber) (.ref c_NoBytes) = some false
  io_NoBody_NoLeaf : PySem.W.kitOne K (.ref c_NoBody) (.ref c_NoLeaf) = some false
  io_NoNumber_NoLeaf : PySem.W.kitOne K (.ref c_NoNumber) (.ref c_NoLeaf) = some false
  io_NoBody_NoNumber : PySem.W.kitOne K (.ref c_NoBody) (.ref c_NoNumber) = some false
  io_NoNumber_NoNumber : PySem.W.kitOne K (.ref c_NoNumber) (.ref c_NoNumber) = some true
/-! ### heaps -/
/-- all but what stands at p is as it was -/
def Frm (p : Addr) (H H' : Hp) : Prop := ∀ b o, b ≠ p → H b = some o → H' b = some o
theorem Frm.get {p q : Addr} {H H' : Hp} {o : HO} (f : Frm p H H') (n : q ≠ p) (h : H q = some o) : H' q = some o := f q o n h
theorem Frm.refl {p : Addr} {H : Hp} : Frm p H H := fun _ _ _ h => h
theorem Frm.trans {p : Addr} {H H1 H2 : Hp} (a : Frm p H H1) (b : Frm p H1 H2) : Frm p H H2 := fun c o n h => b c o n (a c o n h)
theorem Frm.upd {p : Addr} {H : Hp} {o : HO} : Frm p H (upd H p o) := fun c u n h => by rw [upd_ne n]; exact h
theorem upd_old {H : Hp} {a q : Addr} {o o' : HO} (na : H a = none) (h : H q = some o) : upd H a o' q = some o := by
  rw [upd_ne (ne_of_none h na)]; exact h
theorem upd_oth {H : Hp} {a q : Addr} {o o' : HO} (na : q ≠ a) (h : H q = some o) : upd H a o' q = some o := by
  rw [upd_ne na]; exact h
theorem Frm.new {p a : Addr} {H H' : Hp} {o : HO} (f : Frm p H H') (na : H' a = none) : Frm p H (L2.upd H' a o) := fun c u n h => upd_old na (f c u n h)
theorem Frm.upd2 {p : Addr} {H H' : Hp} {o : HO} (f : Frm p H H') : Frm p H (L2.upd H' p o) := f.trans .upd
theorem Frm.own {p a : Addr} {H H' : Hp} {o : HO} (f : Frm p H H') (na : H a = none) : Frm p H (L2.upd H' a o) := fun c u n h => upd_oth (ne_of_none h na) (f c u n h)
theorem Frm.new2 {p a : Addr} {H H' : Hp} {o o2 : HO} (f : Frm p H H') (na : H' a = none) : Frm p H (L2.upd (L2.upd H' a o2) a o) := by rw [upd_upd]; exact f.new na
theorem upd_old2 {H : Hp} {a q : Addr} {o o' o2 : HO} (na : H a = none) (h : H q = some o) : upd (upd H a o2) a o' q = some o := by rw [upd_upd]; exact upd_old na h
theorem new_ne {H : Hp} {a q : Addr} {o : HO} (na : H a = none) (h : H q = some o) : a ≠ q := fun e => by subst e; rw [na] at h; cases h
theorem Same.get {q : Addr} {H H' : Hp} {o : HO} (f : Same H H') (h : H q = some o) : H' q = some o := f q o h
theorem Same.new {a : Addr} {H H' : Hp} {o : HO} (f : Same H H') (na : H' a = none) : Same H (L2.upd H' a o) := fun c u h => upd_old na (f c u h)
theorem Same.new2 {a : Addr} {H H' : Hp} {o o2 : HO} (f : Same H H') (na : H' a = none) : Same H (L2.upd (L2.upd H' a o2) a o) := by rw [upd_upd]; exact Same.new f na
theorem Same.own {a : Addr} {H H' : Hp} {o : HO} (f : Same H H') (na : H a = none) : Same H (L2.upd H' a o) := fun c u h => upd_oth (ne_of_none h na) (f c u h)
theorem Same.frm {p : Addr} {H H' : Hp} (f : Same H H') : Frm p H H' := fun c u _ h => f c u h
/-- what is new to an elder heap and stands apart is no matter -/
theorem Frm.same {p : Addr} {H H' : Hp} (f : Frm p H H') (n : H p = none) : Same H H' := fun c u h => f c u (ne_of_none h n) h
theorem Same.byFrm {p : Addr} {H H1 H2 : Hp} (f : Same H H1) (g : Frm p H1 H2) (n : H p = none) : Same H H2 := fun c u h => g c u (ne_of_none h n) (f c u h)
theorem Frm.none {p q : Addr} {H H' : Hp} (f : Frm p H H') (n : q ≠ p) (h : H' q = none) : H q = none := by
  cases e : H q with
  | none => rfl
  | some o => rw [f q o n e] at h; cases h
theorem Same.none {q : Addr} {H H' : Hp} (f : Same H H') (h : H' q = none) : H q = none := by
  cases e : H q with
  | none => rfl
  | some o => rw [f q o e] at h; cases h
/-! ### sizes, ifs -/
theorem szb {n : Nat} (h : n ≤ 16000000) : n ≤ sizeLine := Nat.le_trans h (by decide)
theorem szbl {n : Nat} (h : n ≤ 16000000) : n < sizeLine := Nat.lt_of_le_of_lt h (by decide)
theorem sz {n : Nat} (h : Nat.ble n 1000 = true) : n ≤ sizeLine := Nat.le_trans (Nat.le_of_ble_eq_true h) (by decide)
theorem szl {n : Nat} (h : Nat.ble n 1000 = true) : n < sizeLine := Nat.lt_of_le_of_lt (Nat.le_of_ble_eq_true h) (by decide)
theorem szn {n : Nat} (h : n ≤ 1000) : n ≤ sizeLine := Nat.le_trans h (by decide)
theorem sznl {n : Nat} (h : n ≤ 1000) : n < sizeLine := Nat.lt_of_le_of_lt h (by decide)
theorem ifT {c : Bool} {A B : Prop} (h : c = true) (a : A) : if c = true then A else B := by rw [if_pos h]; exact a
theorem ifF {c : Bool} {A B : Prop} (h : c = false) (b : B) : if c = true then A else B := by rw [h, if_neg Bool.false_ne_true]; exact b
theorem ifC {c : Bool} {A B : Prop} (a : c = true → A) (b : c = false → B) : if c = true then A else B := by
  cases c with
  | true => exact ifT rfl (a rfl)
  | false => exact ifF rfl (b rfl)
theorem ifAnd {k1 k2 : Bool} {A : Prop} {Q : VK} {H : Hp} (a : Q (.bl k2) H → A) (h : Q (.bl (k1 && k2)) H) : if k1 = true then A else Q (.bl false) H := by
  cases k1 with
  | true => exact ifT rfl (a h)
  | false => exact ifF rfl h
/-! ### items at a drawn place -/
theorem at_nn {α : Type} {xs : List α} {d : Int} (h0 : 0 ≤ d) (h1 : d < xs.length) : ∃ v, atI xs d = some v ∧ v ∈ xs ∧ xs[d.toNat]? = some v := by
  have h2 : d.toNat < xs.length := by omega
  have e : (d.toNat : Int) = d := by omega
  have k := atI_nat (List.getElem?_eq_getElem h2)
  rw [e] at k
  exact ⟨xs[d.toNat], k, List.getElem_mem h2, List.getElem?_eq_getElem h2⟩
theorem ixP {K : PySem.W.Frag} {H : Hp} {Q : VK} {p : Addr} {xs : List V} {d : Int} (R : V → Prop) (hp : SqL K H p xs) (h0 : 0 ≤ d) (h1 : d < xs.length) (all : ∀ v ∈ xs, R v) (k : ∀ v, R v → Q v H) : rIxL K (.ref p) (.int d) H Q := by
  obtain ⟨v, e, m, _⟩ := at_nn h0 h1
  exact ⟨_, _, _, _, rfl, rfl, hp, e, k v (all v m)⟩
theorem ixG {K : PySem.W.Frag} {H : Hp} {Q : VK} {p : Addr} {xs : List V} {d : Int} (hp : SqL K H p xs) (h0 : 0 ≤ d) (h1 : d < xs.length) (k : ∀ v, xs[d.toNat]? = some v → Q v H) : rIxL K (.ref p) (.int d) H Q := by
  obtain ⟨v, e, _, m⟩ := at_nn h0 h1
  exact ⟨_, _, _, _, rfl, rfl, hp, e, k v m⟩
def isI : V → Bool
  | .int _ => true
  | _ => false
theorem ixI {K : PySem.W.Frag} {H : Hp} {Q : VK} {p : Addr} {xs : List V} {d : Int} (hp : SqL K H p xs) (h0 : 0 ≤ d) (h1 : d < xs.length) (all : xs.all isI = true) (k : ∀ i, V.int i ∈ xs → Q (.int i) H) : rIxL K (.ref p) (.int d) H Q := by
  refine ixP (fun v => (∃ i, v = .int i) ∧ v ∈ xs) hp h0 h1 (fun v hv => ⟨?_, hv⟩) (fun v ⟨⟨i, e⟩, m⟩ => ?_)
  · have := List.all_eq_true.mp all v hv
    cases v <;> first | exact ⟨_, rfl⟩ | cases this
  · subst e; exact k i m
/-! ### a call with keywords alone -/
section
variable {X : Cx} {CX : CXT} {k : Nat} {f : Addr} {fd : FuncData} {ps ks : List Str} {sp : Sp} {E : XK} {x : Str} {p pos : Pos} {kws : List Keyword} {tk : TA} {g : List Value → List Value → List Value} {gV : List V → List V → List V}
theorem pe_callN0 (F : FnOk X.prog X.w X.K X.mg X.base CX k f fd ps sp) (hr : Room k X.A) (hg : Gl X x) (hm : X.mg x = some (.ref f)) (hk : PySem.W.keepIn X.K (.ref f) = true) (hb : KBn X.K fd ps 0 ks g gV) (hx : Passes CX X E)
    (hkw : PK X kws tk) (hall : (backToKw pos (keywordEach kws X.env)).all (·.1.isSome) = true := by rfl) (hks : (backToKw pos (keywordEach kws X.env)).filterMap (·.1) = ks := by rfl)
    (hdb : (x == ("__debug__" : Str)) = false := by decide)
    (hpl : ((backTo pos (starEach [] X.env)).any (·.1) || (backToKw pos (keywordEach kws X.env)).any (·.1.isNone)) = false := by rfl) :
    PE X (.Call (.Name x p) [] kws pos) (tCallN 0 ks.length sp gV E tNil tk) := by
  refine ⟨fun pins s σ H Q I h => ?_⟩
  refine wpAny_Call_Name_kw (ld_glob I hg hm ?_ hdb)
  refine PySem.W.callWith_KW0 (h₀ := X.base) I.ok.mod.kin hk hall (thn (hkw.run pos pins s σ H _ I h) fun ws s2 ⟨zs, H2, I2, rz, l1, l2, q2⟩ => ⟨I2.kIn, ?_⟩) hpl
  rw [hks]
  exact run_fnN F hr hb hx I2 .nil rz rfl l2 q2
end
section
variable {K : PySem.W.Frag} {x qual : Str} {st : Stmt} {f : Addr} {fd : FuncData} {ps ks : List Str} {n : Nat}
theorem kbAll {F : Fun K x qual st f fd} {g : {α : Type} → List α → List α → List α} (h : ∀ (kV doc pm : Value) (an : Option Addr) (cdv ct : Value) (us ws : List Value), us.length = n → ws.length = ks.length →
    bindArgs (PySem.W.fnOf x qual (defArgs st) (defBody st) (defScope st) .none kV doc pm an cdv ct) ⟨us, ks.zip ws⟩ = pure (ps.zip (g us ws)))
    (hrel : ∀ {vs : List V} {us : List Value} {zs : List V} {ws : List Value}, Vals vs us → Vals zs ws → Vals (g vs zs) (g us ws)) : KBn K fd ps n ks (fun us ws => g us ws) (fun us ws => g us ws) := by
  obtain ⟨oc, od, kV, doc, pm, an, cdv, ct, osl, rfl, lk, hcd⟩ := F.ex
  exact ⟨fun s us ws _ h1 h2 => .of_eq (h kV doc pm an cdv ct us ws h1 h2), fun r1 r2 => hrel r1 r2⟩
variable {params : Arguments} {body : List Stmt} {scope : Scope} {dvs : List V}
theorem bindsAll {F : FunD K x qual params body scope dvs [] f fd}
    (h : ∀ (T : Addr) (kV doc pm : Value) (an : Option Addr) (cdv ct : Value) (us its : List Value), us.length = ps.length → its.length = dvs.length →
      ∃ k, bindArgs (PySem.W.fnOf x qual params body scope (.ref T) kV doc pm an cdv ct) ⟨us, []⟩ = seqItems? (.ref T) >>= k ∧ k (some its.toArray) = pure (ps.zip us)) (hd : dvs ≠ []) : Binds K fd ps [] := by
  obtain ⟨ds, hv, hb⟩ := F.binds1 (ps := ps) ps.length dvs.length hd (by omega) (fun T kV doc pm an cdv ct us its h1 h2 => by
    obtain ⟨k, e1, e2⟩ := h T kV doc pm an cdv ct us its h1 h2
    refine ⟨k, e1, ?_⟩
    rw [e2, ← h2, List.drop_length, List.append_nil])
  rw [List.drop_length] at hv
  cases hv
  exact hb
theorem kbAllD {F : FunD K x qual params body scope dvs [] f fd} {g : {α : Type} → List α → List α → List α}
    (h : ∀ (T : Addr) (kV doc pm : Value) (an : Option Addr) (cdv ct : Value) (us its ws : List Value), us.length = n → its.length = dvs.length → ws.length = ks.length →
      ∃ k, bindArgs (PySem.W.fnOf x qual params body scope (.ref T) kV doc pm an cdv ct) ⟨us, ks.zip ws⟩ = seqItems? (.ref T) >>= k ∧ k (some its.toArray) = pure (ps.zip (g us ws))) (hd : dvs ≠ [])
    (hrel : ∀ {vs : List V} {us : List Value} {zs : List V} {ws : List Value}, Vals vs us → Vals zs ws → Vals (g vs zs) (g us ws)) : KBn K fd ps n ks (fun us ws => g us ws) (fun us ws => g us ws) := by
  obtain ⟨oc, od, dV, kV, doc, pm, an, cdv, ct, osl, rfl, lk, hcd, hD, hK⟩ := F.ex
  rcases hD with ⟨e, _⟩ | ⟨_, T, o, its, m, rfl, lT, oT, rT⟩
  · exact absurd e hd
  · refine ⟨fun s us ws X l1 l2 => ?_, fun r1 r2 => hrel r1 r2⟩
    obtain ⟨k, e1, e2⟩ := h T kV doc pm an cdv ct us its ws l1 rT.length.symm l2
    refine BindsTo.of_looks fun M => ?_
    rw [e1]
    exact looks_items X lT oT (.of_pure e2)
theorem exm_by {K : PySem.W.Frag} {C S : Addr} {b : Bool} (h1 : PySem.W.subIn K (.ref S) (.type "BaseException") = some true) (h2 : PySem.W.isClsIn K S = true) (h3 : PySem.W.typeIn K (.ref S) = some (.type "type")) (h4 : PySem.W.subIn K (.ref C) (.ref S) = some b) :
    PySem.W.exmOne K (.ref C) (.ref S) = some b := by
  have e1 : (PySem.W.subIn K (.ref S) (.type "BaseException") == some true) = true := by rw [h1] <;> rfl
  have e2 : ((PySem.W.clsIn K S).isSome && PySem.W.typeIn K (.ref S) == some (.type "type")) = true := by
    have h2' : (PySem.W.clsIn K S).isSome = true := h2
    rw [h2', h3] <;> rfl
  show (if (PySem.W.subIn K (.ref S) (.type "BaseException") == some true) = true then (if ((PySem.W.clsIn K S).isSome && PySem.W.typeIn K (.ref S) == some (.type "type")) = true then PySem.W.subIn K (.ref C) (.ref S) else none) else none) = some b
  rw [if_pos e1, if_pos e2]
  exact h4
end
/-! ### a < b < c of whole numbers, as one answer -/
def MonoE (t : TE) : Prop := ∀ (σ : L2.St) (H : Hp) (Q Q' : VK), (∀ v H', Q v H' → Q' v H') → t σ H Q → t σ H Q'
theorem mn_var {i : Nat} : MonoE (tVar i) := fun _ _ _ _ k ⟨v, e, q⟩ => ⟨v, e, k _ _ q⟩
theorem mn_c {v : V} : MonoE (tC v) := fun _ _ _ _ k q => k _ _ q
theorem mn_I0 {g : Int → Int → V} {ta tb : TE} (a : MonoE ta) (b : MonoE tb) : MonoE (tOp (rI0 g) ta tb) := fun σ H Q Q' k h =>
  a σ H _ _ (fun _ H1 h1 => b σ H1 _ _ (fun _ _ ⟨i, j, e1, e2, q⟩ => ⟨i, j, e1, e2, k _ _ q⟩) h1) h
theorem mn_I {C : Int → Int → Prop} {g : Int → Int → V} {ta tb : TE} (a : MonoE ta) (b : MonoE tb) : MonoE (tOp (rI C g) ta tb) := fun σ H Q Q' k h =>
  a σ H _ _ (fun _ H1 h1 => b σ H1 _ _ (fun _ _ ⟨i, j, e1, e2, c, q⟩ => ⟨i, j, e1, e2, c, k _ _ q⟩) h1) h
theorem mn_ixL {K : PySem.W.Frag} {ta tb : TE} (a : MonoE ta) (b : MonoE tb) : MonoE (tOp (rIxL K) ta tb) := fun σ H Q Q' k h =>
  a σ H _ _ (fun _ H1 h1 => b σ H1 _ _ (fun _ _ ⟨p, xs, i, v, e1, e2, s, e, q⟩ => ⟨p, xs, i, v, e1, e2, s, e, k _ _ q⟩) h1) h
theorem mn_ixT {K : PySem.W.Frag} {ta tb : TE} (a : MonoE ta) (b : MonoE tb) : MonoE (tOp (rIxT K) ta tb) := fun σ H Q Q' k h =>
  a σ H _ _ (fun _ H1 h1 => b σ H1 _ _ (fun _ _ ⟨p, xs, i, v, e1, e2, s, e, q⟩ => ⟨p, xs, i, v, e1, e2, s, e, k _ _ q⟩) h1) h
theorem mn_len {r : List V → Hp → VK → Prop} {ta : TE} (a : MonoE ta) (hr : ∀ vs H (Q Q' : VK), (∀ v H', Q v H' → Q' v H') → r vs H Q → r vs H Q') : MonoE (tCB r (tCons ta tNil)) := fun σ H Q Q' k h =>
  a σ H _ _ (fun _ H1 h1 => hr _ _ _ _ k h1) h
def tChI (g g' : Int → Int → Bool) (ta tb tc : TE) : TE := fun σ H Q => ta σ H fun x H1 => tb σ H1 fun y H2 => tc σ H2 fun z H3 => ∃ i j l : Int, x = .int i ∧ y = .int j ∧ z = .int l ∧ H3 = H2 ∧ Q (.bl (g i j && g' j l)) H2
/-- what c's reading tells is told at once: c changes nothing -/
theorem tChI_to {g g' : Int → Int → Bool} {ta tb tc : TE} (ma : MonoE ta) (mb : MonoE tb) (mc : MonoE tc) {σ : L2.St} {H : Hp} {Q : VK} (cx : ∀ (σ : L2.St) (H : Hp) (Q : V → Hp → Prop), tc σ H Q → ∃ v H', Q v H') (h : tChI g g' ta tb tc σ H Q) :
    tChain (rI0 fun i j => .bl (g i j)) (rI0 fun i j => .bl (g' i j)) ta tb tc σ H Q := by
  refine ma σ H _ _ (fun x H1 h1 => mb σ H1 _ _ (fun y H2 h2 => ?_) h1) h
  obtain ⟨_, _, i, j, l, ex, ey, _, _, q⟩ := cx _ _ _ h2
  refine ⟨i, j, ex, ey, _, rfl, ?_⟩
  cases e : g i j with
  | true =>
    refine ifT rfl (mc σ H2 _ _ (fun z H3 h3 => ?_) h2)
    obtain ⟨i', j', l', ex', ey', ez, e3, q'⟩ := h3
    have e1 : i' = i := V.int.inj (ex'.symm.trans ex)
    have e2 : j' = j := V.int.inj (ey'.symm.trans ey)
    subst e1 e2 ez e3
    rw [e, Bool.true_and] at q'
    exact ⟨j', l', ey, rfl, q'⟩
  | false =>
    rw [e, Bool.false_and] at q
    exact ifF rfl q
def ShowsE (t : TE) : Prop := ∀ (σ : L2.St) (H : Hp) (Q : V → Hp → Prop), t σ H Q → ∃ v H', Q v H'
theorem sh_var {i : Nat} : ShowsE (tVar i) := fun _ _ _ ⟨v, _, q⟩ => ⟨v, _, q⟩
theorem sh_c {v : V} : ShowsE (tC v) := fun _ _ _ q => ⟨_, _, q⟩
theorem sh_I0 {g : Int → Int → V} {ta tb : TE} (a : ShowsE ta) (b : ShowsE tb) : ShowsE (tOp (rI0 g) ta tb) := fun σ H Q h => by
  obtain ⟨x, H1, h1⟩ := a _ _ _ h
  obtain ⟨y, H2, h2⟩ := b _ _ _ h1
  obtain ⟨i, j, _, _, q⟩ := h2
  exact ⟨_, _, q⟩
theorem sh_I {C : Int → Int → Prop} {g : Int → Int → V} {ta tb : TE} (a : ShowsE ta) (b : ShowsE tb) : ShowsE (tOp (rI C g) ta tb) := fun σ H Q h => by
  obtain ⟨x, H1, h1⟩ := a _ _ _ h
  obtain ⟨y, H2, h2⟩ := b _ _ _ h1
  obtain ⟨i, j, _, _, _, q⟩ := h2
  exact ⟨_, _, q⟩
theorem sh_ixL {K : PySem.W.Frag} {ta tb : TE} (a : ShowsE ta) (b : ShowsE tb) : ShowsE (tOp (rIxL K) ta tb) := fun σ H Q h => by
  obtain ⟨x, H1, h1⟩ := a _ _ _ h
  obtain ⟨y, H2, h2⟩ := b _ _ _ h1
  obtain ⟨_, _, _, _, _, _, _, _, q⟩ := h2
  exact ⟨_, _, q⟩
theorem sh_ixT {K : PySem.W.Frag} {ta tb : TE} (a : ShowsE ta) (b : ShowsE tb) : ShowsE (tOp (rIxT K) ta tb) := fun σ H Q h => by
  obtain ⟨x, H1, h1⟩ := a _ _ _ h
  obtain ⟨y, H2, h2⟩ := b _ _ _ h1
  obtain ⟨_, _, _, _, _, _, _, _, q⟩ := h2
  exact ⟨_, _, q⟩
theorem PE.weak {X : Cx} {e : Expr} {t t' : TE} (h : PE X e t) (w : ∀ σ H Q, t' σ H Q → t σ H Q) : PE X e t' := ⟨fun pins s σ H Q I q => h.run pins s σ H Q I (w _ _ _ q)⟩
theorem pe_chainI {X : Cx} {op op' : CmpOp} {g g' : Int → Int → Bool} {a b c : Expr} {ta tb tc : TE} {pos : Pos} (ho : OpR X (compareOp op) (rI0 fun i j => .bl (g i j))) (ho' : OpR X (compareOp op') (rI0 fun i j => .bl (g' i j)))
    (ha : PE X a ta) (hb : PE X b tb) (hc : PE X c tc) (ma : MonoE ta) (mb : MonoE tb) (mc : MonoE tc) (sc : ShowsE tc) (hm : lastMarks [op, op'] [b, c] = false := by rfl) : PE X (.Compare a [op, op'] [b, c] pos) (tChI g g' ta tb tc) :=
  PE.weak (pe_chain ho ho' ha hb hc hm) (fun _ _ _ h => tChI_to ma mb mc sc h)
/-! ### rules within a comprehension: the written part by its own name -/
section
variable {X : Cx} {K : PySem.W.Frag}
theorem ix_listK (h : X.K = K) : IxR X (rIxL K) := h ▸ ix_list
theorem ix_tupK (h : X.K = K) : IxR X (rIxT K) := h ▸ ix_tup
theorem sl_listK (h : X.K = K) : SlR X (rSlL K) := h ▸ sl_list
theorem call_len_seqK (h : X.K = K) : CallR X (.builtin "len") (fun xs H Q => ∃ p ys, xs = [.ref p] ∧ (SqL K H p ys ∨ SqT K H p ys) ∧ Q (.int ys.length) H) := h ▸ call_len_seq
end
section
variable {X : Cx} {K : PySem.W.Frag}
theorem call_isiB (h : X.K = K) : CallR X (.builtin "isinstance") (rIsi K) := h ▸ call_isi
end
section
variable {X : Cx} {K : PySem.W.Frag}
theorem op_neDK (h : X.K = K) (hu : X.A.units + 64 < cLine) : OpR X (compareOp .NotEq) (rNeD K) := h ▸ op_neD hu
theorem op_eqDK (h : X.K = K) (hu : X.A.units + 64 < cLine) : OpR X (compareOp .Eq) (rEqD K) := h ▸ op_eqD hu
end
section
variable {X : Cx} {K : PySem.W.Frag}
theorem op_inDK (h : X.K = K) (hu : X.A.units + 65 < cLine) : OpR X (compareOp .In) (rInD K) := h ▸ op_inD hu
end
section
variable {X : Cx} {K : PySem.W.Frag}
theorem pi_listK {tg l : Expr} {tl : TE} (h : X.K = K) (hl : PE X l tl) : PI X tg l (iList K tl) := h ▸ pi_list hl
end
/-! ### + of two lists, the script among them; + of two truths -/
theorem list_add_any (l : Addr) (items : Array Value) (n : Nat) (sl : Array (Option Value)) (b : Addr) (items2 : Array Value) (n2 : Nat) (sl2 : Array (Option Value)) (hc0 : items.size + items2.size ≤ sizeLine) :
    Meets (Builtin.«list.__add__» ⟨[.ref l, .ref b], []⟩) (fun _ R s => s.heap.get? l = some { cls := .type "list", dict := none, data := .seq items n, slots := sl } ∧ s.heap.get? b = some { cls := .type "list", dict := none, data := .seq items2 n2, slots := sl2 } ∧ R (.ok (.ret (Value.ref s.heap.objs.size))) { s with heap := s.heap.push { cls := Value.type "list", data := Data.seq (items ++ items2) } }) :=
  .of_wp fun prog w A R s h => by
    obtain ⟨hp, g, d, tk, os⟩ := s
    obtain ⟨hl, hb, h⟩ := h
    have f3 := AutoSeq1.sub_list_list
    wp_walk using AutoSeq1.wpAny_loadPart' hl, AutoSeq1.wpAny_loadPart' hb
    exact ⟨_, rfl, h⟩
def rCatF (K : PySem.W.Frag) : R2 := fun x y H Q => ∃ l b xs zs, x = .ref l ∧ y = .ref b ∧ SqL K H l xs ∧ SqL K H b zs ∧ xs.length + zs.length ≤ sizeLine ∧ ∀ p, H p = none → Q (.ref p) (upd H p (.lst (xs ++ zs)))
theorem op_catF {X : Cx} : OpR X (binaryOp .Add) (rCatF X.K) := by
  intro pins s σ H x y v u Q I rx ry h
  obtain ⟨l, b, xs, zs, rfl, rfl, hH, hB, hz, q⟩ := h
  cases rx
  cases ry
  obtain ⟨its, r, ⟨o, n, e, hc, hd, hs⟩, _⟩ := I.list hH
  obtain ⟨its2, r2, ⟨o2, n2, e2, hc2, hd2, hs2⟩, _⟩ := I.list hB
  obtain ⟨oc, od, odt, osl⟩ := o
  obtain ⟨oc2, od2, odt2, osl2⟩ := o2
  simp only at hc hd hs hc2 hd2 hs2
  subst hc hd hs hc2 hd2 hs2
  have l1 := r.length
  have l2 := r2.length
  refine PySem.concat_meets ⟨_, e, rfl⟩ ⟨_, e2, rfl⟩ PySem.noFill_list_add PySem.seq_list_add PySem.F.slot_list_add PySem.F.entry_list_add (PySem.F.args_list_add_2 _ _) (list_add_any l its.toArray n osl b its2.toArray n2 osl2 (by rw [List.size_toArray, List.size_toArray]; omega)) ⟨e, e2, ?_⟩
  have ea : its.toArray ++ its2.toArray = (its ++ its2).toArray := by simp
  rw [ea]
  exact ⟨.ref _, _, I.lnew (t' := s.toks) (r.append r2) (by rw [List.length_append]; omega), rfl, q _ I.fresh⟩
theorem give_bb (a b : Bool) : Gives (Builtin.«int.__add__» ⟨[.bool a, .bool b], []⟩) (.int ((if a = true then (1 : Int) else 0) + (if b = true then (1 : Int) else 0))) := .of_wp fun M A E s Q h => by
  obtain ⟨hp, g, d, tk, os⟩ := s
  wp_walk
  exact ⟨_, rfl, h⟩
theorem op_add_bb {X : Cx} : OpR X (binaryOp .Add) (fun x y H Q => ∃ i k, x = .bl i ∧ y = .bl k ∧ Q (.int ((if i = true then (1 : Int) else 0) + (if k = true then (1 : Int) else 0))) H) := by
  intro pins s σ H x y v u Q I rx ry h
  obtain ⟨i, k, rfl, rfl, q⟩ := h
  cases rx
  cases ry
  exact binaryOp_gives (op := .Add) (T := "bool") rfl rfl PySem.F.fills_bool_add PySem.F.slot_bool_add PySem.F.entry_int_add (PySem.F.args_int_add_2 _ _) (give_bb i k) trivial ⟨.int _, H, I.tok _, ⟨_, rfl⟩, q⟩
/-! ### a, *b = a tuple -/
theorem Walks.later {prog : Program} {w : World} {A : Around} {I : Addr} {fp wr : List Addr} {n : Nat} {P : Nat → Value → Prop} {St : Nat → Heap → Prop} (W : Walks prog w A I fp wr (n + 1) P St) :
    Walks prog w A I fp wr n (fun i => P (i + 1)) (fun i => St (i + 1)) where
  sub := W.sub
  frame i := W.frame (i + 1)
  item i s Q E hi st hQ := W.item (i + 1) s Q E (by omega) st hQ
  done s Q E st hQ := W.done s Q E st hQ
  self i := W.self (i + 1)
theorem unpack_star {prog : Program} {w : World} {A : Around} {E : Value → Shared → Prop} {s : Shared} {t : Addr} {x : Value} {xs : List Value} {Q : List Value → Shared → Prop} (hh : A.handled = none) (ht : IsTup s.heap t (x :: xs).toArray) (hz : xs.length ≤ sizeLine)
    (hQ : ∀ (h' : Heap) (tk : Nat), (∀ b o, s.heap.get? b = some o → h'.get? b = some o) → Q [x, .ref h'.objs.size] { s with heap := h'.push { cls := .type "list", data := .seq xs.toArray }, toks := tk }) :
    wpAny (model prog w) A (unpackItems (.ref t) 2 (some 1)) Q E s := by
  have hlt : t ≠ s.heap.objs.size := by
    obtain ⟨o, ho, _⟩ := ht
    exact Nat.ne_of_lt (Heap.lt_size ho)
  unfold unpackItems
  refine wpAny_bind ?_
  unfold notIterableAtAll
  refine wpAny_bind (wpAny_specialOf ht.typeIs slot_tuple_iter.lookup (wpAny_pure ?_))
  simp only [Bool.false_eq_true, if_false]
  refine wpAny_bind (wpAny_holding (iter_tuple ht (wpAny_bind (wpAny_holding (draw_tuple hlt 1 0 _ _ ⟨_, Heap.get?_push_size _ rfl, rfl, rfl⟩ (ht.push _) (by simp) fun h1 it1 same1 => ?_)))))
  have ht1 : IsTup h1 t (x :: xs).toArray := (ht.push _).extBut same1.extBut hlt
  have e1 : List.take 1 (List.drop 0 (x :: xs).toArray.toList) = [x] := rfl
  rw [e1, if_neg (by simp)]
  refine wpAny_bind (wpAny_holding ?_)
  have W := (Walks.later (Walks.tuple (prog := prog) (w := w) (A := A.in1) hh s.heap.objs.size t hlt (x :: xs).toArray)).toS
  have hbig : s.heap.objs.size < h1.objs.size := by
    obtain ⟨o, ho, _⟩ := it1
    exact Heap.lt_size ho
  refine wpAny_collect_iter (T := "tuple_iterator") (.inr (.inr (.inr rfl))) W (fun i s' st => st.1.typeIs) ⟨it1, ht1⟩ (fun b hb => ?_) (by simp) (fun s' acc mv items => ?_) hz
  · simp only [List.mem_cons, List.not_mem_nil, or_false] at hb
    obtain ⟨o, ho, _⟩ := id ht1
    rcases hb with rfl | rfl
    · exact hbig
    · exact Heap.lt_size ho
  · have el : acc.toList = xs := by
      refine List.ext_getElem (by simpa using items.1) fun j h2 h3 => ?_
      have := items.2 j acc.toList[j] (by simp)
      simpa [List.getElem?_eq_getElem h3] using this.symm
    rw [el, if_neg (by omega)]
    refine wpAny_bind (wpAny_newList ?_ )
    have em : List.take (xs.length - (2 - 1 - 1)) xs = xs := List.take_of_length_le (by omega)
    have ed : List.drop (xs.length - (2 - 1 - 1)) xs = [] := List.drop_of_length_le (by omega)
    rw [em, ed, Moved.eq_with mv]
    refine wpAny_pure (hQ s'.heap s'.toks fun b o e => ?_)
    have nb : b ≠ s.heap.objs.size := Nat.ne_of_lt (Heap.lt_size e)
    exact mv.heap b o (by simpa using nb) (same1.extBut b o nb (Heap.get?_push_of_some _ e))
def gStar (K : PySem.W.Frag) (g0 g1 : TG) : TG := fun v σ H Q => ∃ a x xs, v = .ref a ∧ SqT K H a (x :: xs) ∧ ∀ l, H l = none → g0 x σ (upd H l (.lst xs)) fun σ1 H1 => g1 (.ref l) σ1 H1 Q
theorem pg_star {X : Cx} {e0 e1 : Expr} {p pos : Pos} {k : Nat} {g0 g1 : TG} (hc : X.calm = true) (h0 : PG X e0 g0) (h1 : PG X e1 g1) (he : assignEach [e0, .Starred e1 p] X.env = [(false, assign e0 X.env), (true, assign e1 X.env)] := by rfl) :
    PG X (.Tuple [e0, .Starred e1 p] k pos) (gStar X.K g0 g1) := by
  constructor
  rintro pins s σ H v u Q I r ⟨a, x, xs, rfl, hq, hw⟩
  cases r
  obtain ⟨its, rv, ht, hz⟩ := I.tuple hq
  cases rv with
  | @cons _ y _ ys ry rys =>
    rw [assign_Tuple]
    refine wpAny_bind (wpAny_standAt ?_)
    unfold unpack
    rw [he]
    refine wpAny_bind (wpAny_holding (unpack_star (I.ok.hd hc) ht (by rw [← rys.length]; simp only [List.length] at hz; omega) fun h' tk kp => ?_))
    have I1 : Inv X pins σ H { s with heap := h', toks := tk } := I.kept kp
    have I2 := I1.lnew (t' := tk) rys (by simp only [List.length] at hz; omega)
    refine assignInOrder_cons (thn (h0.run pins _ σ _ _ _ _ I2 ry (hw _ I1.fresh)) fun _ s1 z => ?_)
    obtain ⟨σ1, H1, I3, q1⟩ := z
    refine assignInOrder_cons (thn (h1.run pins s1 σ1 H1 (.ref h'.objs.size) _ Q I3 rfl q1) fun _ s2 z => ?_)
    exact assignInOrder_nil z
/-! ### a class made of the things of a list -/
def tMakeS (K : PySem.W.Frag) (C : Addr) (sp : Sp) (E : XK) (te : TE) : TE := fun u G Q => te u G fun y G1 => ∃ a xs, y = .ref a ∧ (SqT K G1 a xs ∨ SqL K G1 a xs) ∧
  ∀ o d, G1 o = none → G1 d = none → d ≠ o → sp (.ref o :: xs) (upd (upd G1 d (.own o)) o (.ins C d [])) (fun v G2 => v = .non ∧ Q (.ref o) G2) E
theorem pe_makeS {X : Cx} {CT : CXT} {k : Nat} {f C : Addr} {fd : FuncData} {ps : List Str} {sp : Sp} {E : XK} {x : Str} {p q pos : Pos} {e : Expr} {te : TE} (M : Mk X.K C f) (F : FnOk X.prog X.w X.K X.mg X.base CT k f fd ps sp) (hr : Room (k + 1) X.A) (hg : Gl X x) (hm : X.mg x = some (.ref C)) (hb : Binds X.K fd ps []) (hx : Passes CT X E) (he : PE X e te)
    (nd : (x == ("__debug__" : Str)) = false := by decide) (hs : starEach [.Starred e q] X.env = [(true, eval e X.env)] := by rfl) : PE X (.Call (.Name x p) [.Starred e q] [] pos) (tMakeS X.K C sp E te) := by
  constructor
  intro pins s u G Q I h
  refine wpAny_Call_Name_kw (ld_glob I hg hm (PySem.W.callWith_S (h₀ := X.base) I.ok.mod.kin M.kp (thn (he.run pins s u G _ I h) ?_) hs) nd)
  rintro v s1 ⟨y, G1, I1, ry, a, xs, rfl, hxs, q⟩
  cases ry
  refine StX.star_any I1 hxs fun us s2 I2 rv => ⟨I2.kIn, ?_⟩
  refine run_make (dvs := []) M F hr hb .nil hx I2 rv fun o d h1 h2 h3 => ?_
  rw [List.append_nil]
  exact q o d h1 h2 h3
/-! ### a method of an object whose class is one of several -/
theorem pe_either {X : Cx} {e : Expr} {t u : TE} (h : PE X e t) (k : PE X e u) : PE X e (fun σ H Q => t σ H Q ∨ u σ H Q) := ⟨fun pins s σ H Q I q => q.elim (h.run pins s σ H Q I) (k.run pins s σ H Q I)⟩
/-! ### several clauses of one try, each with a name for the error or without -/
abbrev Suite := Addr → Value → Option Addr → TS
/-- what follows a suite whose error had the slot i -/
def offAt (i : Nat) (D : Ends) : Ends := { nx := fun u G => D.nx (u.set i none) G, rt := D.rt, bk := fun u G => D.bk (u.set i none) G, ct := fun u G => D.ct (u.set i none) G }
def wMix (K : PySem.W.Frag) (Wo : WX) (D : Ends) : List (Value × Option Nat × Suite) → WX
  | [] => Wo
  | (c, none, t) :: r => fun k d u G => ∃ y, PySem.W.exmOne K k c = some y ∧ (y = true → ∀ e, G e = none → t e k d D u G) ∧ (y = false → wMix K Wo D r k d u G)
  | (c, some i, t) :: r => fun k d u G => ∃ y, PySem.W.exmOne K k c = some y ∧ (y = true → ∀ e, G e = none → t e k d (offAt i D) (u.set i (some (.ref e))) G) ∧ (y = false → wMix K Wo D r k d u G)
inductive Clauses (X : Cx) : List ExceptHandler → List (Value × Option Nat × Suite) → Prop
  | nil : Clauses X [] []
  | bare {x : Str} {c : Value} {t : Suite} {b : Stmt} {bs : List Stmt} {p1 p2 : Pos} {hds l} (hc : Names X x c)
      (su : ∀ e oe k d pn, Zc k d oe → (∃ vs, oe.data = .fields vs) → PSs (X.suite e ((e, oe) :: pn)) (b :: bs) (t e k d)) (r : Clauses X hds l) :
      Clauses X (.ExceptHandler (some (.Name x p1)) none (b :: bs) p2 :: hds) ((c, none, t) :: l)
  | named {x n : Str} {c : Value} {i : Nat} {t : Suite} {b : Stmt} {bs : List Stmt} {p1 p2 : Pos} {hds l} (hN : X.N.Nodup) (hi : X.N[i]? = some n) (hl : X.env.kindOf n = some .local) (hc : Names X x c)
      (su : ∀ e oe k d pn, Zc k d oe → (∃ vs, oe.data = .fields vs) → PSs (X.suite e ((e, oe) :: pn)) (b :: bs) (t e k d)) (r : Clauses X hds l) :
      Clauses X (.ExceptHandler (some (.Name x p1)) (some n) (b :: bs) p2 :: hds) ((c, some i, t) :: l)
theorem ps_try_mix {X : Cx} {body : List Stmt} {h1 : ExceptHandler} {hds : List ExceptHandler} {l : List (Value × Option Nat × Suite)} {pos : Pos} {tb : WX → TS} {Wo : WX} (hs : X.stack = X.env :: X.outer) (hf : X.env.frame = some X.env.locals) (tk : Takes X Wo)
    (hb : ∀ W pn xe, Takes (X.tr pn xe) W → PassesOwn (model X.prog X.w) X.A X.env xe → PSs (X.tr pn xe) body (tb W)) (hh : Clauses X (h1 :: hds) l) :
    PS X (.Try body (h1 :: hds) [] [] pos) (fun D u G => tb (wMix X.K Wo D l) D u G) := by
  constructor
  intro pins s u G D I h
  have ok := I.ok
  have frm : X.A.frames = some (X.env :: X.outer) := by rw [ok.frames, hs]
  refine wpAny_Try_except (wpAny_mono ((hb (wMix X.K Wo D l) (X.pn ++ pins) (fun e s₁ => wpAny (model X.prog X.w) X.A (noteFrame e X.env) (fun _ s₂ => wpAny (model X.prog X.w) X.A (setFlight e none) (fun _ s₃ => wpAny (model X.prog X.w) X.A (handleBy e X.env (h1 :: hds)) (SP X pins D) X.xe s₃) X.xe s₂) X.xe s₁) (fun v s' xx => ?_) PassesOwn.looking).run [] s u G D (I.toTry _) h) (fun f s1 z => ?_) (fun _ _ z => z))
  · obtain ⟨e, B, sI, _, u', G', k, d, rfl, J0, nb, up, sky, na, os, ag, wish⟩ := xx
    have J : Inv X pins u' G' sI := J0.ofTry ok
    refine Sky.land Zc.steady frm hf (by rw [← hs]; exact sky) fun h3 fl up3 => ?_
    have up13 := up.trans up3
    obtain ⟨o3, _, g3, z3, d3⟩ := fl.there
    have far : e ∉ frs (X.env :: X.outer) := by
      intro m
      obtain ⟨_, o', g', no⟩ := fl.2.2.1.mem m
      cases g3.symm.trans g'
      exact no _ d3
    have nl : e ≠ X.env.locals := by
      intro z
      exact far (List.mem_filterMap.mpr ⟨X.env, List.mem_cons_self, by rw [hf, z]⟩)
    have nf : e ∉ X.fs := by
      intro m
      obtain ⟨v, hv, q⟩ := List.mem_filterMap.mp m
      exact far (List.mem_filterMap.mpr ⟨v, List.mem_cons_of_mem _ hv, q⟩)
    have J3 : Inv X pins u' G' { s' with heap := h3 } := J.landed nb fl.1 up13 os ag
    have S3 := J3.suite g3 d3 na nl nf
    have TY : PySem.W.Looks (model X.prog X.w) h3 (typeOf (.ref e)) k := fun _ _ _ _ kk q => wpAny_typeOf_ref (kk _ _ g3) (z3.1 ▸ q)
    have name : ∀ {x : Str} {c : Value} {p1 : Pos}, Names X x c → ∀ {Q : Value → Shared → Prop} {E : Value → Shared → Prop}, Q c { s' with heap := h3 } → wpAny (model X.prog X.w) (X.A.mark (some (.ref e))) (eval (.Name x p1) X.env) Q E { s' with heap := h3 } := by
      rintro x c p1 ⟨g, nd, m | ⟨m, bv, nn⟩⟩ Q E q
      · exact ld_glob (X := X.suite e ((e, o3) :: (X.pn ++ pins))) S3 g m q nd
      · exact ld_blt (X := X.suite e ((e, o3) :: (X.pn ++ pins))) S3 g m bv q nn nd
    suffices go : ∀ {hd : List ExceptHandler} {l' : List (Value × Option Nat × Suite)}, Clauses X hd l' → wMix X.K Wo D l' k d u' G' → wpAny (model X.prog X.w) X.A (handleBy (.ref e) X.env hd) (SP X pins D) X.xe { s' with heap := h3 } from go hh wish
    intro hd l' cl
    induction cl with
    | nil =>
      intro wi
      refine wpAny_handleBy_nil ?_
      obtain ⟨_, _, _, oe, vs, T, oT, tt, he, hz, hdd, hT, hr⟩ := id fl
      unfold PySem.passOn
      refine wpAny_bind (wpAny_field he hdd hT ?_)
      rw [if_neg (by simp : ¬ ((Value.ref T == Value.none) = true))]
      have last : wpAny (model X.prog X.w) X.A (setFlight (.ref e) X.env.frame) (fun _ s4 => wpAny (model X.prog X.w) X.A (throw (.ref e) : Sem Flow) (SP X pins D) X.xe s4) X.xe { s' with heap := h3 } := by
        rw [hf]
        refine HandSPX.setFlight_upZ fl fun h4 hh4 up4 => wpAny_throw (tk _ _ ⟨e, B, sI, pins, u', G', k, d, rfl, J, nb, up13.trans up4, .inr (.inr ?_), na, os, ag, wi⟩)
        rw [hs]; exact hh4
      first | exact wpAny_bind (wpAny_pure (wpAny_bind last)) | exact wpAny_bind last
    | bare hc su r ih =>
      rintro ⟨y, ey, yes, no⟩
      refine wpAny_handleBy_cons (codeAny_handlers_test (name hc ((PySem.W.exm_one (M := model X.prog X.w) J3.kIn TY ey).here ?_))) (fun q => by cases q)
      cases y with
      | false => exact ih (no rfl)
      | true =>
        refine codeAny_handlers_suite (HandSPX.lands_againZ fl fun h4 fl4 up4 => ?_)
        obtain ⟨o4, _, g4, z4, d4⟩ := fl4.there
        have S4 := (J.landed (s' := { s' with heap := h4 }) nb fl4.1 (up13.trans up4) os ag).suite g4 d4 na nl nf
        refine wpAny_mono ((su e o4 k d (X.pn ++ pins) z4 ⟨_, d4⟩).run [] _ _ G' _ S4 (yes rfl e na)) (fun f s6 z => ?_) (fun _ _ z => z.elim)
        cases f with
        | ret v => obtain ⟨v6, u6, G6, S6, r6, q6⟩ := z; exact ⟨v6, u6, G6, S6.unsuite ok, r6, q6⟩
        | _ => obtain ⟨u6, G6, S6, q6⟩ := z; exact ⟨u6, G6, S6.unsuite ok, q6⟩
    | @named _ n c i _ _ _ _ p2 _ _ hN hi hl hc su r ih =>
      rintro ⟨y, ey, yes, no⟩
      refine wpAny_handleBy_cons (codeAny_handlers_test (name hc ((PySem.W.exm_one (M := model X.prog X.w) J3.kIn TY ey).here ?_))) (fun q => by cases q)
      cases y with
      | false => exact ih (no rfl)
      | true =>
        refine codeAny_handlers_suite_as (HandSPX.lands_againZ fl fun h4 fl4 up4 => ?_)
        obtain ⟨o4, _, g4, z4, d4⟩ := fl4.there
        have S4 := (J.landed (s' := { s' with heap := h4 }) nb fl4.1 (up13.trans up4) os ag).suite g4 d4 na nl nf
        refine store_ok (X := X.suite e ((e, o4) :: (X.pn ++ pins))) (v := .ref e) S4 hN hi (.inl hl) rfl (fun s5 S5 => wpAny_mono ((su e o4 k d (X.pn ++ pins) z4 ⟨_, d4⟩).run [] s5 _ G' _ S5 (yes rfl e na)) (fun f s6 z => ?_) (fun _ _ z => z.elim)) (.inr hl)
        have off : ∀ {u6 : L2.St} {G6 : Hp} {Q : Shared → Prop}, Inv (X.suite e ((e, o4) :: (X.pn ++ pins))) [] u6 G6 s6 → (∀ s7, Inv X pins (u6.set i none) G6 s7 → Q s7) → wpAny (model X.prog X.w) X.A (do bindName X.env n .none; unbindBehindTheSuite X.env n p2) (fun _ s7 => Q s7) X.xe s6 := fun S6 hq => gone_ok (S6.unsuite ok) hN hi hl hq
        cases f with
        | ret v => obtain ⟨v6, u6, G6, S6, r6, q6⟩ := z; exact off S6 fun s7 J7 => ⟨v6, _, G6, J7, r6, q6⟩
        | _ => obtain ⟨u6, G6, S6, q6⟩ := z; exact off S6 fun s7 J7 => ⟨_, G6, J7, q6⟩
  · cases f with
    | next => obtain ⟨u6, G6, J6, q6⟩ := z; exact wpAny_execs_nil ⟨u6, G6, J6.ofTry ok, q6⟩
    | ret v => obtain ⟨v6, u6, G6, J6, r6, q6⟩ := z; exact ⟨v6, u6, G6, J6.ofTry ok, r6, q6⟩
    | _ => obtain ⟨u6, G6, J6, q6⟩ := z; exact ⟨u6, G6, J6.ofTry ok, q6⟩
/-! ### isinstance of a caught error, of one class of several -/
def rIsEs (K : PySem.W.Frag) (k : Value) (d : Option Addr) (e : Addr) : List V → Hp → VK → Prop := fun xs H Q =>
  ∃ (D tp : Addr) (cs : List V) (us : List Value) (b : Bool), k = .ref D ∧ d = none ∧ ExcC K D ∧ xs = [.ref e, .ref tp] ∧ H tp = some (.tup cs) ∧ Paired ClsV cs us ∧ PySem.W.kitAny K (.ref D) us = some b ∧ Q (.bl b) H
theorem call_isEs {X : Cx} {K : PySem.W.Frag} {e : Addr} {oe : Obj} {k : Value} {d : Option Addr} {pn : List (Addr × Obj)} (hK : X.K = K) (hz : Zc k d oe) (hf : ∃ vs, oe.data = .fields vs) : CallR (X.suite e ((e, oe) :: pn)) (.builtin "isinstance") (rIsEs K k d e) := by
  subst hK
  intro pins s σ H xs us Q I r h
  obtain ⟨D, tp, cs, ws, b, rfl, rfl, C, rfl, hT, pr, ka, q⟩ := h
  obtain ⟨u1, u2, rfl, r1, r2⟩ := vals2 r
  cases r1
  cases (show u2 = Value.ref tp from r2)
  obtain ⟨_, its, rv, o, o1, o2, n, o3⟩ := (show ObjOk _ _ H s.heap tp (.tup cs) from I.hok tp _ hT)
  have eq := ClsV.all pr rv
  subst eq
  obtain ⟨oc, od, dt, sl⟩ := o
  simp only at o2 o3
  subst o2 o3
  obtain ⟨vs, hv⟩ := hf
  have there := (I.pin (e, oe) (List.mem_append.mpr (.inl List.mem_cons_self))).1
  have J : PySem.W.InstAt s.heap e oe D none := by
    obtain ⟨_, _, _, _⟩ := oe
    obtain ⟨z1, z2⟩ := hz
    dsimp only at z1 z2 hv
    subst z1 z2 hv
    exact ⟨there, rfl, rfl, trivial⟩
  exact PySem.W.kia_tup (PySem.W.handS_kitx_exc C.hg C.hk C.hs C.hd C.ha C.hn C.ht C.hm) I.kIn J o1 ka (fun z => nomatch z) fun tk => ⟨.bl b, H, I.kept (t' := tk) fun _ _ z => z, rfl, q⟩
/-! ### isinstance of a caught error, whatever its class -/
theorem call_isE2 {X : Cx} {K : PySem.W.Frag} {a : Addr} {oe : Obj} {cls : Value} {d : Option Addr} {pn : List (Addr × Obj)} (hK : X.K = K) (hz : Zc cls d oe) (hf : ∃ vs, oe.data = .fields vs) :
    CallR (X.suite a ((a, oe) :: pn)) (.builtin "isinstance") (fun xs H Q => ∃ D, cls = .ref D ∧ d = none ∧ ExcC K D ∧ rIsE K D a xs H Q) := by
  subst hK
  intro pins s σ H xs us Q I r h
  obtain ⟨D, rfl, rfl, C, h⟩ := h
  exact call_isE C hz hf pins s σ H xs us Q I r h
/-! ### a call of what a slot holds, inside a try -/
def tCallLS (W : WX) (i : Nat) (f : Addr) (sp : Sp) (t : TA) : TE := fun u G Q => u[i]? = some (some (.ref f)) ∧ t u G fun vs G1 => sp vs G1 Q (WE W u)
theorem pe_callLS {X : Cx} {C : CXT} {k i : Nat} {f : Addr} {fd : FuncData} {ps : List Str} {sp : Sp} {W : WX} {x : Str} {p pos : Pos} {e : Expr} {es : List Expr} {t : TA} (F : FnOk X.prog X.w X.K X.mg X.base C k f fd ps sp) (hr : Room k X.A) (hN : X.N[i]? = some x) (hv : Vis X.env.scope x)
    (hk : PySem.W.keepIn X.K (.ref f) = true) (hb : Binds X.K fd ps []) (hx : ∀ u, PassesAt C X u (WE W u)) (ha : PA X (e :: es) t) (n1 : (x == ("__debug__" : Str)) = false := by decide) (n2 : (x == ("__classdict__" : Str)) = false := by decide)
    (he : starEach (e :: es) X.env = (false, eval e X.env) :: starEach es X.env := by rfl) (hp : (backTo pos (starEach es X.env)).any (·.1) = false := by rfl) : PE X (.Call (.Name x p) (e :: es) [] pos) (tCallLS W i f sp t) := by
  constructor
  rintro pins s u G Q I ⟨hs, ht⟩
  refine wpAny_Call_Name_kw (thn ((pe_var (pos := p) hN hv n1 n2).run pins s u G (fun v G1 => v = .ref f ∧ G1 = G) I ⟨.ref f, hs, rfl, rfl⟩) ?_)
  rintro v s1 ⟨_, _, I1, r1, rfl, rfl⟩
  cases r1
  refine PySem.W.callWith_K (h₀ := X.base) I.ok.mod.kin hk (thn (ha.run pos pins s1 u _ _ I1 ht) fun us s2 z => ?_) he hp
  obtain ⟨vs, G2, I2, r, q⟩ := z
  exact ⟨I2.kIn, run_fnS (E := WE W) F hr hb (hx u) I2 r q⟩
/-! ### a list is made longer by a tuple -/
def rExtT (K : PySem.W.Frag) : V → List V → Hp → VK → Prop := fun x vs G Q => ∃ l b xs zs, x = .ref l ∧ vs = [.ref b] ∧ G l = some (.lst xs) ∧ SqT K G b zs ∧ xs.length + zs.length ≤ sizeLine ∧ Q .non (upd G l (.lst (xs ++ zs)))
theorem ext_tup {l b : Addr} {xs ys : Array Value} {n m : Nat} {dd : Option Addr} {sl : Array (Option Value)} (h0 : ¬(!xs.isEmpty && Builtin.List.listTooLong (xs.size + ys.size)) = true) (h1 : xs.size ≤ sizeLine) (h2 : xs.size + ys.size ≤ sizeLine + 1) :
    Meets (Builtin.«list.extend» ⟨[.ref l, .ref b], []⟩) (fun _ R sh => sh.heap.get? l = some { cls := .type "list", data := .seq xs n } ∧ sh.heap.get? b = some ⟨.type "tuple", dd, .seq ys m, sl⟩ ∧ R (.ok (.ret Value.none)) { sh with heap := sh.heap.update l (Obj.mapSeq (· ++ ys)), toks := sh.toks }) := by
  refine .of_wp fun prog w A R sh q => ?_
  obtain ⟨hp, g, d, tk, os⟩ := sh
  obtain ⟨ql, qb, qr⟩ := q
  have e1 := PySem.AutoSeq1.idx_int
  have e2 := PySem.AutoSeq1.sub_tuple_tuple
  have e3 := PySem.AutoSeq1.sub_list_list
  have e4 := PySem.AutoSeq1.sub_tuple_list
  have e5 := PySem.AutoSeq1.sub_list_tuple
  have hz : (xs ++ ys).size ≤ sizeLine + 1 := Nat.le_trans (Nat.le_of_eq Array.size_append) h2
  wp_walk using (wpAny_updateSeq ql rfl (hz := h1) (_hz' := hz)), wpAny_loadPart' ql, wpAny_loadPart' qb
  exact ⟨_, rfl, qr⟩
theorem mt_extT {X : Cx} : MtM X "list.extend" (rExtT X.K) := by
  rintro pins s u G x vs v us Q J rx rv ⟨l, b, xs, zs, rfl, rfl, hl0, hb0, hz, q⟩
  cases rx
  obtain ⟨w, rfl, ru⟩ := rv.one
  cases ru
  obtain ⟨_, ia, na, ra, la, ea⟩ := J.lstM hl0
  obtain ⟨ib, rb, tb, lb⟩ := J.tuple hb0
  obtain ⟨⟨oc, od, dt, sl⟩, eb, cb, nb, db⟩ := tb
  simp only at cb db
  subst cb db
  have small : ia.toArray.size + ib.toArray.size ≤ sizeLine := by
    rw [List.size_toArray, List.size_toArray]
    have := rb.length
    omega
  have open_ : ¬ (!ia.toArray.isEmpty && Builtin.List.listTooLong (ia.toArray.size + ib.toArray.size)) = true := by
    rw [notLongL small, Bool.and_false]
    decide
  refine call_meets F.slot_list_extend ⟨_, ea, rfl⟩ F.entry_list_extend (F.args_list_extend_2 _ _) (ext_tup open_ (by rw [List.size_toArray]; omega) (by omega)) ⟨ea, eb, ?_⟩
  refine ⟨.non, _, J.lset (its' := ia ++ ib) hl0 ea (by simp) (ra.append rb) ?_, rfl, q⟩
  rw [List.length_append]
  exact hz
/-! ## the data layer: what stands in frozen parts of the heap as plain data, what is still written to as cells -/
inductive D where
  | non
  | bl (b : Bool)
  | int (i : Int)
  | str (x : Str)
  | tup (xs : List D)
  | lst (xs : List D)
  | scr (xs : List D)
  | obj (C : Addr) (ns : List Str) (ds : List D)
  | dic
  | ty (n : String)
  | cls (C : Addr)
mutual
/-- in the frozen heap G the value v is the data d -/
inductive Rep (K : PySem.W.Frag) (G : Hp) : D → V → Prop
  | non : Rep K G .non .non
  | bl (b : Bool) : Rep K G (.bl b) (.bl b)
  | int (i : Int) : Rep K G (.int i) (.int i)
  | str (x : Str) : Rep K G (.str x) (.str x)
  | tup {a : Addr} {vs : List V} {ds : List D} : SqT K G a vs → Reps K G ds vs → Rep K G (.tup ds) (.ref a)
  | lst {a : Addr} {vs : List V} {ds : List D} : G a = some (.lst vs) → Reps K G ds vs → Rep K G (.lst ds) (.ref a)
  | scr {a : Addr} {vs : List V} {ds : List D} : SqL K G a vs → Reps K G ds vs → Rep K G (.scr ds) (.ref a)
  | obj {a C dx : Addr} {ns : List Str} {vs : List V} {ds : List D} : G a = some (.ins C dx (ns.zip vs)) → ns.length = ds.length → Reps K G ds vs → Rep K G (.obj C ns ds) (.ref a)
  | dic {a : Addr} {kvs : List (Key × V)} : G a = some (.dK kvs) → Rep K G .dic (.ref a)
  | ty (n : String) : Rep K G (.ty n) (.ty n)
  | cls (C : Addr) : Rep K G (.cls C) (.ref C)
inductive Reps (K : PySem.W.Frag) (G : Hp) : List D → List V → Prop
  | nil : Reps K G [] []
  | cons {d : D} {ds : List D} {v : V} {vs : List V} : Rep K G d v → Reps K G ds vs → Reps K G (d :: ds) (v :: vs)
end
section
variable {K : PySem.W.Frag} {G G' H : Hp} {v : V} {vs : List V} {d : D} {ds : List D}
theorem Rep.nonE (h : Rep K G .non v) : v = .non := by cases h; rfl
theorem Rep.blE {b : Bool} (h : Rep K G (.bl b) v) : v = .bl b := by cases h; rfl
theorem Rep.intE {i : Int} (h : Rep K G (.int i) v) : v = .int i := by cases h; rfl
theorem Rep.strE {x : Str} (h : Rep K G (.str x) v) : v = .str x := by cases h; rfl
theorem Rep.tupE (h : Rep K G (.tup ds) v) : ∃ a vs, v = .ref a ∧ SqT K G a vs ∧ Reps K G ds vs := by cases h with | tup a b => exact ⟨_, _, rfl, a, b⟩
theorem Rep.lstE (h : Rep K G (.lst ds) v) : ∃ a vs, v = .ref a ∧ G a = some (.lst vs) ∧ Reps K G ds vs := by cases h with | lst a b => exact ⟨_, _, rfl, a, b⟩
theorem Rep.scrE (h : Rep K G (.scr ds) v) : ∃ a vs, v = .ref a ∧ SqL K G a vs ∧ Reps K G ds vs := by cases h with | scr a b => exact ⟨_, _, rfl, a, b⟩
theorem Rep.objE {C : Addr} {ns : List Str} (h : Rep K G (.obj C ns ds) v) : ∃ a dx vs, v = .ref a ∧ G a = some (.ins C dx (ns.zip vs)) ∧ ns.length = ds.length ∧ Reps K G ds vs := by cases h with | obj a b c => exact ⟨_, _, _, rfl, a, b, c⟩
theorem Rep.dicE (h : Rep K G .dic v) : ∃ a kvs, v = .ref a ∧ G a = some (.dK kvs) := by cases h with | dic a => exact ⟨_, _, rfl, a⟩
theorem Reps.nilE (h : Reps K G [] vs) : vs = [] := by cases h; rfl
theorem Reps.consE (h : Reps K G (d :: ds) vs) : ∃ v ws, vs = v :: ws ∧ Rep K G d v ∧ Reps K G ds ws := by cases h with | cons a b => exact ⟨_, _, rfl, a, b⟩
theorem Same.seqT {a : Addr} {xs : List V} (e : Same G G') (h : SqT K G a xs) : SqT K G' a xs := by
  rcases h with (h | ⟨o, h⟩) | h
  · exact .inl (.inl (e _ _ h))
  · exact .inl (.inr ⟨o, e _ _ h⟩)
  · exact .inr h
mutual
theorem Rep.mono (s : Same G G') : ∀ (d : D) (v : V), Rep K G d v → Rep K G' d v
  | .non, _, h => by cases h; exact .non
  | .bl _, _, h => by cases h; exact .bl _
  | .int _, _, h => by cases h; exact .int _
  | .str _, _, h => by cases h; exact .str _
  | .tup ds, _, h => by cases h with | tup a b => exact .tup (Same.seqT s a) (Reps.mono s ds _ b)
  | .lst ds, _, h => by cases h with | lst a b => exact .lst (s _ _ a) (Reps.mono s ds _ b)
  | .scr ds, _, h => by cases h with | scr a b => exact .scr (Same.seq s a) (Reps.mono s ds _ b)
  | .obj C ns ds, _, h => by cases h with | obj a b c => exact .obj (s _ _ a) b (Reps.mono s ds _ c)
  | .dic, _, h => by cases h with | dic a => exact .dic (s _ _ a)
  | .ty _, _, h => by cases h; exact .ty _
  | .cls _, _, h => by cases h; exact .cls _
theorem Reps.mono (s : Same G G') : ∀ (ds : List D) (vs : List V), Reps K G ds vs → Reps K G' ds vs
  | [], _, h => by cases h; exact .nil
  | d :: ds, _, h => by cases h with | cons a b => exact .cons (Rep.mono s d _ a) (Reps.mono s ds _ b)
end
theorem Reps.length : ∀ {ds : List D} {vs : List V}, Reps K G ds vs → vs.length = ds.length
  | [], _, h => by cases h; rfl
  | _ :: _, _, h => by cases h with | cons _ b => exact congrArg (· + 1) (Reps.length b)
theorem Reps.get : ∀ {ds : List D} {vs : List V} {i : Nat} {d : D}, Reps K G ds vs → ds[i]? = some d → ∃ v, vs[i]? = some v ∧ Rep K G d v
  | [], _, _, _, _, e => by simp at e
  | _ :: _, _, 0, _, h, e => by cases h with | cons a _ => simp at e; subst e; exact ⟨_, rfl, a⟩
  | _ :: _, _, i + 1, _, h, e => by
    cases h with
    | cons _ b =>
      obtain ⟨v, q, r⟩ := Reps.get (i := i) b (by simpa using e)
      exact ⟨v, by simpa using q, r⟩
theorem Reps.append : ∀ {ds es : List D} {vs ws : List V}, Reps K G ds vs → Reps K G es ws → Reps K G (ds ++ es) (vs ++ ws)
  | [], _, _, _, h, k => by cases h; exact k
  | _ :: _, _, _, _, h, k => by cases h with | cons a b => exact .cons a (b.append k)
theorem Reps.drop : ∀ {ds : List D} {vs : List V} (n : Nat), Reps K G ds vs → Reps K G (ds.drop n) (vs.drop n)
  | _, _, 0, h => h
  | [], _, _ + 1, h => by cases h; exact .nil
  | _ :: _, _, n + 1, h => by cases h with | cons _ b => exact Reps.drop n b
theorem Reps.take : ∀ {ds : List D} {vs : List V} (n : Nat), Reps K G ds vs → Reps K G (ds.take n) (vs.take n)
  | _, _, 0, _ => .nil
  | [], _, _ + 1, h => by cases h; exact .nil
  | _ :: _, _, n + 1, h => by cases h with | cons a b => exact .cons a (Reps.take n b)
theorem Reps.set {d : D} {v : V} (r : Rep K G d v) : ∀ {ds : List D} {vs : List V} (i : Nat), Reps K G ds vs → Reps K G (ds.set i d) (vs.set i v)
  | [], _, _, h => by cases h; exact .nil
  | _ :: _, _, 0, h => by cases h with | cons _ b => exact .cons r b
  | _ :: _, _, i + 1, h => by cases h with | cons a b => exact .cons a (Reps.set r i b)
theorem Reps.reverse {ds : List D} {vs : List V} (h : Reps K G ds vs) : Reps K G ds.reverse vs.reverse := by
  induction ds generalizing vs with
  | nil => cases h; exact .nil
  | cons d ds ih => cases h with | cons a b => rw [List.reverse_cons, List.reverse_cons]; exact (ih b).append (.cons a .nil)
theorem Reps.rep {ds : List D} {vs : List V} (h : Reps K G ds vs) : ∀ n : Nat, Reps K G (List.replicate n ds).flatten (List.replicate n vs).flatten
  | 0 => .nil
  | n + 1 => by rw [List.replicate_succ, List.replicate_succ, List.flatten_cons, List.flatten_cons]; exact h.append (Reps.rep h n)
theorem Reps.ofV {ns : List Int} : Reps K G (ns.map D.int) (ns.map V.int) := by
  induction ns with
  | nil => exact .nil
  | cons n ns ih => exact .cons (.int n) ih
end
/-! no list and no object within: it can't hold a list that is still written to -/
mutual
def hard : D → Bool
  | .tup ds => hards ds
  | .lst _ => false
  | .scr _ => false
  | .obj _ _ ds => hards ds
  | _ => true
def hards : List D → Bool
  | [] => true
  | d :: ds => hard d && hards ds
end
section
variable {K : PySem.W.Frag} {G G' : Hp}
theorem SqT.hard {a : Addr} {vs : List V} (s : ∀ a o, G a = some o → (G' a = some o) ∨ (∃ xs, o = .lst xs)) (h : SqT K G a vs) : SqT K G' a vs := by
  rcases h with (h | ⟨o, h⟩) | h
  · rcases s _ _ h with z | ⟨xs, z⟩
    · exact .inl (.inl z)
    · cases z
  · rcases s _ _ h with z | ⟨xs, z⟩
    · exact .inl (.inr ⟨o, z⟩)
    · cases z
  · exact .inr h
mutual
theorem Rep.hard (s : ∀ a o, G a = some o → (G' a = some o) ∨ (∃ xs, o = .lst xs)) : ∀ (d : D) (v : V), LK.hard d = true → Rep K G d v → Rep K G' d v
  | .non, _, _, h => by cases h; exact .non
  | .bl _, _, _, h => by cases h; exact .bl _
  | .int _, _, _, h => by cases h; exact .int _
  | .str _, _, _, h => by cases h; exact .str _
  | .tup ds, _, k, h => by cases h with | tup a b => exact .tup (SqT.hard s a) (Reps.hard s ds _ (by rw [LK.hard] at k; exact k) b)
  | .lst ds, _, k, h => by rw [LK.hard] at k; cases k
  | .scr ds, _, k, h => by rw [LK.hard] at k; cases k
  | .obj C ns ds, _, k, h => by
    cases h with
    | obj a b c =>
      rcases s _ _ a with z | ⟨xs, z⟩
      · exact .obj z b (Reps.hard s ds _ (by rw [LK.hard] at k; exact k) c)
      · cases z
  | .dic, _, k, h => by
    cases h with
    | dic a =>
      rcases s _ _ a with z | ⟨xs, z⟩
      · exact .dic z
      · cases z
  | .ty _, _, _, h => by cases h; exact .ty _
  | .cls _, _, _, h => by cases h; exact .cls _
theorem Reps.hard (s : ∀ a o, G a = some o → (G' a = some o) ∨ (∃ xs, o = .lst xs)) : ∀ (ds : List D) (vs : List V), hards ds = true → Reps K G ds vs → Reps K G' ds vs
  | [], _, _, h => by cases h; exact .nil
  | d :: ds, _, k, h => by
    cases h with
    | cons a b =>
      rw [hards, Bool.and_eq_true] at k
      exact .cons (Rep.hard s d _ k.1 a) (Reps.hard s ds _ k.2 b)
end
end
/-- an item of a tuple that holds cells -/
inductive TN where
  | dat (d : D)
  | cel (j : Nat)
  | tup (xs : List TN)
/-- what a slot holds: data, or a cell, or a tuple that holds cells -/
inductive AV where
  | dat (d : D)
  | cel (j : Nat)
  | tup (xs : List TN)
/-- what else may be written to: what is known of it, by the frozen heap -/
structure CellX where
  ok : Hp → Addr → HO → Prop
  mono : ∀ {G G' : Hp} (s : ∀ a o, G a = some o → (G' a = some o) ∨ (∃ xs, o = .lst xs)) {a : Addr} {o : HO}, ok G a o → ok G' a o
/-- a private part of the heap: T what stands in it, a its root; what is known of it, by the frozen heap G -/
structure RegX where
  ok : Hp → Hp → Addr → Prop
  mono : ∀ {T G G' : Hp} {a : Addr} (s : ∀ a o, G a = some o → (G' a = some o) ∨ (∃ xs, o = .lst xs)), ok T G a → ok T G' a
/-- a list of scalars and pointers, of which the address is known -/
def lstX (c : Addr) (ds : List D) : CellX where
  ok _ a o := a = c ∧ ∃ vs, o = .lst vs ∧ ∀ (K : PySem.W.Frag) (G : Hp), Reps K G ds vs
  mono := by intro _ _ _ _ _ h; exact h
/-- an object of such fields, of which the address is known -/
def insX (g C : Addr) (ns : List Str) (ds : List D) : CellX where
  ok _ a o := a = g ∧ ∃ dx vs, o = .ins C dx (ns.zip vs) ∧ ns.length = ds.length ∧ ∀ (K : PySem.W.Frag) (G : Hp), Reps K G ds vs
  mono := by intro _ _ _ _ _ h; exact h
/-- scalars and pointers -/
def atom : D → Bool
  | .non => true | .bl _ => true | .int _ => true | .str _ => true | .ty _ => true | .cls _ => true
  | _ => false
def atoms : List D → Bool
  | [] => true
  | d :: ds => atom d && atoms ds
theorem Rep.atom {K K' : PySem.W.Frag} {G G' : Hp} {d : D} {v : V} (h : LK.atom d = true) (r : Rep K G d v) : Rep K' G' d v := by
  cases d with
  | non => cases r; exact .non
  | bl => cases r; exact .bl _
  | int => cases r; exact .int _
  | str => cases r; exact .str _
  | ty => cases r; exact .ty _
  | cls => cases r; exact .cls _
  | _ => cases h
theorem Reps.atoms {K K' : PySem.W.Frag} {G G' : Hp} : ∀ {ds : List D} {vs : List V}, LK.atoms ds = true → Reps K G ds vs → Reps K' G' ds vs
  | [], _, _, r => by cases r; exact .nil
  | d :: ds, _, h, r => by
    rw [LK.atoms, Bool.and_eq_true] at h
    cases r with
    | cons a b => exact .cons (Rep.atom h.1 a) (Reps.atoms h.2 b)
/-- what is still written to -/
inductive Cell where
  | reg (t : Option Addr) (X : RegX)
  | oth (X : CellX)
  | gone
  | lst (ds : List D)
  | drw
  | ins (C : Addr) (ns : List Str) (ds : List D)
def IsSt (xs : List V) : Prop := (∃ x, xs = [.int x]) ∨ ∃ x y z, xs = [.int x, .int y, .int z]
structure En where
  sl : List (Option AV)
  ce : List Cell
/-- what stands ahead of the def's call, the data it was handed, what is wanted of its errors -/
structure Fx where
  Fr : Hp
  G0 : Hp
  E : XK
  ex : Addr → Prop
  hE : ∀ C H, ex C → Same Fr H → E (.ref C) none H
  fr : V → Prop
  as0 : List Addr
mutual
inductive TNr (K : PySem.W.Frag) (G : Hp) (as : List Addr) : TN → V → Prop
  | dat {d : D} {v : V} : Rep K G d v → TNr K G as (.dat d) v
  | cel {j : Nat} {a : Addr} : as[j]? = some a → TNr K G as (.cel j) (.ref a)
  | tup {xs : List TN} {a : Addr} {vs : List V} : SqT K G a vs → TNs K G as xs vs → TNr K G as (.tup xs) (.ref a)
inductive TNs (K : PySem.W.Frag) (G : Hp) (as : List Addr) : List TN → List V → Prop
  | nil : TNs K G as [] []
  | cons {x : TN} {xs : List TN} {v : V} {vs : List V} : TNr K G as x v → TNs K G as xs vs → TNs K G as (x :: xs) (v :: vs)
end
def RepA (K : PySem.W.Frag) (G : Hp) (as : List Addr) : AV → V → Prop
  | .dat d, v => Rep K G d v
  | .cel j, v => ∃ a, as[j]? = some a ∧ v = .ref a
  | .tup xs, v => ∃ a vs, v = .ref a ∧ SqT K G a vs ∧ TNs K G as xs vs
def CellOk (K : PySem.W.Frag) (G H : Hp) (a : Addr) : Cell → Prop
  | .gone => True
  | .reg _ _ => G a = none
  | .lst ds => G a = none ∧ ∃ vs, H a = some (.lst vs) ∧ Reps K G ds vs
  | .drw => G a = none ∧ ∃ xs, H a = some (.lst xs) ∧ IsSt xs
  | .oth X => G a = none ∧ ∃ o, H a = some o ∧ X.ok G a o
  | .ins C ns ds => G a = none ∧ ∃ dx vs, H a = some (.ins C dx (ns.zip vs)) ∧ ns.length = ds.length ∧ Reps K G ds vs
/-- the private parts: apart from one another, from the frozen heap and from all other cells -/
structure RegsAt (Ts : Nat → Hp) (Fr G H : Hp) (as : List Addr) (cs : List Cell) : Prop where
  em : ∀ j, (∀ t X, cs[j]? ≠ some (Cell.reg t X)) → ∀ b, Ts j b = none
  dj : ∀ i j b o u, Ts i b = some o → Ts j b = some u → i = j
  pl : ∀ i b o, Ts i b = some o → H b = some o ∧ G b = none ∧ Fr b = none ∧ ∀ j, as[j]? = some b → j = i
  ok : ∀ (j : Nat) t X a, cs[j]? = some (Cell.reg t X) → as[j]? = some a → (∀ g, t = some g → a = g) ∧ X.ok (Ts j) G a
theorem RegsAt.is {Ts : Nat → Hp} {Fr G H : Hp} {as : List Addr} {cs : List Cell} (r : RegsAt Ts Fr G H as cs) {j : Nat} {b : Addr} {o : HO} (h : Ts j b = some o) : ∃ t X, cs[j]? = some (Cell.reg t X) := by
  cases hc : cs[j]? with
  | none => have := r.em j (fun t X z => by rw [hc] at z; cases z) b; rw [h] at this; cases this
  | some c =>
    cases c with
    | reg t X => exact ⟨t, X, rfl⟩
    | _ => have := r.em j (fun t X z => by rw [hc] at z; cases z) b; rw [h] at this; cases this
/-- the parts at other places, in another heap -/
theorem RegsAt.map {Ts : Nat → Hp} {Fr G H Fr' G' H' : Hp} {as as' : List Addr} {cs cs' : List Cell} (r : RegsAt Ts Fr G H as cs) (f : Nat → Option Nat)
    (f1 : ∀ (i : Nat) t X, cs'[i]? = some (Cell.reg t X) → ∃ i0, f i = some i0 ∧ cs[i0]? = some (Cell.reg t X) ∧ as'[i]? = as[i0]?)
    (f2 : ∀ i i0, f i = some i0 → ∃ t X, cs'[i]? = some (Cell.reg t X))
    (fi : ∀ i j k, f i = some k → f j = some k → i = j)
    (fb : ∀ (i : Nat) b, as'[i]? = some b → H b = none ∨ ∃ i0, as[i0]? = some b ∧ ∀ j, f j = some i0 → j = i)
    (hH : ∀ i i0 b o, f i = some i0 → Ts i0 b = some o → H' b = some o ∧ G' b = none ∧ Fr' b = none)
    (sG : ∀ a o, G a = some o → (G' a = some o) ∨ (∃ xs, o = .lst xs)) : RegsAt (fun i => match f i with | some i0 => Ts i0 | none => fun _ => none) Fr' G' H' as' cs' := by
  refine ⟨fun j h b => ?_, fun i j b o u h1 h2 => ?_, fun i b o h => ?_, fun j t X a hc ha => ?_⟩
  · cases hf : f j with
    | none => rfl
    | some j0 => obtain ⟨t, X, z⟩ := f2 j j0 hf; exact absurd z (h t X)
  · cases hf : f i with
    | none => simp only [hf] at h1; cases h1
    | some i0 =>
      cases hg : f j with
      | none => simp only [hg] at h2; cases h2
      | some j0 =>
        simp only [hf] at h1
        simp only [hg] at h2
        have := r.dj i0 j0 b o u h1 h2
        subst this
        exact fi i j i0 hf hg
  · cases hf : f i with
    | none => simp only [hf] at h; cases h
    | some i0 =>
      simp only [hf] at h
      obtain ⟨x1, x2, x3⟩ := hH i i0 b o hf h
      obtain ⟨y1, _, _, y4⟩ := r.pl i0 b o h
      refine ⟨x1, x2, x3, fun j hj => ?_⟩
      rcases fb j b hj with z | ⟨k, hk, hu⟩
      · rw [y1] at z; cases z
      · have := y4 k hk
        subst this
        exact (hu i hf).symm
  · obtain ⟨i0, hf, h1, h2⟩ := f1 j t X hc
    simp only [hf]
    obtain ⟨x, y⟩ := r.ok i0 t X a h1 (by rw [← h2]; exact ha)
    exact ⟨x, X.mono sG y⟩
/-- some of the parts, at their places -/
theorem RegsAt.subS {Ts : Nat → Hp} {Fr G H Fr' G' H' : Hp} {as as' : List Addr} {cs cs' : List Cell} (r : RegsAt Ts Fr G H as cs)
    (f1 : ∀ (i : Nat) t X, cs'[i]? = some (Cell.reg t X) → cs[i]? = some (Cell.reg t X) ∧ as'[i]? = as[i]?)
    (fb : ∀ (i : Nat) b, as'[i]? = some b → H b = none ∨ as[i]? = some b)
    (hH : ∀ (i : Nat) t X b o, cs'[i]? = some (Cell.reg t X) → Ts i b = some o → H' b = some o ∧ G' b = none ∧ Fr' b = none)
    (sG : ∀ a o, G a = some o → (G' a = some o) ∨ (∃ xs, o = .lst xs)) : ∃ Ts', RegsAt Ts' Fr' G' H' as' cs' ∧ ∀ i b o, Ts' i b = some o → Ts i b = some o := by
  refine ⟨_, r.map (fun i => match cs'[i]? with | some (.reg _ _) => some i | _ => none) (fun i t X h => ⟨i, by simp only [h], f1 i t X h⟩) (fun i i0 h => ?_) (fun i j k h1 h2 => ?_) (fun i b h => ?_) (fun i i0 b o h hb => ?_) sG, fun i b o h => ?_⟩
  · split at h
    · rename_i t X e; exact ⟨t, X, e⟩
    · cases h
  · split at h1
    · split at h2
      · cases h1; cases h2; rfl
      · cases h2
    · cases h1
  · rcases fb i b h with z | z
    · exact .inl z
    · refine .inr ⟨i, z, fun j hj => ?_⟩
      split at hj
      · cases hj; rfl
      · cases hj
  · split at h
    · rename_i t X e
      cases h
      exact hH _ t X b o e hb
    · cases h
  · have h : (match (match cs'[i]? with | some (.reg _ _) => some i | _ => none : Option Nat) with | some i0 => Ts i0 | none => fun _ => none) b = some o := h
    cases hf : (match cs'[i]? with | some (.reg _ _) => some i | _ => none : Option Nat) with
    | none => simp only [hf] at h; cases h
    | some i0 =>
      simp only [hf] at h
      split at hf
      · cases hf; exact h
      · cases hf
theorem RegsAt.sub {Ts : Nat → Hp} {Fr G H Fr' G' H' : Hp} {as as' : List Addr} {cs cs' : List Cell} (r : RegsAt Ts Fr G H as cs)
    (f1 : ∀ (i : Nat) t X, cs'[i]? = some (Cell.reg t X) → cs[i]? = some (Cell.reg t X) ∧ as'[i]? = as[i]?)
    (fb : ∀ (i : Nat) b, as'[i]? = some b → H b = none ∨ as[i]? = some b)
    (hH : ∀ (i : Nat) t X b o, cs'[i]? = some (Cell.reg t X) → Ts i b = some o → H' b = some o ∧ G' b = none ∧ Fr' b = none)
    (sG : ∀ a o, G a = some o → (G' a = some o) ∨ (∃ xs, o = .lst xs)) : ∃ Ts', RegsAt Ts' Fr' G' H' as' cs' := let ⟨Ts', h, _⟩ := r.subS f1 fb hH sG; ⟨Ts', h⟩
/-- nothing of them has changed -/
theorem RegsAt.same {Ts : Nat → Hp} {Fr G H Fr' G' H' : Hp} {as : List Addr} {cs : List Cell} (r : RegsAt Ts Fr G H as cs) (hH : ∀ i b o, Ts i b = some o → H b = some o → H' b = some o) (hG : ∀ b o, H b = some o → G b = none → G' b = none) (hF : ∀ b, Fr b = none → Fr' b = none) (sG : ∀ a o, G a = some o → (G' a = some o) ∨ (∃ xs, o = .lst xs)) : RegsAt Ts Fr' G' H' as cs :=
  ⟨r.em, r.dj, fun i b o h => by obtain ⟨x, y, z, w⟩ := r.pl i b o h; exact ⟨hH i b o h x, hG b o x y, hF b z, w⟩, fun j t X a hc ha => by obtain ⟨x, y⟩ := r.ok j t X a hc ha; exact ⟨x, X.mono sG y⟩⟩
/-- a cell is written to or has become another one -/
theorem RegsAt.setCS {Ts : Nat → Hp} {Fr G H G' H' : Hp} {as : List Addr} {cs : List Cell} (r : RegsAt Ts Fr G H as cs) {j : Nat} {a : Addr} {c' : Cell} (ha : as[j]? = some a) (hc : ∀ t X, c' ≠ Cell.reg t X) (hH : ∀ b o, b ≠ a → H b = some o → H' b = some o) (hG : ∀ b o, b ≠ a → H b = some o → G b = none → G' b = none) (sG : Same G G') : ∃ Ts', RegsAt Ts' Fr G' H' as (cs.set j c') ∧ ∀ i b o, Ts' i b = some o → Ts i b = some o := by
  have ne : ∀ i t X, (cs.set j c')[i]? = some (Cell.reg t X) → i ≠ j ∧ cs[i]? = some (Cell.reg t X) := fun i t X h => by
    by_cases q : j = i
    · subst q
      rw [List.getElem?_set] at h
      split at h
      · split at h
        · exact absurd (Option.some.inj h) (hc t X)
        · cases h
      · rename_i z; exact absurd rfl z
    · rw [List.getElem?_set_ne q] at h
      exact ⟨fun z => q z.symm, h⟩
  refine r.subS (fun i t X h => ⟨(ne i t X h).2, rfl⟩) (fun i b h => .inr h) (fun i t X b o h hb => ?_) (fun a o z => .inl (sG a o z))
  obtain ⟨x, y, z, w⟩ := r.pl i b o hb
  have nb : b ≠ a := fun q => by subst q; exact (ne i t X h).1 (w j ha).symm
  exact ⟨hH b o nb x, hG b o nb x y, z⟩
theorem RegsAt.setC {Ts : Nat → Hp} {Fr G H G' H' : Hp} {as : List Addr} {cs : List Cell} (r : RegsAt Ts Fr G H as cs) {j : Nat} {a : Addr} {c' : Cell} (ha : as[j]? = some a) (hc : ∀ t X, c' ≠ Cell.reg t X) (hH : ∀ b o, b ≠ a → H b = some o → H' b = some o) (hG : ∀ b o, b ≠ a → H b = some o → G b = none → G' b = none) (sG : Same G G') : ∃ Ts', RegsAt Ts' Fr G' H' as (cs.set j c') := let ⟨Ts', h, _⟩ := r.setCS ha hc hH hG sG; ⟨Ts', h⟩
/-- a new cell -/
theorem RegsAt.addC {Ts : Nat → Hp} {Fr G H H' : Hp} {as : List Addr} {cs : List Cell} (r : RegsAt Ts Fr G H as cs) {p : Addr} {c' : Cell} (ln : as.length = cs.length) (hc : ∀ t X, c' ≠ Cell.reg t X) (hp : ∀ i o, Ts i p ≠ some o) (hH : ∀ b o, b ≠ p → H b = some o → H' b = some o) : ∃ Ts', RegsAt Ts' Fr G H' (as ++ [p]) (cs ++ [c']) := by
  refine ⟨Ts, fun j h b => r.em j (fun t X z => h t X ?_) b, r.dj, fun i b o h => ?_, fun j t X a h1 h2 => ?_⟩
  · rw [List.getElem?_append_left (List.getElem?_eq_some_iff.mp z).1]; exact z
  · obtain ⟨x, y, z, w⟩ := r.pl i b o h
    have nb : b ≠ p := fun q => by subst q; exact hp i o h
    refine ⟨hH b o nb x, y, z, fun j hj => ?_⟩
    by_cases q : j < as.length
    · rw [List.getElem?_append_left q] at hj; exact w j hj
    · rw [List.getElem?_append_right (by omega)] at hj
      exact absurd (List.mem_singleton.mp (List.mem_of_getElem? hj)) nb
  · by_cases q : j < cs.length
    · rw [List.getElem?_append_left q] at h1
      rw [List.getElem?_append_left (by omega)] at h2
      exact r.ok j t X a h1 h2
    · rw [List.getElem?_append_right (by omega)] at h1
      exact absurd (List.mem_singleton.mp (List.mem_of_getElem? h1)).symm (hc t X)
structure EnvOk (K : PySem.W.Frag) (F : Fx) (ρ : En) (as : List Addr) (σ : L2.St) (H G : Hp) : Prop where
  gh : Same G H
  fh : Same F.Fr H
  fg : ∀ a o, G a = some o → F.G0 a = some o ∨ F.Fr a = none
  g0 : Same F.G0 G
  nd : as.Nodup
  pr : F.as0 <+: as
  ln : as.length = ρ.ce.length
  ce : ∀ (j : Nat) (c : Cell) (a : Addr), ρ.ce[j]? = some c → as[j]? = some a → F.Fr a = none ∧ (∃ o, H a = some o) ∧ CellOk K G H a c
  sn : σ.length = ρ.sl.length
  sl : ∀ (i : Nat) (av : AV), ρ.sl[i]? = some (some av) → ∃ v, σ[i]? = some (some v) ∧ RepA K G as av v
  rg : ∃ Ts, RegsAt Ts F.Fr G H as ρ.ce
/-- more is frozen, more cells -/
structure Gr (G : Hp) (as : List Addr) (G' : Hp) (as' : List Addr) : Prop where
  g : Same G G'
  a : ∃ r, as' = as ++ r
theorem Gr.refl {G : Hp} {as : List Addr} : Gr G as G as := ⟨Same.refl _, [], by simp⟩
theorem Gr.trans {G G1 G2 : Hp} {as as1 as2 : List Addr} (x : Gr G as G1 as1) (y : Gr G1 as1 G2 as2) : Gr G as G2 as2 := by
  obtain ⟨g, r, rfl⟩ := x
  obtain ⟨g2, r2, rfl⟩ := y
  exact ⟨Same.trans g g2, r ++ r2, by simp⟩
mutual
theorem TNr.mono {K : PySem.W.Frag} {G G' : Hp} {as as' : List Addr} (g : Gr G as G' as') : ∀ (x : TN) (v : V), TNr K G as x v → TNr K G' as' x v
  | .dat d, v, h => by cases h with | dat r => exact .dat (Rep.mono g.g _ _ r)
  | .cel j, v, h => by
    cases h with
    | cel e =>
      obtain ⟨_, r, rfl⟩ := g
      exact .cel (by rw [List.getElem?_append_left (List.getElem?_eq_some_iff.mp e).1]; exact e)
  | .tup xs, v, h => by cases h with | tup s r => exact .tup (Same.seqT g.g s) (TNs.mono g xs _ r)
theorem TNs.mono {K : PySem.W.Frag} {G G' : Hp} {as as' : List Addr} (g : Gr G as G' as') : ∀ (xs : List TN) (vs : List V), TNs K G as xs vs → TNs K G' as' xs vs
  | [], _, h => by cases h; exact .nil
  | x :: xs, _, h => by cases h with | cons a b => exact .cons (TNr.mono g x _ a) (TNs.mono g xs _ b)
end
theorem RepA.mono {K : PySem.W.Frag} {G G' : Hp} {as as' : List Addr} (g : Gr G as G' as') : ∀ {av : AV} {v : V}, RepA K G as av v → RepA K G' as' av v
  | .dat d, v, h => Rep.mono g.g d v h
  | .cel j, v, ⟨a, e, q⟩ => by
    obtain ⟨_, r, rfl⟩ := g
    exact ⟨a, by rw [List.getElem?_append_left (List.getElem?_eq_some_iff.mp e).1]; exact e, q⟩
  | .tup xs, v, ⟨a, vs, e, s, r⟩ => ⟨a, vs, e, Same.seqT g.g s, TNs.mono g _ _ r⟩
inductive RepAs (K : PySem.W.Frag) (G : Hp) (as : List Addr) : List AV → List V → Prop
  | nil : RepAs K G as [] []
  | cons {x : AV} {xs : List AV} {v : V} {vs : List V} : RepA K G as x v → RepAs K G as xs vs → RepAs K G as (x :: xs) (v :: vs)
theorem RepAs.mono {K : PySem.W.Frag} {G G' : Hp} {as as' : List Addr} (g : Gr G as G' as') {xs : List AV} {vs : List V} (h : RepAs K G as xs vs) : RepAs K G' as' xs vs := by
  induction h with
  | nil => exact .nil
  | cons a _ ih => exact .cons (a.mono g) ih
theorem RepAs.length {K : PySem.W.Frag} {G : Hp} {as : List Addr} {xs : List AV} {vs : List V} (h : RepAs K G as xs vs) : vs.length = xs.length := by
  induction h with
  | nil => rfl
  | cons _ _ ih => exact congrArg (· + 1) ih
theorem RepAs.append {K : PySem.W.Frag} {G : Hp} {as : List Addr} {xs ys : List AV} {vs ws : List V} (h : RepAs K G as xs vs) (k : RepAs K G as ys ws) : RepAs K G as (xs ++ ys) (vs ++ ws) := by
  induction h with
  | nil => exact k
  | cons a _ ih => exact .cons a ih
/-! ### the wishes, by data -/
structure KS where
  nx : En → Prop
  rt : AV → En → Prop
  bk : En → Prop := fun _ => False
  ct : En → Prop := fun _ => False
section
variable (K : PySem.W.Frag) (F : Fx)
/-- what is wanted of a value that has come -/
def Got (ρ : En) (as : List Addr) (σ : L2.St) (G : Hp) (k : AV → En → Prop) (Q : VK) : Prop := ∀ av ρ' v as' H' G', k av ρ' → EnvOk K F ρ' as' σ H' G' → Gr G as G' as' → RepA K G' as' av v → Q v H'
def WpE (t : TE) (ρ : En) (k : AV → En → Prop) : Prop := ∀ as σ H G, EnvOk K F ρ as σ H G → ∀ Q : VK, Got K F ρ as σ G k Q → t σ H Q
def WpT (t : TT) (ρ : En) (k : Bool → En → Prop) : Prop := ∀ as σ H G, EnvOk K F ρ as σ H G → ∀ Q : Bool → Hp → Prop, (∀ b ρ' as' H' G', k b ρ' → EnvOk K F ρ' as' σ H' G' → Gr G as G' as' → Q b H') → t σ H Q
def WpA (t : TA) (ρ : En) (k : List AV → En → Prop) : Prop := ∀ as σ H G, EnvOk K F ρ as σ H G → ∀ Q : List V → Hp → Prop, (∀ avs ρ' vs as' H' G', k avs ρ' → EnvOk K F ρ' as' σ H' G' → Gr G as G' as' → RepAs K G' as' avs vs → Q vs H') → t σ H Q
def WpR (r : R2) (x y : AV) (ρ : En) (k : AV → En → Prop) : Prop := ∀ as σ H G vx vy, EnvOk K F ρ as σ H G → RepA K G as x vx → RepA K G as y vy → ∀ Q : VK, Got K F ρ as σ G k Q → r vx vy H Q
def WpU (r : V → Hp → VK → Prop) (x : AV) (ρ : En) (k : AV → En → Prop) : Prop := ∀ as σ H G vx, EnvOk K F ρ as σ H G → RepA K G as x vx → ∀ Q : VK, Got K F ρ as σ G k Q → r vx H Q
def WpC (r : List V → Hp → VK → Prop) (xs : List AV) (ρ : En) (k : AV → En → Prop) : Prop := ∀ as σ H G vs, EnvOk K F ρ as σ H G → RepAs K G as xs vs → ∀ Q : VK, Got K F ρ as σ G k Q → r vs H Q
def WpM (r : V → List V → Hp → VK → Prop) (x : AV) (xs : List AV) (ρ : En) (k : AV → En → Prop) : Prop := ∀ as σ H G v vs, EnvOk K F ρ as σ H G → RepA K G as x v → RepAs K G as xs vs → ∀ Q : VK, Got K F ρ as σ G k Q → r v vs H Q
def WpSp (sp : Sp) (E : L2.St → XK) (xs : List AV) (ρ : En) (k : AV → En → Prop) : Prop := ∀ as σ H G vs, EnvOk K F ρ as σ H G → RepAs K G as xs vs → ∀ Q : VK, Got K F ρ as σ G k Q → sp vs H Q (E σ)
def WpG (g : TG) (x : AV) (ρ : En) (k : En → Prop) : Prop := ∀ as σ H G v, EnvOk K F ρ as σ H G → RepA K G as x v → ∀ Q : L2.St → Hp → Prop, (∀ ρ' as' σ' H' G', k ρ' → EnvOk K F ρ' as' σ' H' G' → Gr G as G' as' → Q σ' H') → g v σ H Q
def WpGs (g : TGs) (xs : List AV) (ρ : En) (k : En → Prop) : Prop := ∀ as σ H G vs, EnvOk K F ρ as σ H G → RepAs K G as xs vs → ∀ Q : L2.St → Hp → Prop, (∀ ρ' as' σ' H' G', k ρ' → EnvOk K F ρ' as' σ' H' G' → Gr G as G' as' → Q σ' H') → g vs σ H Q
/-- the ends of a statement, by data -/
structure EndsOk (as : List Addr) (G : Hp) (k : KS) (D : Ends) : Prop where
  nx : ∀ ρ as' σ H G', k.nx ρ → EnvOk K F ρ as' σ H G' → Gr G as G' as' → D.nx σ H
  rt : ∀ av ρ v as' σ H G', k.rt av ρ → EnvOk K F ρ as' σ H G' → Gr G as G' as' → RepA K G' as' av v → D.rt v H
  bk : ∀ ρ as' σ H G', k.bk ρ → EnvOk K F ρ as' σ H G' → Gr G as G' as' → D.bk σ H
  ct : ∀ ρ as' σ H G', k.ct ρ → EnvOk K F ρ as' σ H G' → Gr G as G' as' → D.ct σ H
  fr : ∀ v H, F.fr v → D.rt v H
theorem EndsOk.grow {as as1 : List Addr} {G G1 : Hp} {k : KS} {D : Ends} (q : EndsOk K F as G k D) (g : Gr G as G1 as1) : EndsOk K F as1 G1 k D :=
  ⟨fun ρ as' σ H G' a b c => q.nx ρ as' σ H G' a b (g.trans c), fun av ρ v as' σ H G' a b c d => q.rt av ρ v as' σ H G' a b (g.trans c) d, fun ρ as' σ H G' a b c => q.bk ρ as' σ H G' a b (g.trans c), fun ρ as' σ H G' a b c => q.ct ρ as' σ H G' a b (g.trans c), q.fr⟩
def WpS (t : TS) (ρ : En) (k : KS) : Prop := ∀ as σ H G, EnvOk K F ρ as σ H G → ∀ D : Ends, EndsOk K F as G k D → t D σ H
end
/-! ### rules of the data layer: expressions -/
section
variable {K : PySem.W.Frag} {F : Fx} {ρ : En} {k : AV → En → Prop} {kb : Bool → En → Prop} {ks : KS} {t u : TS} {ta tb te : TE} {tt tu : TT}
theorem Got.imp {as : List Addr} {σ : L2.St} {G : Hp} {ρ1 : En} {as1 : List Addr} {G1 : Hp} {k1 : AV → En → Prop} {Q : VK} (g : Got K F ρ as σ G k Q) (gr : Gr G as G1 as1) (h : ∀ av ρ', k1 av ρ' → k av ρ') : Got K F ρ1 as1 σ G1 k1 Q :=
  fun av ρ' v as' H' G' hk e gr' r => g av ρ' v as' H' G' (h _ _ hk) e (gr.trans gr') r
theorem WpE.imp {k' : AV → En → Prop} (h : WpE K F te ρ k) (i : ∀ av ρ', k av ρ' → k' av ρ') : WpE K F te ρ k' := fun as σ H G e Q q => h as σ H G e Q (q.imp .refl i)
theorem we_var {i : Nat} {av : AV} (h : ρ.sl[i]? = some (some av)) (hk : k av ρ) : WpE K F (tVar i) ρ k := fun as σ H G e Q q => by
  obtain ⟨v, hv, r⟩ := e.sl i av h
  exact ⟨v, hv, q av ρ v as H G hk e .refl r⟩
theorem we_ci {i : Int} (hk : k (.dat (.int i)) ρ) : WpE K F (tC (.int i)) ρ k := fun as σ H G e Q q => q _ ρ _ as H G hk e .refl (Rep.int i)
theorem we_cb {b : Bool} (hk : k (.dat (.bl b)) ρ) : WpE K F (tC (.bl b)) ρ k := fun as σ H G e Q q => q _ ρ _ as H G hk e .refl (Rep.bl b)
theorem we_cn (hk : k (.dat .non) ρ) : WpE K F (tC .non) ρ k := fun as σ H G e Q q => q _ ρ _ as H G hk e .refl Rep.non
theorem we_cs {x : Str} (hk : k (.dat (.str x)) ρ) : WpE K F (tC (.str x)) ρ k := fun as σ H G e Q q => q _ ρ _ as H G hk e .refl (Rep.str x)
theorem we_ct {n : String} (hk : k (.dat (.ty n)) ρ) : WpE K F (tC (.ty n)) ρ k := fun as σ H G e Q q => q _ ρ _ as H G hk e .refl (Rep.ty n)
/-- a constant of the module -/
theorem we_cr {a : Addr} {d : D} (h : ∀ G, Rep K G d (.ref a)) (hk : k (.dat d) ρ) : WpE K F (tC (.ref a)) ρ k := fun as σ H G e Q q => q _ ρ _ as H G hk e .refl (h G)
theorem we_op {r : R2} (h : WpE K F ta ρ fun x ρ1 => WpE K F tb ρ1 fun y ρ2 => WpR K F r x y ρ2 k) : WpE K F (tOp r ta tb) ρ k := fun as σ H G e Q q =>
  h as σ H G e _ fun x ρ1 vx as1 H1 G1 h1 e1 g1 r1 => h1 as1 σ H1 G1 e1 _ fun y ρ2 vy as2 H2 G2 h2 e2 g2 r2 => h2 as2 σ H2 G2 vx vy e2 (r1.mono g2) r2 Q (q.imp (g1.trans g2) fun _ _ z => z)
theorem we_un {r : V → Hp → VK → Prop} (h : WpE K F ta ρ fun x ρ1 => WpU K F r x ρ1 k) : WpE K F (tUn r ta) ρ k := fun as σ H G e Q q =>
  h as σ H G e _ fun x ρ1 vx as1 H1 G1 h1 e1 g1 r1 => h1 as1 σ H1 G1 vx e1 r1 Q (q.imp g1 fun _ _ z => z)
theorem we_tCB {r : List V → Hp → VK → Prop} {t : TA} (h : WpA K F t ρ fun xs ρ1 => WpC K F r xs ρ1 k) : WpE K F (tCB r t) ρ k := fun as σ H G e Q q =>
  h as σ H G e _ fun xs ρ1 vs as1 H1 G1 h1 e1 g1 r1 => h1 as1 σ H1 G1 vs e1 r1 Q (q.imp g1 fun _ _ z => z)
theorem wa_nil {k : List AV → En → Prop} (hk : k [] ρ) : WpA K F tNil ρ k := fun as σ H G e Q q => q [] ρ [] as H G hk e .refl .nil
theorem wa_cons {k : List AV → En → Prop} {tr : TA} (h : WpE K F ta ρ fun x ρ1 => WpA K F tr ρ1 fun xs ρ2 => k (x :: xs) ρ2) : WpA K F (tCons ta tr) ρ k := fun as σ H G e Q q =>
  h as σ H G e _ fun x ρ1 vx as1 H1 G1 h1 e1 g1 r1 => h1 as1 σ H1 G1 e1 _ fun xs ρ2 vs as2 H2 G2 h2 e2 g2 r2 => q _ ρ2 _ as2 H2 G2 h2 e2 (g1.trans g2) (.cons (r1.mono g2) r2)
theorem wr_I0i {f : Int → Int → Int} {i j : Int} (hk : k (.dat (.int (f i j))) ρ) : WpR K F (rI0 fun i j => .int (f i j)) (.dat (.int i)) (.dat (.int j)) ρ k := fun as σ H G vx vy e r1 r2 Q q => by
  cases (show Rep K G (.int i) vx from r1); cases (show Rep K G (.int j) vy from r2)
  exact ⟨i, j, rfl, rfl, q _ ρ _ as H G hk e .refl (Rep.int _)⟩
theorem wr_I0b {f : Int → Int → Bool} {i j : Int} (hk : k (.dat (.bl (f i j))) ρ) : WpR K F (rI0 fun i j => .bl (f i j)) (.dat (.int i)) (.dat (.int j)) ρ k := fun as σ H G vx vy e r1 r2 Q q => by
  cases (show Rep K G (.int i) vx from r1); cases (show Rep K G (.int j) vy from r2)
  exact ⟨i, j, rfl, rfl, q _ ρ _ as H G hk e .refl (Rep.bl _)⟩
theorem wr_Ii {C : Int → Int → Prop} {f : Int → Int → Int} {i j : Int} (hc : C i j) (hk : k (.dat (.int (f i j))) ρ) : WpR K F (rI C fun i j => .int (f i j)) (.dat (.int i)) (.dat (.int j)) ρ k := fun as σ H G vx vy e r1 r2 Q q => by
  cases (show Rep K G (.int i) vx from r1); cases (show Rep K G (.int j) vy from r2)
  exact ⟨i, j, rfl, rfl, hc, q _ ρ _ as H G hk e .refl (Rep.int _)⟩
theorem wu_neg {i : Int} (hk : k (.dat (.int (-i))) ρ) : WpU K F (rU fun i => .int (-i)) (.dat (.int i)) ρ k := fun as σ H G vx e r1 Q q => by
  cases (show Rep K G (.int i) vx from r1)
  exact ⟨i, rfl, q _ ρ _ as H G hk e .refl (Rep.int _)⟩
theorem wc_abs {i : Int} (hk : k (.dat (.int (if i < 0 then -i else i))) ρ) : WpC K F (fun xs H Q => ∃ i, xs = [.int i] ∧ Q (.int (if i < 0 then -i else i)) H) [.dat (.int i)] ρ k := fun as σ H G vs e r Q q => by
  cases r with
  | cons a b =>
    cases b
    cases (show Rep K G (.int i) _ from a)
    exact ⟨i, rfl, q _ ρ _ as H G hk e .refl (Rep.int _)⟩
/-- == of scalars -/
def scalD : D → D → Bool
  | .non, .non => true | .non, .int _ => true | .int _, .non => true | .non, .bl _ => true | .bl _, .non => true | .non, .str _ => true | .str _, .non => true
  | .int _, .int _ => true | .bl _, .bl _ => true | .str _, .str _ => true | .int _, .str _ => true | .str _, .int _ => true | .bl _, .str _ => true | .str _, .bl _ => true
  | _, _ => false
def eqS : D → D → Bool
  | .non, .non => true
  | .int i, .int j => decide (i = j)
  | .bl a, .bl b => decide (a = b)
  | .str x, .str y => decide (x = y)
  | _, _ => false
theorem scal_rep {G : Hp} {d e : D} {v w : V} (h : scalD d e = true) (r1 : Rep K G d v) (r2 : Rep K G e w) : scal v w = true ∧ decide (v = w) = eqS d e := by
  cases d <;> cases e <;> first
    | (exact Bool.noConfusion (show false = true from h))
    | (cases r1; cases r2; refine ⟨rfl, ?_⟩; first | rfl | (simp [eqS]) | (exact decide_eq_false (fun z => nomatch z)))
theorem wr_eq {d e : D} (h : scalD d e = true) (hk : k (.dat (.bl (eqS d e))) ρ) : WpR K F rEq (.dat d) (.dat e) ρ k := fun as σ H G vx vy en r1 r2 Q q => by
  obtain ⟨a, b⟩ := scal_rep (K := K) (G := G) h r1 r2
  refine ⟨a, ?_⟩
  rw [b]
  exact q _ ρ _ as H G hk en .refl (Rep.bl _)
theorem wr_ne {d e : D} (h : scalD d e = true) (hk : k (.dat (.bl (!eqS d e))) ρ) : WpR K F rNe (.dat d) (.dat e) ρ k := fun as σ H G vx vy en r1 r2 Q q => by
  obtain ⟨a, b⟩ := scal_rep (K := K) (G := G) h r1 r2
  refine ⟨a, ?_⟩
  rw [b]
  exact q _ ρ _ as H G hk en .refl (Rep.bl _)
def isNon : AV → Bool
  | .dat .non => true
  | _ => false
theorem isNon_rep {G : Hp} {as : List Addr} {x : AV} {v : V} (r : RepA K G as x v) : decide (v = .non) = isNon x := by
  cases x with
  | cel j => obtain ⟨a, _, rfl⟩ := r; rfl
  | tup xs => obtain ⟨a, vs, rfl, _⟩ := r; rfl
  | dat d => cases d <;> cases (show Rep K G _ v from r) <;> rfl
theorem wr_isN {x : AV} (hk : k (.dat (.bl (isNon x))) ρ) : WpR K F (fun x y H Q => y = .non ∧ Q (.bl (decide (x = .non))) H) x (.dat .non) ρ k := fun as σ H G vx vy en r1 r2 Q q => by
  refine ⟨Rep.nonE r2, ?_⟩
  rw [isNon_rep r1]
  exact q _ ρ _ as H G hk en .refl (Rep.bl _)
theorem wr_notN {x : AV} (hk : k (.dat (.bl (!isNon x))) ρ) : WpR K F (fun x y H Q => y = .non ∧ Q (.bl (!decide (x = .non))) H) x (.dat .non) ρ k := fun as σ H G vx vy en r1 r2 Q q => by
  refine ⟨Rep.nonE r2, ?_⟩
  rw [isNon_rep r1]
  exact q _ ρ _ as H G hk en .refl (Rep.bl _)
theorem wr_isB {a b : Bool} (hk : k (.dat (.bl (decide (a = b)))) ρ) : WpR K F (fun x y H Q => ∃ a b, x = .bl a ∧ y = .bl b ∧ Q (.bl (decide (a = b))) H) (.dat (.bl a)) (.dat (.bl b)) ρ k := fun as σ H G vx vy en r1 r2 Q q =>
  ⟨a, b, Rep.blE r1, Rep.blE r2, q _ ρ _ as H G hk en .refl (Rep.bl _)⟩
theorem wr_isnotB {a b : Bool} (hk : k (.dat (.bl (!decide (a = b)))) ρ) : WpR K F (fun x y H Q => ∃ a b, x = .bl a ∧ y = .bl b ∧ Q (.bl (!decide (a = b))) H) (.dat (.bl a)) (.dat (.bl b)) ρ k := fun as σ H G vx vy en r1 r2 Q q =>
  ⟨a, b, Rep.blE r1, Rep.blE r2, q _ ρ _ as H G hk en .refl (Rep.bl _)⟩
/-! truth -/
theorem we_andV (h : WpE K F ta ρ fun x ρ1 => ∃ c, x = .dat (.bl c) ∧ if c = true then WpE K F tb ρ1 k else k (.dat (.bl false)) ρ1) : WpE K F (tAndV ta tb) ρ k := fun as σ H G e Q q =>
  h as σ H G e _ fun x ρ1 vx as1 H1 G1 ⟨c, ex, hc⟩ e1 g1 r1 => by
    subst ex
    refine ⟨c, Rep.blE r1, ?_⟩
    cases c with
    | true => exact (show WpE K F tb ρ1 k from hc) as1 σ H1 G1 e1 Q (q.imp g1 fun _ _ z => z)
    | false => exact q _ ρ1 _ as1 H1 G1 hc e1 g1 (Rep.bl _)
theorem we_orV (h : WpE K F ta ρ fun x ρ1 => ∃ c, x = .dat (.bl c) ∧ if c = true then k (.dat (.bl true)) ρ1 else WpE K F tb ρ1 k) : WpE K F (tOrV ta tb) ρ k := fun as σ H G e Q q =>
  h as σ H G e _ fun x ρ1 vx as1 H1 G1 ⟨c, ex, hc⟩ e1 g1 r1 => by
    subst ex
    refine ⟨c, Rep.blE r1, ?_⟩
    cases c with
    | false => exact (show WpE K F tb ρ1 k from hc) as1 σ H1 G1 e1 Q (q.imp g1 fun _ _ z => z)
    | true => exact q _ ρ1 _ as1 H1 G1 hc e1 g1 (Rep.bl _)
theorem we_notV (h : WpE K F ta ρ fun x ρ1 => ∃ c, x = .dat (.bl c) ∧ k (.dat (.bl (!c))) ρ1) : WpE K F (tNotV ta) ρ k := fun as σ H G e Q q =>
  h as σ H G e _ fun x ρ1 vx as1 H1 G1 ⟨c, ex, hc⟩ e1 g1 r1 => by
    subst ex
    exact ⟨c, Rep.blE r1, q _ ρ1 _ as1 H1 G1 hc e1 g1 (Rep.bl _)⟩
theorem we_if (h : WpT K F tt ρ fun b ρ1 => if b = true then WpE K F ta ρ1 k else WpE K F tb ρ1 k) : WpE K F (tIf tt ta tb) ρ k := fun as σ H G e Q q =>
  h as σ H G e _ fun b ρ1 as1 H1 G1 hb e1 g1 => by
    cases b with
    | true => exact (show WpE K F ta ρ1 k from hb) as1 σ H1 G1 e1 Q (q.imp g1 fun _ _ z => z)
    | false => exact (show WpE K F tb ρ1 k from hb) as1 σ H1 G1 e1 Q (q.imp g1 fun _ _ z => z)
theorem wt_test (h : WpE K F te ρ fun x ρ1 => ∃ b, x = .dat (.bl b) ∧ kb b ρ1) : WpT K F (tTest te) ρ kb := fun as σ H G e Q q =>
  h as σ H G e _ fun x ρ1 vx as1 H1 G1 ⟨c, ex, hc⟩ e1 g1 r1 => by
    subst ex
    exact ⟨c, Rep.blE r1, q _ ρ1 as1 H1 G1 hc e1 g1⟩
theorem wt_B (h : WpE K F te ρ fun x ρ1 => ∃ b, x = .dat (.bl b) ∧ kb b ρ1) : WpT K F (tB te) ρ kb := wt_test h
theorem wt_and (h : WpT K F tt ρ fun b ρ1 => if b = true then WpT K F tu ρ1 kb else kb false ρ1) : WpT K F (tAnd tt tu) ρ kb := fun as σ H G e Q q =>
  h as σ H G e _ fun b ρ1 as1 H1 G1 hb e1 g1 => by
    cases b with
    | true => exact (show WpT K F tu ρ1 kb from hb) as1 σ H1 G1 e1 Q fun b2 ρ2 as2 H2 G2 h2 e2 g2 => q _ _ _ _ _ h2 e2 (g1.trans g2)
    | false => exact q _ _ _ _ _ hb e1 g1
theorem wt_or (h : WpT K F tt ρ fun b ρ1 => if b = true then kb true ρ1 else WpT K F tu ρ1 kb) : WpT K F (tOr tt tu) ρ kb := fun as σ H G e Q q =>
  h as σ H G e _ fun b ρ1 as1 H1 G1 hb e1 g1 => by
    cases b with
    | false => exact (show WpT K F tu ρ1 kb from hb) as1 σ H1 G1 e1 Q fun b2 ρ2 as2 H2 G2 h2 e2 g2 => q _ _ _ _ _ h2 e2 (g1.trans g2)
    | true => exact q _ _ _ _ _ hb e1 g1
theorem wt_not (h : WpT K F tt ρ fun b ρ1 => kb (!b) ρ1) : WpT K F (tNot tt) ρ kb := fun as σ H G e Q q => h as σ H G e _ fun b ρ1 as1 H1 G1 hb e1 g1 => q _ _ _ _ _ hb e1 g1
theorem wt_yes (h : kb true ρ) : WpT K F tYes ρ kb := fun as σ H G e Q q => q _ _ _ _ _ h e .refl
/-! ### statements -/
theorem ws_seq (h : WpS K F t ρ { ks with nx := fun ρ1 => WpS K F u ρ1 ks }) : WpS K F (tSeq t u) ρ ks := fun as σ H G e D q =>
  h as σ H G e { D with nx := u D } ⟨fun ρ1 as1 σ1 H1 G1 k1 e1 g1 => k1 as1 σ1 H1 G1 e1 D (EndsOk.grow K F q g1), q.rt, q.bk, q.ct, q.fr⟩
theorem ws_next (h : ks.nx ρ) : WpS K F tNext ρ ks := fun as σ H G e D q => q.nx ρ as σ H G h e .refl
theorem ws_break (h : ks.bk ρ) : WpS K F tBreak ρ ks := fun as σ H G e D q => q.bk ρ as σ H G h e .refl
theorem ws_cont (h : ks.ct ρ) : WpS K F tCont ρ ks := fun as σ H G e D q => q.ct ρ as σ H G h e .refl
theorem ws_drop (h : WpE K F te ρ fun _ ρ1 => ks.nx ρ1) : WpS K F (tDrop te) ρ ks := fun as σ H G e D q => h as σ H G e _ fun x ρ1 vx as1 H1 G1 h1 e1 g1 r1 => q.nx ρ1 as1 σ H1 G1 h1 e1 g1
theorem ws_ret (h : WpE K F te ρ ks.rt) : WpS K F (tRet te) ρ ks := fun as σ H G e D q => h as σ H G e _ fun x ρ1 vx as1 H1 G1 h1 e1 g1 r1 => q.rt x ρ1 vx as1 σ H1 G1 h1 e1 g1 r1
theorem ws_retN (h : ks.rt (.dat .non) ρ) : WpS K F tRetN ρ ks := fun as σ H G e D q => q.rt _ ρ _ as σ H G h e .refl Rep.non
theorem ws_if (h : WpT K F tt ρ fun b ρ1 => if b = true then WpS K F t ρ1 ks else WpS K F u ρ1 ks) : WpS K F (tIfS tt t u) ρ ks := fun as σ H G e D q =>
  h as σ H G e _ fun b ρ1 as1 H1 G1 hb e1 g1 => by
    cases b with
    | true => exact (show WpS K F t ρ1 ks from hb) as1 σ H1 G1 e1 D (EndsOk.grow K F q g1)
    | false => exact (show WpS K F u ρ1 ks from hb) as1 σ H1 G1 e1 D (EndsOk.grow K F q g1)
theorem ws_asg {g : TG} (h : WpE K F te ρ fun x ρ1 => WpG K F g x ρ1 ks.nx) : WpS K F (tAsg te g) ρ ks := fun as σ H G e D q =>
  h as σ H G e _ fun x ρ1 vx as1 H1 G1 h1 e1 g1 r1 => h1 as1 σ H1 G1 vx e1 r1 _ fun ρ2 as2 σ2 H2 G2 h2 e2 g2 => q.nx ρ2 as2 σ2 H2 G2 h2 e2 (g1.trans g2)
def En.put (ρ : En) (i : Nat) (x : AV) : En := ⟨ρ.sl.set i (some x), ρ.ce⟩
theorem EnvOk.put {as : List Addr} {σ : L2.St} {H G : Hp} {i : Nat} {x : AV} {v : V} (e : EnvOk K F ρ as σ H G) (r : RepA K G as x v) : EnvOk K F (ρ.put i x) as (σ.set i (some v)) H G :=
  ⟨e.gh, e.fh, e.fg, e.g0, e.nd, e.pr, e.ln, e.ce, by rw [List.length_set, e.sn]; exact (List.length_set).symm, fun j av hj => by
    show ∃ v', (σ.set i (some v))[j]? = some (some v') ∧ _
    have hj' : (ρ.sl.set i (some x))[j]? = some (some av) := hj
    by_cases hij : i = j
    · subst hij
      rw [List.getElem?_set] at hj' ⊢
      have hl : i < ρ.sl.length := by
        rcases Nat.lt_or_ge i ρ.sl.length with z | z
        · exact z
        · simp at hj'
          exact hj'.1
      simp [hl] at hj'
      subst hj'
      have hl2 : i < σ.length := by rw [e.sn]; exact hl
      exact ⟨v, by simp [hl2], r⟩
    · rw [List.getElem?_set_ne hij] at hj' ⊢
      exact e.sl j av hj', e.rg⟩
theorem wg_name {i : Nat} {x : AV} {kn : En → Prop} (h : kn (ρ.put i x)) : WpG K F (gName i) x ρ kn := fun as σ H G v e r Q q => q _ as _ H G h (e.put r) .refl
theorem wgs_nil {kn : En → Prop} (h : kn ρ) : WpGs K F gNil [] ρ kn := fun as σ H G vs e r Q q => by cases r; exact ⟨rfl, q _ _ _ _ _ h e .refl⟩
theorem wgs_cons {g : TG} {gs : TGs} {x : AV} {xs : List AV} {kn : En → Prop} (h : WpG K F g x ρ fun ρ1 => WpGs K F gs xs ρ1 kn) : WpGs K F (gCons g gs) (x :: xs) ρ kn := fun as σ H G vs e r Q q => by
  cases r with
  | cons a b => exact ⟨_, _, rfl, h as σ H G _ e a _ fun ρ1 as1 σ1 H1 G1 h1 e1 g1 => h1 as1 σ1 H1 G1 _ e1 (b.mono g1) Q fun ρ2 as2 σ2 H2 G2 h2 e2 g2 => q _ _ _ _ _ h2 e2 (g1.trans g2)⟩
theorem Reps.as {G : Hp} {as : List Addr} : ∀ {ds : List D} {vs : List V}, Reps K G ds vs → RepAs K G as (ds.map .dat) vs
  | [], _, h => by cases h; exact .nil
  | _ :: _, _, h => by cases h with | cons a b => exact .cons a (Reps.as b)
theorem wg_tup {n : Nat} {gs : TGs} {ds : List D} {kn : En → Prop} (hn : ds.length = n) (h : WpGs K F gs (ds.map .dat) ρ kn) : WpG K F (gTup K n gs) (.dat (.tup ds)) ρ kn := fun as σ H G v e r Q q => by
  obtain ⟨a, vs, rfl, hs, hr⟩ := Rep.tupE r
  exact ⟨a, vs, rfl, Same.seqT e.gh hs, by rw [hr.length]; exact hn, h as σ H G vs e hr.as Q q⟩
theorem ws_par {i j : Nat} {ta : TA} (h : WpA K F ta ρ fun xs ρ1 => ∃ x y, xs = [x, y] ∧ ks.nx ((ρ1.put i x).put j y)) : WpS K F (tPar i j ta) ρ ks := fun as σ H G e D q =>
  h as σ H G e _ fun xs ρ1 vs as1 H1 G1 ⟨x, y, ex, h1⟩ e1 g1 r1 => by
    subst ex
    cases r1 with
    | cons a b => cases b with | cons b c => cases c; exact ⟨_, _, rfl, q.nx _ as1 _ H1 G1 h1 ((e1.put a).put b) g1⟩
/-! ### lists and tuples -/
/-- the items of a list: data, or a cell -/
inductive IsL (ρ : En) : AV → List D → Prop
  | dat (ds : List D) : IsL ρ (.dat (.lst ds)) ds
  | scr (ds : List D) : IsL ρ (.dat (.scr ds)) ds
  | cel {j : Nat} {ds : List D} : ρ.ce[j]? = some (.lst ds) → IsL ρ (.cel j) ds
  | tag {j : Nat} {c : Addr} {ds : List D} : ρ.ce[j]? = some (.oth (lstX c ds)) → IsL ρ (.dat (.cls c)) ds
theorem IsL.rep {as : List Addr} {σ : L2.St} {H G : Hp} {x : AV} {ds : List D} {v : V} (e : EnvOk K F ρ as σ H G) (h : IsL ρ x ds) (r : RepA K G as x v) : ∃ a vs, v = .ref a ∧ SqL K H a vs ∧ Reps K G ds vs := by
  cases h with
  | dat => obtain ⟨a, vs, rfl, hs, hr⟩ := Rep.lstE r; exact ⟨a, vs, rfl, SqL.of (e.gh _ _ hs), hr⟩
  | scr => obtain ⟨a, vs, rfl, hs, hr⟩ := Rep.scrE r; exact ⟨a, vs, rfl, Same.seq e.gh hs, hr⟩
  | cel hc =>
    obtain ⟨a, ha, rfl⟩ := r
    obtain ⟨_, _, _, vs, hv, hr⟩ := e.ce _ _ a hc ha
    exact ⟨a, vs, rfl, SqL.of hv, hr⟩
  | @tag j c _ hc =>
    cases (show Rep K G (.cls c) v from r)
    obtain ⟨a, ha⟩ : ∃ a, as[j]? = some a := ⟨_, List.getElem?_eq_getElem (by rw [e.ln]; exact (List.getElem?_eq_some_iff.mp hc).1)⟩
    obtain ⟨_, _, _, o, ho, rfl, vs, rfl, hr⟩ := e.ce _ _ a hc ha
    exact ⟨a, vs, rfl, SqL.of ho, hr K G⟩
theorem atI_reps {G : Hp} {ds : List D} {vs : List V} {i : Int} {d : D} (h : Reps K G ds vs) (e : atI ds i = some d) : ∃ v, atI vs i = some v ∧ Rep K G d v := by
  unfold atI at *
  rw [h.length]
  cases q : ixN ds.length i with
  | none => rw [q] at e; cases e
  | some j =>
    rw [q] at e
    exact h.get e
theorem wr_ixL {x : AV} {ds : List D} {i : Int} {d : D} (hx : IsL ρ x ds) (hi : atI ds i = some d) (hk : k (.dat d) ρ) : WpR K F (rIxL K) x (.dat (.int i)) ρ k := fun as σ H G vx vy e r1 r2 Q q => by
  obtain ⟨a, vs, rfl, hs, hr⟩ := hx.rep e r1
  obtain ⟨v, hv, r⟩ := atI_reps hr hi
  exact ⟨a, vs, i, v, rfl, Rep.intE r2, hs, hv, q _ ρ _ as H G hk e .refl r⟩
theorem wr_ixT {ds : List D} {i : Int} {d : D} (hi : atI ds i = some d) (hk : k (.dat d) ρ) : WpR K F (rIxT K) (.dat (.tup ds)) (.dat (.int i)) ρ k := fun as σ H G vx vy e r1 r2 Q q => by
  obtain ⟨a, vs, rfl, hs, hr⟩ := Rep.tupE r1
  obtain ⟨v, hv, r⟩ := atI_reps hr hi
  exact ⟨a, vs, i, v, rfl, Rep.intE r2, Same.seqT e.gh hs, hv, q _ ρ _ as H G hk e .refl r⟩
theorem wc_lenL {x : AV} {ds : List D} (hx : IsL ρ x ds) (hk : k (.dat (.int ds.length)) ρ) : WpC K F (fun xs H Q => ∃ p ys, xs = [.ref p] ∧ (SqL K H p ys ∨ SqT K H p ys) ∧ Q (.int ys.length) H) [x] ρ k := fun as σ H G vs e r Q q => by
  cases r with
  | cons r c =>
    cases c
    obtain ⟨a, vs, rfl, hs, hr⟩ := hx.rep e r
    refine ⟨a, vs, rfl, .inl hs, ?_⟩
    rw [hr.length]
    exact q _ ρ _ as H G hk e .refl (Rep.int _)
theorem wc_lenT {ds : List D} (hk : k (.dat (.int ds.length)) ρ) : WpC K F (fun xs H Q => ∃ p ys, xs = [.ref p] ∧ (SqL K H p ys ∨ SqT K H p ys) ∧ Q (.int ys.length) H) [.dat (.tup ds)] ρ k := fun as σ H G vs e r Q q => by
  cases r with
  | cons r c =>
    cases c
    obtain ⟨a, vs, rfl, hs, hr⟩ := Rep.tupE r
    refine ⟨a, vs, rfl, .inr (Same.seqT e.gh hs), ?_⟩
    rw [hr.length]
    exact q _ ρ _ as H G hk e .refl (Rep.int _)
/-! new things -/
/-- a new frozen object -/
theorem EnvOk.newG {as : List Addr} {σ : L2.St} {H G : Hp} {p : Addr} {o : HO} (e : EnvOk K F ρ as σ H G) (hp : H p = none) : EnvOk K F ρ as σ (upd H p o) (upd G p o) ∧ Gr G as (upd G p o) as := by
  have gp : G p = none := Same.none e.gh hp
  have fp : F.Fr p = none := Same.none e.fh hp
  have sg : Same G (upd G p o) := Same.new (Same.refl _) gp
  refine ⟨⟨fun a u h => ?_, Same.new e.fh hp, fun a u h => ?_, Same.trans e.g0 sg, e.nd, e.pr, e.ln, fun j c a hc ha => ?_, e.sn, fun i av hi => ?_, ?_⟩, ⟨sg, [], by simp⟩⟩
  · by_cases q : a = p
    · subst q; rw [upd_same] at h ⊢; exact h
    · rw [upd_ne q] at h ⊢; exact e.gh _ _ h
  · by_cases q : a = p
    · subst q; exact .inr fp
    · rw [upd_ne q] at h; exact e.fg _ _ h
  · obtain ⟨f, ⟨u, hu⟩, ok⟩ := e.ce j c a hc ha
    have na : a ≠ p := ne_of_none hu hp
    refine ⟨f, ⟨u, upd_old hp hu⟩, ?_⟩
    cases c with
    | gone => trivial
    | lst ds => obtain ⟨g, vs, h, r⟩ := ok; exact ⟨by rw [upd_ne na]; exact g, vs, upd_old hp h, Reps.mono sg _ _ r⟩
    | ins C9 ns9 ds => obtain ⟨g, dx9, vs, h, ln9, r⟩ := ok; exact ⟨by rw [upd_ne na]; exact g, dx9, vs, upd_old hp h, ln9, Reps.mono sg _ _ r⟩
    | drw => obtain ⟨g, vs, h, r⟩ := ok; exact ⟨by rw [upd_ne na]; exact g, vs, upd_old hp h, r⟩
    | reg t X => show upd G p o a = none; rw [upd_ne na]; exact ok
    | oth X => obtain ⟨g, o9, h, r⟩ := ok; exact ⟨by rw [upd_ne na]; exact g, o9, upd_old hp h, X.mono (fun _ _ z => .inl (sg _ _ z)) r⟩
  · obtain ⟨v, hv, r⟩ := e.sl i av hi
    exact ⟨v, hv, r.mono ⟨sg, [], by simp⟩⟩
  · obtain ⟨Ts, r⟩ := e.rg
    exact ⟨Ts, r.same (fun _ _ _ _ h => upd_old hp h) (fun b u h g => by rw [upd_ne (ne_of_none h hp)]; exact g) (fun _ z => z) fun _ _ z => .inl (sg _ _ z)⟩
/-- a new cell -/
theorem EnvOk.newO {as : List Addr} {σ : L2.St} {H G : Hp} {p : Addr} {o : HO} {c0 : Cell} (e : EnvOk K F ρ as σ H G) (hp : H p = none) (ok0 : G p = none → CellOk K G (upd H p o) p c0) (nr : ∀ t X, c0 ≠ Cell.reg t X := by intro t X z; cases z) : EnvOk K F ⟨ρ.sl, ρ.ce ++ [c0]⟩ (as ++ [p]) σ (upd H p o) G ∧ Gr G as G (as ++ [p]) := by
  have gp : G p = none := Same.none e.gh hp
  have fp : F.Fr p = none := Same.none e.fh hp
  have gr : Gr G as G (as ++ [p]) := ⟨Same.refl _, [p], rfl⟩
  refine ⟨⟨fun a u h => upd_old hp (e.gh _ _ h), Same.new e.fh hp, e.fg, e.g0, ?_, e.pr.trans (List.prefix_append _ _), by rw [List.length_append, List.length_append, e.ln]; rfl, fun j c a hc ha => ?_, e.sn, fun i av hi => ?_, ?_⟩, gr⟩
  · rw [List.nodup_append]
    refine ⟨e.nd, by simp, fun a ha b hb => ?_⟩
    rw [List.mem_singleton] at hb
    subst hb
    obtain ⟨j, hj⟩ := List.getElem?_of_mem ha
    have hl : j < ρ.ce.length := by rw [← e.ln]; exact (List.getElem?_eq_some_iff.mp hj).1
    obtain ⟨_, ⟨u, hu⟩, _⟩ := e.ce j _ a (List.getElem?_eq_getElem hl) hj
    exact ne_of_none hu hp
  · by_cases hj : j < ρ.ce.length
    · rw [List.getElem?_append_left hj] at hc
      rw [List.getElem?_append_left (by rw [e.ln]; exact hj)] at ha
      obtain ⟨f, ⟨u, hu⟩, ok⟩ := e.ce j c a hc ha
      refine ⟨f, ⟨u, upd_old hp hu⟩, ?_⟩
      cases c with
      | gone => trivial
      | lst ds => obtain ⟨g, vs, h, r⟩ := ok; exact ⟨g, vs, upd_old hp h, r⟩
      | ins C9 ns9 ds => obtain ⟨g, dx9, vs, h, ln9, r⟩ := ok; exact ⟨g, dx9, vs, upd_old hp h, ln9, r⟩
      | drw => obtain ⟨g, vs, h, r⟩ := ok; exact ⟨g, vs, upd_old hp h, r⟩
      | reg t X => exact ok
      | oth X => obtain ⟨g, o9, h, r⟩ := ok; exact ⟨g, o9, upd_old hp h, r⟩
    · have hj2 : ρ.ce.length ≤ j := by omega
      rw [List.getElem?_append_right hj2] at hc
      rw [List.getElem?_append_right (by rw [e.ln]; exact hj2), e.ln] at ha
      cases z : j - ρ.ce.length with
      | zero =>
        rw [z] at hc ha
        cases hc
        cases ha
        exact ⟨fp, ⟨_, upd_same⟩, ok0 gp⟩
      | succ m => rw [z] at hc; simp at hc
  · obtain ⟨v, hv, r⟩ := e.sl i av hi
    exact ⟨v, hv, r.mono gr⟩
  · obtain ⟨Ts, r⟩ := e.rg
    exact r.addC e.ln nr (fun i u h => by have := (r.pl i p u h).1; rw [hp] at this; cases this) fun b u _ h => upd_old hp h
theorem EnvOk.newC {as : List Addr} {σ : L2.St} {H G : Hp} {p : Addr} {vs : List V} {ds : List D} (e : EnvOk K F ρ as σ H G) (hp : H p = none) (hr : Reps K G ds vs) : EnvOk K F ⟨ρ.sl, ρ.ce ++ [.lst ds]⟩ (as ++ [p]) σ (upd H p (.lst vs)) G ∧ Gr G as G (as ++ [p]) := e.newO hp fun gp => ⟨gp, vs, upd_same, hr⟩
/-- a cell is written -/
theorem EnvOk.setO {as : List Addr} {σ : L2.St} {H G : Hp} {j : Nat} {a : Addr} {c c' : Cell} {o : HO} (e : EnvOk K F ρ as σ H G) (hj : ρ.ce[j]? = some c) (ha : as[j]? = some a) (g : G a = none) (ok : CellOk K G (upd H a o) a c') (nr : ∀ t X, c' ≠ Cell.reg t X := by intro t X z; cases z) : EnvOk K F ⟨ρ.sl, ρ.ce.set j c'⟩ as σ (upd H a o) G := by
  obtain ⟨fa, ⟨u, hu⟩, _⟩ := e.ce j c a hj ha
  have hl : j < ρ.ce.length := (List.getElem?_eq_some_iff.mp hj).1
  refine ⟨fun b u h => upd_oth (ne_of_none h g) (e.gh _ _ h), fun b u h => upd_oth (ne_of_none h fa) (e.fh _ _ h), e.fg, e.g0, e.nd, e.pr, by rw [e.ln]; exact (List.length_set).symm, fun i c2 b hc hb => ?_, e.sn, e.sl, by obtain ⟨Ts, r⟩ := e.rg; exact r.setC ha nr (fun b u n h => upd_oth n h) (fun _ _ _ _ z => z) (Same.refl _)⟩
  have hc' : (ρ.ce.set j c')[i]? = some c2 := hc
  by_cases hij : j = i
  · subst hij
    rw [List.getElem?_set_self hl] at hc'
    cases hc'
    rw [ha] at hb
    cases hb
    exact ⟨fa, ⟨_, upd_same⟩, ok⟩
  · rw [List.getElem?_set_ne hij] at hc'
    obtain ⟨f, ⟨u2, hu2⟩, ok2⟩ := e.ce i c2 b hc' hb
    have nb : b ≠ a := fun z => by
      subst z
      exact hij ((List.getElem?_inj (List.getElem?_eq_some_iff.mp ha).1 e.nd).mp (ha.trans hb.symm))
    refine ⟨f, ⟨u2, upd_oth nb hu2⟩, ?_⟩
    cases c2 with
    | gone => trivial
    | lst ds => obtain ⟨g, vs, h, r⟩ := ok2; exact ⟨g, vs, upd_oth nb h, r⟩
    | ins C9 ns9 ds => obtain ⟨g, dx9, vs, h, ln9, r⟩ := ok2; exact ⟨g, dx9, vs, upd_oth nb h, ln9, r⟩
    | drw => obtain ⟨g, vs, h, r⟩ := ok2; exact ⟨g, vs, upd_oth nb h, r⟩
    | reg t X => exact ok2
    | oth X => obtain ⟨g, o9, h, r⟩ := ok2; exact ⟨g, o9, upd_oth nb h, r⟩
theorem EnvOk.setC {as : List Addr} {σ : L2.St} {H G : Hp} {j : Nat} {a : Addr} {c c' : Cell} {xs : List V} (e : EnvOk K F ρ as σ H G) (hj : ρ.ce[j]? = some c) (ha : as[j]? = some a) (g : G a = none) (ok : CellOk K G (upd H a (.lst xs)) a c') (nr : ∀ t X, c' ≠ Cell.reg t X := by intro t X z; cases z) : EnvOk K F ⟨ρ.sl, ρ.ce.set j c'⟩ as σ (upd H a (.lst xs)) G := e.setO hj ha g ok nr
mutual
/-- a cell is frozen -/
def frzT (j : Nat) (d : D) : TN → TN
  | .dat e => .dat e
  | .cel i => if i = j then .dat d else .cel i
  | .tup xs => .tup (frzTs j d xs)
def frzTs (j : Nat) (d : D) : List TN → List TN
  | [] => []
  | x :: xs => frzT j d x :: frzTs j d xs
end
def frzA (j : Nat) (d : D) : AV → AV
  | .dat e => .dat e
  | .cel i => if i = j then .dat d else .cel i
  | .tup xs => .tup (frzTs j d xs)
section
variable {G G' : Hp} {as : List Addr} {j : Nat} {a : Addr} {d : D}
mutual
theorem TNr.frz (sg : Same G G') (ha : as[j]? = some a) (ra : Rep K G' d (.ref a)) : ∀ (x : TN) (v : V), TNr K G as x v → TNr K G' as (frzT j d x) v
  | .dat e, v, h => by cases h with | dat r => rw [frzT]; exact .dat (Rep.mono sg _ _ r)
  | .cel i, v, h => by
    cases h with
    | @cel _ b e =>
      rw [frzT]
      by_cases q : i = j
      · subst q
        rw [if_pos rfl]
        rw [ha] at e
        cases e
        exact .dat ra
      · rw [if_neg q]
        exact .cel e
  | .tup xs, v, h => by cases h with | tup s r => rw [frzT]; exact .tup (Same.seqT sg s) (TNs.frz sg ha ra xs _ r)
theorem TNs.frz (sg : Same G G') (ha : as[j]? = some a) (ra : Rep K G' d (.ref a)) : ∀ (xs : List TN) (vs : List V), TNs K G as xs vs → TNs K G' as (frzTs j d xs) vs
  | [], _, h => by cases h; rw [frzTs]; exact .nil
  | x :: xs, _, h => by cases h with | cons a b => rw [frzTs]; exact .cons (TNr.frz sg ha ra x _ a) (TNs.frz sg ha ra xs _ b)
end
end
def En.frzD (ρ : En) (j : Nat) (d : D) : En := ⟨ρ.sl.map (fun o => o.map (frzA j d)), ρ.ce.set j .gone⟩
abbrev En.frz (ρ : En) (j : Nat) (ds : List D) : En := ρ.frzD j (.lst ds)
/-- the data that a cell holds -/
def celD : Cell → Option D
  | .lst ds => some (.lst ds)
  | .ins C ns ds => some (.obj C ns ds)
  | _ => none
theorem EnvOk.frzD {as : List Addr} {σ : L2.St} {H G : Hp} {j : Nat} {a : Addr} {c0 : Cell} {d : D} (e : EnvOk K F ρ as σ H G) (hj : ρ.ce[j]? = some c0) (ha : as[j]? = some a) (hd : celD c0 = some d) : ∃ o, EnvOk K F (ρ.frzD j d) as σ H (upd G a o) ∧ Gr G as (upd G a o) as ∧ Rep K (upd G a o) d (.ref a) := by
  obtain ⟨fa, ⟨u, hu⟩, ok⟩ := e.ce j _ a hj ha
  obtain ⟨g, ra⟩ : G a = none ∧ Rep K (upd G a u) d (.ref a) := by
    cases c0 with
    | gone => cases hd
    | drw => cases hd
    | oth _ => cases hd
    | reg _ _ => cases hd
    | lst ds =>
      cases hd
      obtain ⟨g, vs, hv, hr⟩ := ok
      rw [hu] at hv
      cases hv
      exact ⟨g, .lst upd_same (Reps.mono (Same.new (Same.refl _) g) _ _ hr)⟩
    | ins C ns ds =>
      cases hd
      obtain ⟨g, dx, vs, hv, hl, hr⟩ := ok
      rw [hu] at hv
      cases hv
      exact ⟨g, .obj upd_same hl (Reps.mono (Same.new (Same.refl _) g) _ _ hr)⟩
  have sg : Same G (upd G a u) := Same.new (Same.refl _) g
  have hl : j < ρ.ce.length := (List.getElem?_eq_some_iff.mp hj).1
  refine ⟨u, ⟨fun b o h => ?_, e.fh, fun b o h => ?_, Same.trans e.g0 sg, e.nd, e.pr, by rw [e.ln]; exact (List.length_set).symm, fun i c b hc hb => ?_, by rw [e.sn]; exact (List.length_map _).symm, fun i av hi => ?_, by obtain ⟨Ts, r⟩ := e.rg; exact r.setC ha (fun _ _ z => by cases z) (fun b u _ h => h) (fun b _ n _ z => by rw [upd_ne n]; exact z) sg⟩, ⟨sg, [], by simp⟩, ra⟩
  · by_cases q : b = a
    · subst q; rw [upd_same] at h; cases h; exact hu
    · rw [upd_ne q] at h; exact e.gh _ _ h
  · by_cases q : b = a
    · subst q; exact .inr fa
    · rw [upd_ne q] at h; exact e.fg _ _ h
  · have hc' : (ρ.ce.set j .gone)[i]? = some c := hc
    by_cases hij : j = i
    · subst hij
      rw [List.getElem?_set_self hl] at hc'
      cases hc'
      rw [ha] at hb
      cases hb
      exact ⟨fa, ⟨_, hu⟩, trivial⟩
    · rw [List.getElem?_set_ne hij] at hc'
      obtain ⟨f, hu2, ok2⟩ := e.ce i c b hc' hb
      have nb : b ≠ a := fun z => by
        subst z
        exact hij ((List.getElem?_inj (List.getElem?_eq_some_iff.mp ha).1 e.nd).mp (ha.trans hb.symm))
      refine ⟨f, hu2, ?_⟩
      cases c with
      | gone => trivial
      | lst ds => obtain ⟨g, vs, h, r⟩ := ok2; exact ⟨by rw [upd_ne nb]; exact g, vs, h, Reps.mono sg _ _ r⟩
      | ins C9 ns9 ds => obtain ⟨g, dx9, vs, h, ln9, r⟩ := ok2; exact ⟨by rw [upd_ne nb]; exact g, dx9, vs, h, ln9, Reps.mono sg _ _ r⟩
      | drw => obtain ⟨g, vs, h, r⟩ := ok2; exact ⟨by rw [upd_ne nb]; exact g, vs, h, r⟩
      | reg t X => show upd G a u b = none; rw [upd_ne nb]; exact ok2
      | oth X => obtain ⟨g, o9, h, r⟩ := ok2; exact ⟨by rw [upd_ne nb]; exact g, o9, h, X.mono (fun _ _ z => .inl (sg _ _ z)) r⟩
  · have hi' : (ρ.sl.map (fun o => o.map (frzA j d)))[i]? = some (some av) := hi
    rw [List.getElem?_map] at hi'
    obtain ⟨o, ho, eo⟩ := Option.map_eq_some_iff.mp hi'
    obtain ⟨x, rfl, rfl⟩ := Option.map_eq_some_iff.mp eo
    obtain ⟨v, hv2, r⟩ := e.sl i x ho
    refine ⟨v, hv2, ?_⟩
    cases x with
    | dat d => exact Rep.mono sg _ _ r
    | tup xs =>
      obtain ⟨p, vs, rfl, s, rs⟩ := r
      exact ⟨p, vs, rfl, Same.seqT sg s, TNs.frz sg ha ra _ _ rs⟩
    | cel m =>
      obtain ⟨b, hb, rfl⟩ := r
      show RepA K _ as (if m = j then .dat d else .cel m) _
      by_cases q : m = j
      · subst q
        rw [if_pos rfl]
        rw [ha] at hb
        cases hb
        exact ra
      · rw [if_neg q]
        exact ⟨b, hb, rfl⟩
theorem EnvOk.frz {as : List Addr} {σ : L2.St} {H G : Hp} {j : Nat} {a : Addr} {ds : List D} (e : EnvOk K F ρ as σ H G) (hj : ρ.ce[j]? = some (.lst ds)) (ha : as[j]? = some a) : ∃ o, EnvOk K F (ρ.frz j ds) as σ H (upd G a o) ∧ Gr G as (upd G a o) as ∧ Rep K (upd G a o) (.lst ds) (.ref a) := e.frzD hj ha rfl
/-- values that become data -/
inductive Frz : List AV → En → List D → En → Prop
  | nil {ρ : En} : Frz [] ρ [] ρ
  | dat {d : D} {xs : List AV} {ρ ρ' : En} {ds : List D} : Frz xs ρ ds ρ' → Frz (.dat d :: xs) ρ (d :: ds) ρ'
  | cel {j : Nat} {es : List D} {xs : List AV} {ρ ρ' : En} {ds : List D} : ρ.ce[j]? = some (.lst es) → Frz xs (ρ.frz j es) ds ρ' → Frz (.cel j :: xs) ρ (.lst es :: ds) ρ'
  | ins {j : Nat} {C : Addr} {ns : List Str} {es : List D} {xs : List AV} {ρ ρ' : En} {ds : List D} : ρ.ce[j]? = some (.ins C ns es) → Frz xs (ρ.frzD j (.obj C ns es)) ds ρ' → Frz (.cel j :: xs) ρ (.obj C ns es :: ds) ρ'
theorem Frz.run {xs : List AV} {ρ' : En} {ds : List D} (f : Frz xs ρ ds ρ') : ∀ {as : List Addr} {σ : L2.St} {H G : Hp} {vs : List V}, EnvOk K F ρ as σ H G → RepAs K G as xs vs → ∃ G', EnvOk K F ρ' as σ H G' ∧ Gr G as G' as ∧ Reps K G' ds vs := by
  induction f with
  | nil => intro as σ H G vs e r; cases r; exact ⟨G, e, .refl, .nil⟩
  | dat _ ih =>
    intro as σ H G vs e r
    cases r with
    | cons a b =>
      obtain ⟨G', e', g, r'⟩ := ih e b
      exact ⟨G', e', g, .cons (Rep.mono g.g _ _ a) r'⟩
  | cel hc _ ih =>
    intro as σ H G vs e r
    cases r with
    | cons a b =>
      obtain ⟨p, hp, rfl⟩ := a
      obtain ⟨ws, e1, g1, r1⟩ := e.frz hc hp
      obtain ⟨G', e', g, r'⟩ := ih e1 (b.mono g1)
      exact ⟨G', e', g1.trans g, .cons (Rep.mono g.g _ _ r1) r'⟩
  | ins hc _ ih =>
    intro as σ H G vs e r
    cases r with
    | cons a b =>
      obtain ⟨p, hp, rfl⟩ := a
      obtain ⟨ws, e1, g1, r1⟩ := e.frzD hc hp rfl
      obtain ⟨G', e', g, r'⟩ := ih e1 (b.mono g1)
      exact ⟨G', e', g1.trans g, .cons (Rep.mono g.g _ _ r1) r'⟩
theorem we_tup {t : TA} (h : WpA K F t ρ fun xs ρ1 => ∃ ds ρ2, Frz xs ρ1 ds ρ2 ∧ Nat.ble ds.length 1000 = true ∧ k (.dat (.tup ds)) ρ2) : WpE K F (tTup t) ρ k := fun as σ H G e Q q =>
  h as σ H G e _ fun xs ρ1 vs as1 H1 G1 ⟨ds, ρ2, fz, hl, hk⟩ e1 g1 r1 => by
    obtain ⟨G2, e2, g2, r2⟩ := fz.run e1 r1
    refine ⟨sz (by rw [r2.length]; exact hl), fun p hp => ?_⟩
    obtain ⟨e3, g3⟩ := e2.newG (o := .tup vs) hp
    exact q _ _ _ _ _ _ hk e3 (g1.trans (g2.trans g3)) (Rep.tup (SqT.of upd_same) (Reps.mono g3.g _ _ r2))
def En.add (ρ : En) (ds : List D) : En := ⟨ρ.sl, ρ.ce ++ [.lst ds]⟩
theorem RepA.last {as : List Addr} {G : Hp} {p : Addr} {n : Nat} (h : as.length = n) : RepA K G (as ++ [p]) (.cel n) (.ref p) := ⟨p, by rw [List.getElem?_append_right (by omega), h]; simp, rfl⟩
theorem we_lst {t : TA} (h : WpA K F t ρ fun xs ρ1 => ∃ ds ρ2, Frz xs ρ1 ds ρ2 ∧ Nat.ble ds.length 1000 = true ∧ k (.cel ρ2.ce.length) (ρ2.add ds)) : WpE K F (tLst t) ρ k := fun as σ H G e Q q =>
  h as σ H G e _ fun xs ρ1 vs as1 H1 G1 ⟨ds, ρ2, fz, hl, hk⟩ e1 g1 r1 => by
    obtain ⟨G2, e2, g2, r2⟩ := fz.run e1 r1
    refine ⟨sz (by rw [r2.length]; exact hl), fun p hp => ?_⟩
    obtain ⟨e3, g3⟩ := e2.newC hp r2
    exact q _ _ _ _ _ _ hk e3 (g1.trans (g2.trans g3)) (RepA.last e2.ln)
end
/-! ### rules of the data layer: lists that are written to, loops, comprehensions -/
section
variable {K : PySem.W.Frag} {F : Fx} {ρ : En} {k : AV → En → Prop} {kb : Bool → En → Prop} {ks : KS} {t u : TS} {ta tb te : TE} {tt tu : TT}
def lstC : Cell → Bool
  | .lst _ => true
  | .drw => true
  | _ => false
def En.cell (ρ : En) (j : Nat) (c : Cell) : En := ⟨ρ.sl, ρ.ce.set j c⟩
theorem we_bm {r : V → List V → Hp → VK → Prop} {t : TA} (h : WpE K F ta ρ fun x ρ1 => (∃ j c, x = .cel j ∧ ρ1.ce[j]? = some c ∧ lstC c = true) ∧ WpA K F t ρ1 fun xs ρ2 => WpM K F r x xs ρ2 k) : WpE K F (tBM K "list" r ta t) ρ k := fun as σ H G e Q q =>
  h as σ H G e _ fun x ρ1 vx as1 H1 G1 ⟨⟨j, c, ex, hc, hg⟩, h1⟩ e1 g1 r1 => by
    subst ex
    obtain ⟨a, ha, rfl⟩ := id r1
    refine ⟨.inl ⟨rfl, ?_⟩, h1 as1 σ H1 G1 e1 _ fun xs ρ2 vs as2 H2 G2 h2 e2 g2 r2 => h2 as2 σ H2 G2 _ vs e2 (r1.mono g2) r2 Q (q.imp (g1.trans g2) fun _ _ z => z)⟩
    obtain ⟨_, _, ok⟩ := e1.ce j c a hc ha
    cases c with
    | gone => cases hg
    | oth _ => cases hg
    | reg _ _ => cases hg
    | ins _ _ _ => cases hg
    | lst ds => obtain ⟨_, vs, h, _⟩ := ok; exact ⟨vs, SqL.of h⟩
    | drw => obtain ⟨_, vs, h, _⟩ := ok; exact ⟨vs, SqL.of h⟩
theorem we_bm0 {r : V → List V → Hp → VK → Prop} (h : WpE K F ta ρ fun x ρ1 => (∃ j c, x = .cel j ∧ ρ1.ce[j]? = some c ∧ lstC c = true) ∧ WpM K F r x [] ρ1 k) : WpE K F (tBM0 K "list" r ta) ρ k := fun as σ H G e Q q =>
  h as σ H G e _ fun x ρ1 vx as1 H1 G1 ⟨⟨j, c, ex, hc, hg⟩, h1⟩ e1 g1 r1 => by
    subst ex
    obtain ⟨a, ha, rfl⟩ := id r1
    refine ⟨.inl ⟨rfl, ?_⟩, h1 as1 σ H1 G1 _ [] e1 r1 .nil Q (q.imp g1 fun _ _ z => z)⟩
    obtain ⟨_, _, ok⟩ := e1.ce j c a hc ha
    cases c with
    | gone => cases hg
    | oth _ => cases hg
    | reg _ _ => cases hg
    | ins _ _ _ => cases hg
    | lst ds => obtain ⟨_, vs, h, _⟩ := ok; exact ⟨vs, SqL.of h⟩
    | drw => obtain ⟨_, vs, h, _⟩ := ok; exact ⟨vs, SqL.of h⟩
theorem wm_append {j : Nat} {x : AV} {ds : List D} {d : D} {ρ2 : En} (fz : Frz [x] ρ [d] ρ2) (hc : ρ2.ce[j]? = some (.lst ds)) (hl : ds.length < 16000000) (hk : k (.dat .non) (ρ2.cell j (.lst (ds ++ [d])))) : WpM K F rAppend (.cel j) [x] ρ k := fun as σ H G v vs e r1 r2 Q q => by
  obtain ⟨G2, e2, g2, r3⟩ := fz.run e r2
  obtain ⟨a, ha, rfl⟩ := r1
  cases r3 with
  | cons y z =>
    cases z
    obtain ⟨_, _, g, ws, hw, hr⟩ := e2.ce j _ a hc ha
    refine ⟨a, ws, _, rfl, rfl, hw, szbl (by rw [hr.length]; omega), q _ _ _ as _ G2 hk (e2.setC hc ha g ⟨g, _, upd_same, hr.append (.cons y .nil)⟩) g2 Rep.non⟩
theorem wm_clear {j : Nat} {ds : List D} (hc : ρ.ce[j]? = some (.lst ds)) (hk : k (.dat .non) (ρ.cell j (.lst []))) : WpM K F rClear (.cel j) [] ρ k := fun as σ H G v vs e r1 r2 Q q => by
  obtain ⟨a, ha, rfl⟩ := r1
  cases r2
  obtain ⟨_, _, g, ws, hw, hr⟩ := e.ce j _ a hc ha
  exact ⟨a, ws, rfl, rfl, hw, q _ _ _ as _ G hk (e.setC hc ha g ⟨g, _, upd_same, .nil⟩) .refl Rep.non⟩
/-- the answer is a new list -/
theorem new_list {as : List Addr} {σ : L2.St} {H G : Hp} {p : Addr} {vs : List V} {ds : List D} {Q : VK} (e : EnvOk K F ρ as σ H G) (q : Got K F ρ as σ G k Q) (hr : Reps K G ds vs) (hk : k (.cel ρ.ce.length) (ρ.add ds)) (hp : H p = none) : Q (.ref p) (upd H p (.lst vs)) := by
  obtain ⟨e3, g3⟩ := e.newC hp hr
  exact q _ _ _ _ _ _ hk e3 g3 (RepA.last e.ln)
theorem wc_list {x : AV} {ds : List D} (hx : IsL ρ x ds) (hk : k (.cel ρ.ce.length) (ρ.add ds)) : WpC K F (fun xs H Q => ∃ p ys, xs = [.ref p] ∧ (SqL K H p ys ∨ SqT K H p ys) ∧ ∀ l, H l = none → Q (.ref l) (upd H l (.lst ys))) [x] ρ k := fun as σ H G vs e r Q q => by
  cases r with
  | cons r c =>
    cases c
    obtain ⟨a, vs, rfl, hs, hr⟩ := hx.rep e r
    exact ⟨a, vs, rfl, .inl hs, fun p hp => new_list e q hr hk hp⟩
theorem wc_listT {ds : List D} (hk : k (.cel ρ.ce.length) (ρ.add ds)) : WpC K F (fun xs H Q => ∃ p ys, xs = [.ref p] ∧ (SqL K H p ys ∨ SqT K H p ys) ∧ ∀ l, H l = none → Q (.ref l) (upd H l (.lst ys))) [.dat (.tup ds)] ρ k := fun as σ H G vs e r Q q => by
  cases r with
  | cons r c =>
    cases c
    obtain ⟨a, vs, rfl, hs, hr⟩ := Rep.tupE r
    exact ⟨a, vs, rfl, .inr (Same.seqT e.gh hs), fun p hp => new_list e q hr hk hp⟩
theorem wc_tuple {x : AV} {ds : List D} (hx : IsL ρ x ds) (hk : k (.dat (.tup ds)) ρ) : WpC K F (fun xs H Q => ∃ p ys, xs = [.ref p] ∧ ((SqL K H p ys ∧ ∀ l, H l = none → Q (.ref l) (upd H l (.tup ys))) ∨ (SqT K H p ys ∧ Q (.ref p) H))) [x] ρ k := fun as σ H G vs e r Q q => by
  cases r with
  | cons r c =>
    cases c
    obtain ⟨a, vs, rfl, hs, hr⟩ := hx.rep e r
    refine ⟨a, vs, rfl, .inl ⟨hs, fun p hp => ?_⟩⟩
    obtain ⟨e3, g3⟩ := e.newG (o := .tup vs) hp
    exact q _ _ _ _ _ _ hk e3 g3 (Rep.tup (SqT.of upd_same) (Reps.mono g3.g _ _ hr))
theorem wr_cat {x y : AV} {ds es : List D} (hx : IsL ρ x ds) (hy : IsL ρ y es) (hl : ds.length + es.length ≤ 16000000) (hk : k (.cel ρ.ce.length) (ρ.add (ds ++ es))) : WpR K F (rCatF K) x y ρ k := fun as σ H G vx vy e r1 r2 Q q => by
  obtain ⟨a, vs, rfl, hs, hr⟩ := hx.rep e r1
  obtain ⟨b, ws, rfl, hs2, hr2⟩ := hy.rep e r2
  exact ⟨a, b, vs, ws, rfl, rfl, hs, hs2, szb (by rw [hr.length, hr2.length]; exact hl), fun p hp => new_list e q (hr.append hr2) hk hp⟩
/-- a list that may be copied whole: data, or a cell -/
inductive IsP (ρ : En) : AV → List D → Prop
  | dat (ds : List D) : IsP ρ (.dat (.lst ds)) ds
  | cel {j : Nat} {ds : List D} : ρ.ce[j]? = some (.lst ds) → IsP ρ (.cel j) ds
theorem IsP.rep {as : List Addr} {σ : L2.St} {H G : Hp} {x : AV} {ds : List D} {v : V} (e : EnvOk K F ρ as σ H G) (h : IsP ρ x ds) (r : RepA K G as x v) : ∃ a vs, v = .ref a ∧ H a = some (.lst vs) ∧ Reps K G ds vs := by
  cases h with
  | dat => obtain ⟨a, vs, rfl, hs, hr⟩ := Rep.lstE r; exact ⟨a, vs, rfl, e.gh _ _ hs, hr⟩
  | cel hc =>
    obtain ⟨a, ha, rfl⟩ := r
    obtain ⟨_, _, _, vs, hv, hr⟩ := e.ce _ _ a hc ha
    exact ⟨a, vs, rfl, hv, hr⟩
theorem wr_rep {x : AV} {ds : List D} {n : Int} (hx : IsP ρ x ds) (h0 : 0 ≤ n) (h1 : n < 1000000) (hl : ds.length * n.toNat ≤ 16000000) (hk : k (.cel ρ.ce.length) (ρ.add (List.replicate n.toNat ds).flatten)) : WpR K F rRep x (.dat (.int n)) ρ k := fun as σ H G vx vy e r1 r2 Q q => by
  obtain ⟨a, vs, rfl, hs, hr⟩ := hx.rep e r1
  exact ⟨a, n, vs, rfl, Rep.intE r2, hs, by omega, by omega, szb (by rw [hr.length]; exact hl), fun p hp => new_list e q (hr.rep n.toNat) hk hp⟩
theorem wm_extend {j : Nat} {x : AV} {ds es : List D} (hx : IsP ρ x es) (hc : ρ.ce[j]? = some (.lst ds)) (hl : ds.length + es.length ≤ 16000000) (hk : k (.dat .non) (ρ.cell j (.lst (ds ++ es)))) : WpM K F rExtend (.cel j) [x] ρ k := fun as σ H G v vs e r1 r2 Q q => by
  obtain ⟨a, ha, rfl⟩ := r1
  cases r2 with
  | cons r2 r3 =>
    cases r3
    obtain ⟨b, ws, rfl, hw, hr⟩ := hx.rep e r2
    obtain ⟨_, _, g, us, hu, hr2⟩ := e.ce j _ a hc ha
    exact ⟨a, b, us, ws, rfl, rfl, hu, hw, szb (by rw [hr.length, hr2.length]; omega), q _ _ _ as _ G hk (e.setC hc ha g ⟨g, _, upd_same, hr2.append hr⟩) .refl Rep.non⟩
def cutD (xs : List D) (lo hi : Option Int) : List D := (xs.drop (HT.sIx xs.length 0 lo)).take (HT.sIx xs.length xs.length hi - HT.sIx xs.length 0 lo)
theorem Reps.cut {G : Hp} {ds : List D} {vs : List V} (h : Reps K G ds vs) (lo hi : Option Int) : Reps K G (cutD ds lo hi) (cutV vs lo hi) := by
  unfold cutD cutV
  rw [h.length]
  exact (h.drop _).take _
def WpO (K : PySem.W.Frag) (F : Fx) (t : TO) (ρ : En) (k : Option Int → En → Prop) : Prop := ∀ as σ H G, EnvOk K F ρ as σ H G → ∀ Q : Option Int → Hp → Prop, (∀ b ρ' as' H' G', k b ρ' → EnvOk K F ρ' as' σ H' G' → Gr G as G' as' → Q b H') → t σ H Q
theorem wo_none {ko : Option Int → En → Prop} (h : ko none ρ) : WpO K F tNoPart ρ ko := fun as σ H G e Q q => q _ _ _ _ _ h e .refl
theorem wo_some {ko : Option Int → En → Prop} (h : WpE K F te ρ fun x ρ1 => ∃ i, x = .dat (.int i) ∧ ko (some i) ρ1) : WpO K F (tPart te) ρ ko := fun as σ H G e Q q =>
  h as σ H G e _ fun x ρ1 vx as1 H1 G1 ⟨c, ex, hc⟩ e1 g1 r1 => by
    subst ex
    exact ⟨c, Rep.intE r1, q _ _ _ _ _ hc e1 g1⟩
theorem we_slL {tl th : TO} (h : WpE K F te ρ fun x ρ1 => WpO K F tl ρ1 fun lo ρ2 => WpO K F th ρ2 fun hi ρ3 => ∃ ds, IsL ρ3 x ds ∧ k (.cel ρ3.ce.length) (ρ3.add (cutD ds lo hi))) : WpE K F (tSl (rSlL K) te tl th) ρ k := fun as σ H G e Q q =>
  h as σ H G e _ fun x ρ1 vx as1 H1 G1 h1 e1 g1 r1 => h1 as1 σ H1 G1 e1 _ fun lo ρ2 as2 H2 G2 h2 e2 g2 => h2 as2 σ H2 G2 e2 _ fun hi ρ3 as3 H3 G3 ⟨ds, hd, h3⟩ e3 g3 => by
    obtain ⟨a, vs, rfl, hs, hr⟩ := hd.rep e3 (r1.mono (g2.trans g3))
    exact ⟨a, vs, rfl, hs, fun p hp => new_list e3 (q.imp (g1.trans (g2.trans g3)) fun _ _ z => z) (hr.cut lo hi) h3 hp⟩
/-! what is walked -/
def ItS (K : PySem.W.Frag) (F : Fx) (J : It) (ds : List D) (gd : En → Prop) (as0 : List Addr) (G0 : Hp) : Prop := ∀ ρ as σ H G, EnvOk K F ρ as σ H G → Gr G0 as0 G as → gd ρ →
  (∀ i, i < ds.length → J.go i H) ∧ J.stop ds.length H ∧ ∀ i x H', i < ds.length → J.yld i H x H' → ∃ d G', ds[i]? = some d ∧ (∀ σ', EnvOk K F ρ as σ' H G → EnvOk K F ρ as σ' H' G') ∧ Gr G as G' as ∧ Rep K G' d x
def WpI (K : PySem.W.Frag) (F : Fx) (wi : TI) (ρ : En) (k : List D → (En → Prop) → En → Prop) : Prop := ∀ as σ H G, EnvOk K F ρ as σ H G → ∀ R : It → Hp → Prop, (∀ ds gd J ρ' as' H' G', k ds gd ρ' → EnvOk K F ρ' as' σ H' G' → Gr G as G' as' → ItS K F J ds gd as' G' → R J H') → wi σ H R
theorem wi_list {ki : List D → (En → Prop) → En → Prop} {tl : TE} (h : WpE K F tl ρ fun x ρ1 => ∃ ds, IsL ρ1 x ds ∧ ki ds (fun ρ2 => IsL ρ2 x ds) ρ1) : WpI K F (iList K tl) ρ ki := fun as σ H G e R q =>
  h as σ H G e _ fun x ρ1 vx as1 H1 G1 ⟨ds, hx, h1⟩ e1 g1 r1 => by
    obtain ⟨a, vs, rfl, hs, hr⟩ := hx.rep e1 r1
    refine ⟨a, rfl, ⟨vs, hs⟩, q _ _ _ _ _ _ _ h1 e1 g1 fun ρ2 as2 σ2 H2 G2 e2 g2 hx2 => ?_⟩
    obtain ⟨a2, ws, ea, hs2, hr2⟩ := hx2.rep e2 (r1.mono g2)
    cases ea
    have w := walk_list (K := K) (a := a) (xs := ws)
    rw [hr2.length] at w
    refine ⟨fun i hi => w.goes i H2 hi hs2, w.stops H2 hs2, fun i x H' hi y => ?_⟩
    obtain ⟨rfl, hx⟩ := w.yields i H2 x H' hi hs2 y
    obtain ⟨d, hd⟩ : ∃ d, ds[i]? = some d := ⟨_, List.getElem?_eq_getElem hi⟩
    obtain ⟨v, hv, rv⟩ := hr2.get hd
    rw [hx] at hv
    cases hv
    exact ⟨d, G2, hd, fun _ z => z, .refl, rv⟩
theorem wi_tup {ki : List D → (En → Prop) → En → Prop} {tl : TE} (h : WpE K F tl ρ fun x ρ1 => ∃ ds, x = .dat (.tup ds) ∧ ki ds (fun _ => True) ρ1) : WpI K F (iTup K tl) ρ ki := fun as σ H G e R q =>
  h as σ H G e _ fun x ρ1 vx as1 H1 G1 ⟨ds, ex, h1⟩ e1 g1 r1 => by
    subst ex
    obtain ⟨a, vs, rfl, hs, hr⟩ := Rep.tupE r1
    refine ⟨a, rfl, ⟨vs, Same.seqT e1.gh hs⟩, q _ _ _ _ _ _ _ h1 e1 g1 fun ρ2 as2 σ2 H2 G2 e2 g2 _ => ?_⟩
    have hs2 := Same.seqT (Same.trans g2.g e2.gh) hs
    have w := walk_tup (K := K) (a := a) (xs := vs)
    rw [hr.length] at w
    refine ⟨fun i hi => w.goes i H2 hi hs2, w.stops H2 hs2, fun i x H' hi y => ?_⟩
    obtain ⟨rfl, hx⟩ := w.yields i H2 x H' hi hs2 y
    obtain ⟨d, hd⟩ : ∃ d, ds[i]? = some d := ⟨_, List.getElem?_eq_getElem hi⟩
    obtain ⟨v, hv, rv⟩ := hr.get hd
    rw [hx] at hv
    cases hv
    exact ⟨d, G2, hd, fun _ z => z, .refl, Rep.mono g2.g _ _ rv⟩
def rngD (lo : Int) (n : Nat) : List D := (List.range n).map fun (i : Nat) => D.int (lo + i)
theorem its_range {lo : Int} {n : Nat} {as : List Addr} {G : Hp} : ItS K F (Itr lo n) (rngD lo n) (fun _ => True) as G := fun ρ2 as2 σ2 H2 G2 e2 g2 _ => by
  have w := walk_range (lo := lo) (n := n)
  have ln : (rngD lo n).length = n := by unfold rngD; rw [List.length_map, List.length_range]
  refine ⟨fun i hi => w.goes i H2 (ln ▸ hi) trivial, by rw [ln]; exact w.stops H2 trivial, fun i x H' hi y => ?_⟩
  obtain ⟨rfl, rfl⟩ := w.yields i H2 x H' (ln ▸ hi) trivial y
  exact ⟨.int (lo + i), G2, by unfold rngD; rw [List.getElem?_map, List.getElem?_range (ln ▸ hi)]; rfl, fun _ z => z, .refl, Rep.int _⟩
theorem wi_rng1 {ki : List D → (En → Prop) → En → Prop} {t : TA} (h : WpA K F t ρ fun xs ρ1 => ∃ j : Int, xs = [.dat (.int j)] ∧ (-(2 ^ 62) ≤ j ∧ j < 2 ^ 62) ∧ ki (rngD 0 j.toNat) (fun _ => True) ρ1) : WpI K F (iRng1 t) ρ ki := fun as σ H G e R q =>
  h as σ H G e _ fun xs ρ1 vs as1 H1 G1 ⟨j, ex, hj, h1⟩ e1 g1 r1 => by
    subst ex
    cases r1 with
    | cons a b => cases b; exact ⟨j, by rw [Rep.intE a], hj.1, hj.2, q _ _ _ _ _ _ _ h1 e1 g1 its_range⟩
theorem wi_rng2 {ki : List D → (En → Prop) → En → Prop} {t : TA} (h : WpA K F t ρ fun xs ρ1 => ∃ i j : Int, xs = [.dat (.int i), .dat (.int j)] ∧ (-(2 ^ 62) ≤ i ∧ i < 2 ^ 62 ∧ -(2 ^ 62) ≤ j ∧ j < 2 ^ 62) ∧ ki (rngD i (j - i).toNat) (fun _ => True) ρ1) : WpI K F (iRng2 t) ρ ki := fun as σ H G e R q =>
  h as σ H G e _ fun xs ρ1 vs as1 H1 G1 ⟨i, j, ex, hj, h1⟩ e1 g1 r1 => by
    subst ex
    cases r1 with
    | cons a b => cases b with | cons b c => cases c; exact ⟨i, j, by rw [Rep.intE a, Rep.intE b], hj, q _ _ _ _ _ _ _ h1 e1 g1 its_range⟩
/-! for -/
/-- cells that a turn made are forgotten -/
def truA (n : Nat) : AV → Option AV
  | .cel j => if j < n then some (.cel j) else none
  | .dat d => some (.dat d)
  | .tup _ => none
theorem pre_take {α : Type} {xs ys : List α} {n : Nat} (h : xs <+: ys) (hn : xs.length ≤ n) : xs <+: ys.take n := by
  obtain ⟨r, rfl⟩ := h
  rw [List.take_append, List.take_of_length_le hn]
  exact List.prefix_append _ _
def En.trunc (ρ : En) (n : Nat) : En := ⟨ρ.sl.map (fun o => o.bind (truA n)), ρ.ce.take n⟩
theorem EnvOk.trunc {as : List Addr} {σ : L2.St} {H G : Hp} (e : EnvOk K F ρ as σ H G) (n : Nat) (hn : F.as0.length ≤ n) : EnvOk K F (ρ.trunc n) (as.take n) σ H G := by
  refine ⟨e.gh, e.fh, e.fg, e.g0, List.Nodup.sublist (List.take_sublist n as) e.nd, pre_take e.pr hn, ?_, fun j c a hc ha => ?_, ?_, fun i av hi => ?_, ?_⟩
  · show (as.take n).length = (ρ.ce.take n).length
    rw [List.length_take, List.length_take, e.ln]
  · have hc : (ρ.ce.take n)[j]? = some c := hc
    rw [List.getElem?_take] at hc ha
    split at hc
    · rename_i h
      rw [if_pos h] at ha
      exact e.ce j c a hc ha
    · cases hc
  · show σ.length = (ρ.sl.map _).length
    rw [List.length_map]
    exact e.sn
  · have hi : (ρ.sl.map (fun o => o.bind (truA n)))[i]? = some (some av) := hi
    rw [List.getElem?_map] at hi
    obtain ⟨o, ho, eo⟩ := Option.map_eq_some_iff.mp hi
    obtain ⟨x, rfl, ex⟩ := Option.bind_eq_some_iff.mp eo
    obtain ⟨v, hv, r⟩ := e.sl i x ho
    refine ⟨v, hv, ?_⟩
    cases x with
    | dat d => cases ex; exact r
    | tup xs => cases ex
    | cel j =>
      have ex : (if j < n then some (AV.cel j) else none) = some av := ex
      split at ex
      · rename_i h
        cases ex
        obtain ⟨a, ha, rfl⟩ := r
        exact ⟨a, by rw [List.getElem?_take, if_pos h]; exact ha, rfl⟩
      · cases ex
  · obtain ⟨Ts, r⟩ := e.rg
    refine r.sub (fun i t X h => ?_) (fun i b h => ?_) (fun i t X b o _ hb => ⟨(r.pl i b o hb).1, (r.pl i b o hb).2.1, (r.pl i b o hb).2.2.1⟩) (fun _ _ z => .inl z)
    · have h : (ρ.ce.take n)[i]? = some (Cell.reg t X) := h
      rw [List.getElem?_take] at h
      split at h
      · rename_i hi
        exact ⟨h, by rw [List.getElem?_take, if_pos hi]⟩
      · cases h
    · rw [List.getElem?_take] at h
      split at h
      · exact .inr h
      · cases h
theorem Gr.trunc {G0 G : Hp} {as0 as : List Addr} {n : Nat} (g : Gr G0 as0 G as) (h : as0.length ≤ n) : Gr G0 as0 G (as.take n) := by
  obtain ⟨g, r, rfl⟩ := g
  exact ⟨g, r.take (n - as0.length), by rw [List.take_append, List.take_of_length_le h]⟩
/-- .. all but one, which is then the next -/
def kepA (n j : Nat) : AV → Option AV
  | .cel i => if i = j then some (.cel n) else if i < n then some (.cel i) else none
  | .dat d => some (.dat d)
  | .tup _ => none
def En.keep (ρ : En) (n j : Nat) : En := ⟨ρ.sl.map (fun o => o.bind (kepA n j)), ρ.ce.take n ++ (ρ.ce[j]?).toList⟩
theorem EnvOk.keep {as : List Addr} {σ : L2.St} {H G : Hp} (e : EnvOk K F ρ as σ H G) {n j : Nat} (hn : F.as0.length ≤ n) (h1 : n ≤ j) (h2 : j < ρ.ce.length) : EnvOk K F (ρ.keep n j) (as.take n ++ (as[j]?).toList) σ H G := by
  have ja : j < as.length := by rw [e.ln]; exact h2
  have ea : as[j]? = some as[j] := List.getElem?_eq_getElem ja
  have ec : ρ.ce[j]? = some ρ.ce[j] := List.getElem?_eq_getElem h2
  have la : (as.take n).length = n := by rw [List.length_take]; omega
  have lc : (ρ.ce.take n).length = n := by rw [List.length_take]; omega
  have at_a : ∀ i, (as.take n ++ (as[j]?).toList)[i]? = if i < n then as[i]? else if i = n then some as[j] else none := fun i => by
    rw [ea]
    by_cases c : i < n
    · rw [if_pos c, List.getElem?_append_left (by rw [la]; exact c), List.getElem?_take, if_pos c]
    · rw [if_neg c, List.getElem?_append_right (by rw [la]; omega), la]
      by_cases c2 : i = n
      · rw [if_pos c2, c2, Nat.sub_self]; rfl
      · rw [if_neg c2]
        exact List.getElem?_eq_none (by show 1 ≤ i - n; omega)
  have at_c : ∀ i, (ρ.ce.take n ++ (ρ.ce[j]?).toList)[i]? = if i < n then ρ.ce[i]? else if i = n then some ρ.ce[j] else none := fun i => by
    rw [ec]
    by_cases c : i < n
    · rw [if_pos c, List.getElem?_append_left (by rw [lc]; exact c), List.getElem?_take, if_pos c]
    · rw [if_neg c, List.getElem?_append_right (by rw [lc]; omega), lc]
      by_cases c2 : i = n
      · rw [if_pos c2, c2, Nat.sub_self]; rfl
      · rw [if_neg c2]
        exact List.getElem?_eq_none (by show 1 ≤ i - n; omega)
  have sub : (as.take n ++ (as[j]?).toList).Sublist as := by
    rw [ea]
    conv => rhs; rw [← List.take_append_drop n as]
    refine List.Sublist.append (List.Sublist.refl _) (List.singleton_sublist.mpr ?_)
    refine List.mem_of_getElem? (i := j - n) ?_
    rw [List.getElem?_drop, show n + (j - n) = j by omega]
    exact ea
  refine ⟨e.gh, e.fh, e.fg, e.g0, List.Nodup.sublist sub e.nd, (pre_take e.pr hn).trans (List.prefix_append _ _), ?_, fun i c a hc ha => ?_, ?_, fun i av hi => ?_, ?_⟩
  · show (as.take n ++ _).length = (ρ.ce.take n ++ _).length
    rw [List.length_append, List.length_append, la, lc, ea, ec]; rfl
  · have hc : (ρ.ce.take n ++ (ρ.ce[j]?).toList)[i]? = some c := hc
    rw [at_c] at hc
    rw [at_a] at ha
    split at hc
    · rename_i h
      rw [if_pos h] at ha
      exact e.ce i c a hc ha
    · rename_i h
      rw [if_neg h] at ha
      split at hc
      · rename_i h3
        rw [if_pos h3] at ha
        exact e.ce j c a (ec.trans hc) (ea.trans ha)
      · cases hc
  · show σ.length = (ρ.sl.map _).length
    rw [List.length_map]
    exact e.sn
  · have hi : (ρ.sl.map (fun o => o.bind (kepA n j)))[i]? = some (some av) := hi
    rw [List.getElem?_map] at hi
    obtain ⟨o, ho, eo⟩ := Option.map_eq_some_iff.mp hi
    obtain ⟨x, rfl, ex⟩ := Option.bind_eq_some_iff.mp eo
    obtain ⟨v, hv, r⟩ := e.sl i x ho
    refine ⟨v, hv, ?_⟩
    cases x with
    | dat d => cases ex; exact r
    | tup xs => cases ex
    | cel k =>
      have ex : (if k = j then some (AV.cel n) else if k < n then some (AV.cel k) else none) = some av := ex
      obtain ⟨a, ha, rfl⟩ := r
      split at ex
      · rename_i h
        cases ex
        subst h
        exact ⟨a, by rw [at_a, if_neg (Nat.lt_irrefl _), if_pos rfl]; exact ea.symm.trans ha, rfl⟩
      · split at ex
        · rename_i h
          cases ex
          exact ⟨a, by rw [at_a, if_pos h]; exact ha, rfl⟩
        · cases ex
  · obtain ⟨Ts, r⟩ := e.rg
    have at_g : ∀ i t X, (ρ.keep n j).ce[i]? = some (Cell.reg t X) → (i < n ∧ ρ.ce[i]? = some (Cell.reg t X)) ∨ (i = n ∧ ρ.ce[j]? = some (Cell.reg t X)) := fun i t X h => by
      have h : (ρ.ce.take n ++ (ρ.ce[j]?).toList)[i]? = some (Cell.reg t X) := h
      rw [at_c] at h
      split at h
      · rename_i q; exact .inl ⟨q, h⟩
      · split at h
        · rename_i q; exact .inr ⟨q, by rw [ec]; exact h⟩
        · cases h
    refine ⟨_, r.map (fun i => match (ρ.keep n j).ce[i]? with | some (.reg _ _) => (if i < n then some i else some j) | _ => none) (fun i t X h => ?_) (fun i i0 h => ?_) (fun i k l h1 h2 => ?_) (fun i b h => ?_) (fun i i0 b o h hb => ⟨(r.pl i0 b o hb).1, (r.pl i0 b o hb).2.1, (r.pl i0 b o hb).2.2.1⟩) (fun _ _ z => .inl z)⟩
    · rcases at_g i t X h with ⟨q, z⟩ | ⟨q, z⟩
      · exact ⟨i, by simp only [h, if_pos q], z, by rw [at_a, if_pos q]⟩
      · subst q
        exact ⟨j, by simp only [h, if_neg (Nat.lt_irrefl _)], z, by rw [at_a, if_neg (Nat.lt_irrefl _), if_pos rfl, ea]⟩
    · split at h
      · rename_i t X z; exact ⟨t, X, z⟩
      · cases h
    · have lt : ∀ {i l}, (match (ρ.keep n j).ce[i]? with | some (.reg _ _) => (if i < n then some i else some j) | _ => none) = some l → (i < n ∧ l = i) ∨ (i = n ∧ l = j) := fun {i l} h => by
        split at h
        · rename_i t X z
          rcases at_g i t X z with ⟨q, _⟩ | ⟨q, _⟩
          · rw [if_pos q] at h; cases h; exact .inl ⟨q, rfl⟩
          · rw [if_neg (by omega)] at h; cases h; exact .inr ⟨q, rfl⟩
        · cases h
      rcases lt h1 with ⟨a1, a2⟩ | ⟨a1, a2⟩ <;> rcases lt h2 with ⟨b1, b2⟩ | ⟨b1, b2⟩ <;> omega
    · refine .inr ?_
      rw [at_a] at h
      split at h
      · rename_i q
        refine ⟨i, h, fun k hk => ?_⟩
        split at hk
        · split at hk
          · cases hk; rfl
          · cases hk; omega
        · cases hk
      · split at h
        · rename_i q
          refine ⟨j, by rw [ea]; exact h, fun k hk => ?_⟩
          split at hk
          · rename_i t X z
            rcases at_g k t X z with ⟨q2, _⟩ | ⟨q2, _⟩
            · rw [if_pos q2] at hk; cases hk; omega
            · omega
          · cases hk
        · cases h
theorem Gr.keep {G0 G : Hp} {as0 as r : List Addr} {n : Nat} (g : Gr G0 as0 G as) (h : as0.length ≤ n) : Gr G0 as0 G (as.take n ++ r) := by
  obtain ⟨g, s, rfl⟩ := g
  exact ⟨g, s.take (n - as0.length) ++ r, by rw [List.take_append, List.take_of_length_le h, List.append_assoc]⟩
/-- .. the cells from n to j are forgotten, what stands behind them moves up -/
def drpA (n j : Nat) : AV → Option AV
  | .cel i => if i < n then some (.cel i) else if i < j then none else some (.cel (i - (j - n)))
  | .dat d => some (.dat d)
  | .tup _ => none
def En.drp (ρ : En) (n j : Nat) : En := ⟨ρ.sl.map (fun o => o.bind (drpA n j)), ρ.ce.take n ++ ρ.ce.drop j⟩
theorem EnvOk.drp {as : List Addr} {σ : L2.St} {H G : Hp} (e : EnvOk K F ρ as σ H G) {n j : Nat} (hn : F.as0.length ≤ n) (h1 : n ≤ j) (h2 : j ≤ ρ.ce.length) : EnvOk K F (ρ.drp n j) (as.take n ++ as.drop j) σ H G := by
  have gen : ∀ {α : Type} (l : List α) (i : Nat), j ≤ l.length → (l.take n ++ l.drop j)[i]? = if i < n then l[i]? else l[i + (j - n)]? := fun l i hl => by
    have lt : (l.take n).length = n := by rw [List.length_take]; omega
    by_cases c : i < n
    · rw [if_pos c, List.getElem?_append_left (by rw [lt]; exact c), List.getElem?_take, if_pos c]
    · rw [if_neg c, List.getElem?_append_right (by rw [lt]; omega), lt, List.getElem?_drop]
      congr 1
      omega
  have ja : j ≤ as.length := by rw [e.ln]; exact h2
  have at_a := fun i => gen as i ja
  have at_c := fun i => gen ρ.ce i h2
  have sub : (as.take n ++ as.drop j).Sublist as := by
    conv => rhs; rw [← List.take_append_drop n as]
    refine List.Sublist.append (List.Sublist.refl _) ?_
    rw [show j = n + (j - n) by omega, ← List.drop_drop]
    exact List.drop_sublist _ _
  refine ⟨e.gh, e.fh, e.fg, e.g0, List.Nodup.sublist sub e.nd, (pre_take e.pr hn).trans (List.prefix_append _ _), ?_, fun i c a hc ha => ?_, ?_, fun i av hi => ?_, ?_⟩
  · show (as.take n ++ as.drop j).length = (ρ.ce.take n ++ ρ.ce.drop j).length
    rw [List.length_append, List.length_append, List.length_take, List.length_take, List.length_drop, List.length_drop, e.ln]
  · have hc : (ρ.ce.take n ++ ρ.ce.drop j)[i]? = some c := hc
    rw [at_c] at hc
    rw [at_a] at ha
    split at hc
    · rename_i q; rw [if_pos q] at ha; exact e.ce i c a hc ha
    · rename_i q; rw [if_neg q] at ha; exact e.ce _ c a hc ha
  · show σ.length = (ρ.sl.map _).length
    rw [List.length_map]
    exact e.sn
  · have hi : (ρ.sl.map (fun o => o.bind (drpA n j)))[i]? = some (some av) := hi
    rw [List.getElem?_map] at hi
    obtain ⟨o, ho, eo⟩ := Option.map_eq_some_iff.mp hi
    obtain ⟨x, rfl, ex⟩ := Option.bind_eq_some_iff.mp eo
    obtain ⟨v, hv, r⟩ := e.sl i x ho
    refine ⟨v, hv, ?_⟩
    cases x with
    | dat d => cases ex; exact r
    | tup xs => cases ex
    | cel k =>
      have ex : (if k < n then some (AV.cel k) else if k < j then none else some (AV.cel (k - (j - n)))) = some av := ex
      obtain ⟨a, ha, rfl⟩ := r
      split at ex
      · rename_i q
        cases ex
        exact ⟨a, by rw [at_a, if_pos q]; exact ha, rfl⟩
      · split at ex
        · cases ex
        · rename_i q1 q2
          cases ex
          exact ⟨a, by rw [at_a, if_neg (by omega), show k - (j - n) + (j - n) = k by omega]; exact ha, rfl⟩
  · obtain ⟨Ts, r⟩ := e.rg
    refine ⟨_, r.map (fun i => match (ρ.drp n j).ce[i]? with | some (.reg _ _) => (if i < n then some i else some (i + (j - n))) | _ => none) (fun i t X h => ?_) (fun i i0 h => ?_) (fun i k l h1 h2 => ?_) (fun i b h => ?_) (fun i i0 b o h hb => ⟨(r.pl i0 b o hb).1, (r.pl i0 b o hb).2.1, (r.pl i0 b o hb).2.2.1⟩) (fun _ _ z => .inl z)⟩
    · have hc : (ρ.ce.take n ++ ρ.ce.drop j)[i]? = some (Cell.reg t X) := h
      rw [at_c] at hc
      by_cases q : i < n
      · rw [if_pos q] at hc
        exact ⟨i, by simp only [h, if_pos q], hc, by rw [at_a, if_pos q]⟩
      · rw [if_neg q] at hc
        exact ⟨_, by simp only [h, if_neg q], hc, by rw [at_a, if_neg q]⟩
    · split at h
      · rename_i t X z; exact ⟨t, X, z⟩
      · cases h
    · have lt : ∀ {i l}, (match (ρ.drp n j).ce[i]? with | some (.reg _ _) => (if i < n then some i else some (i + (j - n))) | _ => none) = some l → (i < n ∧ l = i) ∨ (n ≤ i ∧ l = i + (j - n)) := fun {i l} h => by
        split at h
        · by_cases q : i < n
          · rw [if_pos q] at h; cases h; exact .inl ⟨q, rfl⟩
          · rw [if_neg q] at h; cases h; exact .inr ⟨by omega, rfl⟩
        · cases h
      rcases lt h1 with ⟨a1, a2⟩ | ⟨a1, a2⟩ <;> rcases lt h2 with ⟨b1, b2⟩ | ⟨b1, b2⟩ <;> omega
    · refine .inr ?_
      rw [at_a] at h
      split at h
      · rename_i q
        refine ⟨i, h, fun k hk => ?_⟩
        split at hk
        · split at hk
          · cases hk; rfl
          · cases hk; omega
        · cases hk
      · rename_i q
        refine ⟨_, h, fun k hk => ?_⟩
        split at hk
        · split at hk
          · have := Option.some.inj hk; omega
          · have := Option.some.inj hk; omega
        · cases hk
/-- a turn's end: as it is, or without the turn's own cells -/
inductive Tr (n : Nat) (ρ : En) : En → Prop
  | all : Tr n ρ ρ
  | cut : Tr n ρ (ρ.trunc n)
  | keep (j : Nat) (h1 : n ≤ j) (h2 : j < ρ.ce.length) : Tr n ρ (ρ.keep n j)
  | drop (j : Nat) (h1 : n ≤ j) (h2 : j ≤ ρ.ce.length) : Tr n ρ (ρ.drp n j)
theorem Tr.run {n : Nat} {ρ' : En} {as as0 : List Addr} {σ : L2.St} {H G G0 : Hp} (t : Tr n ρ ρ') (e : EnvOk K F ρ as σ H G) (g : Gr G0 as0 G as) (h : as0.length ≤ n) (h0 : F.as0.length ≤ n) : ∃ as', EnvOk K F ρ' as' σ H G ∧ Gr G0 as0 G as' := by
  cases t with
  | all => exact ⟨as, e, g⟩
  | cut => exact ⟨_, e.trunc n h0, g.trunc h⟩
  | keep j h1 h2 => exact ⟨_, e.keep h0 h1 h2, g.keep h⟩
  | drop j h1 h2 => exact ⟨_, e.drp h0 h1 h2, g.keep h⟩
def Loop (K : PySem.W.Frag) (F : Fx) (n : Nat) (gd : En → Prop) (g : TG) (tb : TS) (ks : KS) : List D → En → Prop
  | [], ρ => gd ρ ∧ ks.nx ρ
  | d :: ds, ρ => gd ρ ∧ WpG K F g (.dat d) ρ fun ρ1 => WpS K F tb ρ1 { nx := fun ρ2 => ∃ ρ3, Tr n ρ2 ρ3 ∧ Loop K F n gd g tb ks ds ρ3, rt := ks.rt, ct := fun ρ2 => ∃ ρ3, Tr n ρ2 ρ3 ∧ Loop K F n gd g tb ks ds ρ3, bk := ks.nx }
theorem Loop.gd {n : Nat} {gd : En → Prop} {g : TG} {tb : TS} : ∀ {ds : List D} {ρ : En}, Loop K F n gd g tb ks ds ρ → gd ρ
  | [], _, h => h.1
  | _ :: _, _, h => h.1
theorem ws_for {wi : TI} {g : TG} {tb : TS} (h : WpI K F wi ρ fun ds gd ρ1 => Loop K F ρ1.ce.length gd g tb ks ds ρ1) : WpS K F (tFor wi g tb) ρ ks := fun as σ H G e D q =>
  h as σ H G e _ fun ds gd J ρ1 as1 H1 G1 h1 e1 g1 its => by
    have ln1 : as1.length ≤ ρ1.ce.length := by rw [e1.ln]; exact Nat.le_refl _
    have ln0 : F.as0.length ≤ ρ1.ce.length := Nat.le_trans e1.pr.length_le ln1
    refine ⟨fun i m σ' H' => m = ds.length - i ∧ i ≤ ds.length ∧ ∃ ρ2 as2 G2, EnvOk K F ρ2 as2 σ' H' G2 ∧ Gr G1 as1 G2 as2 ∧ Loop K F ρ1.ce.length gd g tb ks (ds.drop i) ρ2, ⟨_, rfl, Nat.zero_le _, ρ1, as1, G1, e1, .refl, h1⟩, ?_⟩
    rintro i m σ' H' ⟨rfl, hi, ρ2, as2, G2, e2, g2, lp⟩
    obtain ⟨go, st, yl⟩ := its ρ2 as2 σ' H' G2 e2 g2 lp.gd
    by_cases hlt : i < ds.length
    · obtain ⟨d, hd⟩ : ∃ d, ds[i]? = some d := ⟨_, List.getElem?_eq_getElem hlt⟩
      have ed : ds.drop i = d :: ds.drop (i + 1) := by
        rw [List.drop_eq_getElem_cons hlt]
        rw [List.getElem?_eq_getElem hlt] at hd
        cases hd
        rfl
      rw [ed] at lp
      refine .inr ⟨go i hlt, fun σ3 H3 => ∃ ρ3 as3 G3, EnvOk K F ρ3 as3 σ3 H3 G3 ∧ Gr G1 as1 G3 as3 ∧ Loop K F ρ1.ce.length gd g tb ks (ds.drop (i + 1)) ρ3, fun σ3 H3 ⟨ρ3, as3, G3, e3, g3, l3⟩ => ⟨_, by omega, rfl, hlt, ρ3, as3, G3, e3, g3, l3⟩, fun x H3 y => ?_⟩
      obtain ⟨d', G3, hd', e3, g3, rx⟩ := yl i x H3 hlt y
      rw [hd] at hd'
      cases hd'
      refine lp.2 as2 σ' H3 G3 x (e3 _ e2) rx _ fun ρ4 as4 σ4 H4 G4 h4 e4 g4 => ?_
      refine h4 as4 σ4 H4 G4 e4 _ ⟨fun ρ5 as5 σ5 H5 G5 ⟨ρ6, tr, h5⟩ e5 g5 => ?_, fun av ρ5 v as5 σ5 H5 G5 h5 e5 g5 r5 => q.rt av ρ5 v as5 σ5 H5 G5 h5 e5 (g1.trans (g2.trans (g3.trans (g4.trans g5)))) r5, fun ρ5 as5 σ5 H5 G5 h5 e5 g5 => q.nx ρ5 as5 σ5 H5 G5 h5 e5 (g1.trans (g2.trans (g3.trans (g4.trans g5)))), fun ρ5 as5 σ5 H5 G5 ⟨ρ6, tr, h5⟩ e5 g5 => ?_, q.fr⟩
      · obtain ⟨as6, e6, g6⟩ := tr.run e5 (g2.trans (g3.trans (g4.trans g5))) ln1 ln0
        exact ⟨ρ6, as6, G5, e6, g6, h5⟩
      · obtain ⟨as6, e6, g6⟩ := tr.run e5 (g2.trans (g3.trans (g4.trans g5))) ln1 ln0
        exact ⟨ρ6, as6, G5, e6, g6, h5⟩
    · have ei : i = ds.length := by omega
      subst ei
      rw [List.drop_length] at lp
      exact .inl ⟨st, q.nx ρ2 as2 σ' H' G2 lp.2 e2 (g1.trans g2)⟩
/-! while -/
theorem ws_while {tc : TT} {tb : TS} (W : Nat → En → Prop) (m0 : Nat) (h0 : W m0 ρ) (hs : ∀ m ρ1, W m ρ1 → WpT K F tc ρ1 fun b ρ2 => if b = true then WpS K F tb ρ2 { nx := fun ρ3 => ∃ m', m' < m ∧ W m' ρ3, rt := ks.rt, ct := fun ρ3 => ∃ m', m' < m ∧ W m' ρ3, bk := ks.nx } else ks.nx ρ2) : WpS K F (tWhile tc tb) ρ ks := fun as σ H G e D q => by
  refine ⟨fun m σ' H' => ∃ ρ2 as2 G2, EnvOk K F ρ2 as2 σ' H' G2 ∧ Gr G as G2 as2 ∧ W m ρ2, ⟨m0, ρ, as, G, e, .refl, h0⟩, ?_⟩
  rintro m σ' H' ⟨ρ2, as2, G2, e2, g2, hw⟩
  refine hs m ρ2 hw as2 σ' H' G2 e2 _ fun b ρ3 as3 H3 G3 h3 e3 g3 => ?_
  cases b with
  | true =>
    refine ⟨fun σ4 H4 => ∃ m', m' < m ∧ ∃ ρ4 as4 G4, EnvOk K F ρ4 as4 σ4 H4 G4 ∧ Gr G as G4 as4 ∧ W m' ρ4, fun σ4 H4 z => z, ?_⟩
    refine (show WpS K F tb ρ3 _ from h3) as3 σ' H3 G3 e3 _ ⟨fun ρ4 as4 σ4 H4 G4 ⟨m', hm, w4⟩ e4 g4 => ⟨m', hm, ρ4, as4, G4, e4, g2.trans (g3.trans g4), w4⟩, fun av ρ4 v as4 σ4 H4 G4 h4 e4 g4 r4 => q.rt av ρ4 v as4 σ4 H4 G4 h4 e4 (g2.trans (g3.trans g4)) r4, fun ρ4 as4 σ4 H4 G4 h4 e4 g4 => q.nx ρ4 as4 σ4 H4 G4 h4 e4 (g2.trans (g3.trans g4)), fun ρ4 as4 σ4 H4 G4 ⟨m', hm, w4⟩ e4 g4 => ⟨m', hm, ρ4, as4, G4, e4, g2.trans (g3.trans g4), w4⟩, q.fr⟩
  | false => exact q.nx ρ3 as3 σ' H3 G3 h3 e3 (g2.trans g3)
end
/-! ### rules of the data layer: promises and calls -/
inductive RV where
  | dat (d : D)
  | new (ds : List D)
  | prt (xs ds ys : List D)
  | reg (X : RegX)
  | ext (d : D) (X : CellX)
def FrX (as : List Addr) (Ts : Nat → Hp) (H H' : Hp) : Prop := ∀ a o, a ∉ as → (∀ i, Ts i a = none) → H a = some o → H' a = some o
def NewA (H : Hp) (as : List Addr) (Ts : Nat → Hp) (a : Addr) : Prop := (H a = none ∨ ∃ i, Ts i a ≠ none) ∧ a ∉ as
def NewG (H G G' : Hp) (Ts : Nat → Hp) : Prop := ∀ a o, G' a = some o → G a = some o ∨ H a = none ∨ ∃ i, Ts i a ≠ none
def noGone : List Cell → Bool
  | [] => true
  | .gone :: _ => false
  | .lst _ :: r => noGone r
  | .drw :: r => noGone r
  | .oth _ :: r => noGone r
  | .reg _ _ :: r => noGone r
  | .ins _ _ _ :: r => noGone r
structure CellsOk (K : PySem.W.Frag) (G H : Hp) (as : List Addr) (cs : List Cell) : Prop where
  ln : as.length = cs.length
  nd : as.Nodup
  ok : ∀ (j : Nat) (c : Cell) (a : Addr), cs[j]? = some c → as[j]? = some a → (∃ o, H a = some o) ∧ CellOk K G H a c
def RepR (K : PySem.W.Frag) (H G' H' : Hp) (as : List Addr) (Ts Ts' : Nat → Hp) : RV → V → Prop
  | .dat d, v => Rep K G' d v
  | .new ds, v => ∃ a vs, v = .ref a ∧ NewA H as Ts a ∧ (∀ i, Ts' i a = none) ∧ G' a = none ∧ H' a = some (.lst vs) ∧ Reps K G' ds vs
  | .prt xs ds ys, v => ∃ p a ws us vs, v = .ref p ∧ SqT K G' p (ws ++ .ref a :: us) ∧ Reps K G' xs ws ∧ Reps K G' ys us ∧ NewA H as Ts a ∧ (∀ i, Ts' i a = none) ∧ G' a = none ∧ H' a = some (.lst vs) ∧ Reps K G' ds vs
  | .reg X, v => ∃ a T, v = .ref a ∧ NewA H as Ts a ∧ (∀ i, Ts' i a = none) ∧ G' a = none ∧ (∃ o, H' a = some o) ∧ X.ok T G' a ∧ ∀ b o, T b = some o → H' b = some o ∧ G' b = none ∧ NewA H as Ts b ∧ ∀ i, Ts' i b = none
  | .ext d X, v => Rep K G' d v ∧ ∃ a o, NewA H as Ts a ∧ (∀ i, Ts' i a = none) ∧ G' a = none ∧ H' a = some o ∧ X.ok G' a o
abbrev PW0 := List AV → List Cell → (RV → List Cell → Prop) → (Addr → Prop) → Prop
/-- a def's promise by data: W tells what is asked of the arguments and what comes -/
def spG (K : PySem.W.Frag) (W : PW0) : Sp := fun vs H Q E => ∃ G as Ts xs cs post exc, Same G H ∧ CellsOk K G H as cs ∧ RegsAt Ts (fun _ => none) G H as cs ∧ RepAs K G as xs vs ∧ W xs cs post exc ∧
  (∀ r cs' v H' G' Ts', post r cs' → FrX as Ts H H' → Same G G' → Same G' H' → NewG H G G' Ts → CellsOk K G' H' as cs' → RegsAt Ts' (fun _ => none) G' H' as cs' → (∀ i b o, Ts' i b = some o → H b = none ∨ b ∈ as ∨ ∃ j, Ts j b ≠ none) → RepR K H G' H' as Ts Ts' r v → Q v H') ∧ (∀ C H', exc C → FrX as Ts H H' → E (.ref C) none H')
theorem RegsAt.noreg {Ts : Nat → Hp} {Fr G H : Hp} {as : List Addr} {cs cs' : List Cell} (r : RegsAt Ts Fr G H as cs) (h : ∀ (j : Nat) t X, cs[j]? ≠ some (Cell.reg t X)) (h' : ∀ (j : Nat) t X, cs'[j]? ≠ some (Cell.reg t X)) : RegsAt Ts Fr G H as cs' := ⟨fun j _ b => r.em j (h j) b, r.dj, r.pl, fun j t X a hc => absurd hc (h' j t X)⟩
theorem RegsAt.no {Fr G H : Hp} {as : List Addr} {cs : List Cell} (h : ∀ (j : Nat) t X, cs[j]? ≠ some (Cell.reg t X)) : RegsAt (fun _ _ => none) Fr G H as cs := ⟨fun _ _ _ => rfl, (fun i j b o u h => nomatch h), (fun i b o h => nomatch h), fun j t X a hc => absurd hc (h j t X)⟩
section
variable {K : PySem.W.Frag} {F : Fx} {ρ : En} {k : AV → En → Prop} {kb : Bool → En → Prop} {ks : KS} {t u : TS} {ta tb te : TE} {tt tu : TT}
/-- what a def hands back: data, or a list that it made -/
inductive FinR (n : Nat) (ρ : En) : AV → RV → Prop
  | dat (d : D) : FinR n ρ (.dat d) (.dat d)
  | cel {j : Nat} {ds : List D} : n ≤ j → ρ.ce[j]? = some (.lst ds) → FinR n ρ (.cel j) (.new ds)
  | prt {j : Nat} {xs ds ys : List D} : n ≤ j → ρ.ce[j]? = some (.lst ds) → FinR n ρ (.tup (xs.map .dat ++ .cel j :: ys.map .dat)) (.prt xs ds ys)
  | ext {j : Nat} {d : D} {X : CellX} : n ≤ j → ρ.ce[j]? = some (.oth X) → FinR n ρ (.dat d) (.ext d X)
  | reg {j : Nat} {t : Option Addr} {X : RegX} : n ≤ j → ρ.ce[j]? = some (Cell.reg t X) → FinR n ρ (.cel j) (.reg X)
def KS.fin (n : Nat) (post : RV → List Cell → Prop) : KS where
  nx := fun ρ => noGone (ρ.ce.take n) = true ∧ post (.dat .non) (ρ.ce.take n)
  rt := fun x ρ => ∃ r, FinR n ρ x r ∧ noGone (ρ.ce.take n) = true ∧ post r (ρ.ce.take n)
theorem noGone_at {cs : List Cell} (h : noGone cs = true) : ∀ {j : Nat}, cs[j]? ≠ some .gone := by
  induction cs with
  | nil => intro j e; simp at e
  | cons c cs ih =>
    intro j e
    cases j with
    | zero => simp at e; subst e; rw [noGone] at h; cases h
    | succ j =>
      have h' : noGone cs = true := by
        cases c <;> first | (rw [noGone] at h; exact h) | (rw [noGone] at h; cases h)
      exact ih h' (by simpa using e)
theorem CellOk.none {G H : Hp} {a : Addr} {c : Cell} (h : CellOk K G H a c) (n : c ≠ .gone) : G a = none := by
  cases c with
  | gone => exact absurd rfl n
  | reg t X => exact h
  | lst ds => exact h.1
  | drw => exact h.1
  | oth X => exact h.1
  | ins C ns ds => exact h.1
theorem RepAs.get {G : Hp} {as : List Addr} {xs : List AV} {vs : List V} (h : RepAs K G as xs vs) : ∀ {i : Nat} {x : AV}, xs[i]? = some x → ∃ v, vs[i]? = some v ∧ RepA K G as x v := by
  induction h with
  | nil => intro i x e; simp at e
  | cons a _ ih =>
    intro i x e
    cases i with
    | zero => simp at e; subst e; exact ⟨_, rfl, a⟩
    | succ i => obtain ⟨v, q, r⟩ := ih (i := i) (by simpa using e); exact ⟨v, by simpa using q, r⟩
theorem TNs.append {G : Hp} {as : List Addr} {xs ys : List TN} {vs ws : List V} (h : TNs K G as xs vs) (k : TNs K G as ys ws) : TNs K G as (xs ++ ys) (vs ++ ws) := by
  induction xs generalizing vs with
  | nil => cases h; exact k
  | cons x xs ih => cases h with | cons a b => exact .cons a (ih b)
theorem TNs.split {G : Hp} {as : List Addr} {xs ys : List TN} {vs : List V} (h : TNs K G as (xs ++ ys) vs) : ∃ ws us, vs = ws ++ us ∧ TNs K G as xs ws ∧ TNs K G as ys us := by
  induction xs generalizing vs with
  | nil => exact ⟨[], vs, rfl, .nil, h⟩
  | cons x xs ih =>
    cases h with
    | cons a b =>
      obtain ⟨ws, us, rfl, h1, h2⟩ := ih b
      exact ⟨_ :: ws, us, rfl, .cons a h1, h2⟩
theorem TNs.of {G : Hp} {as : List Addr} {ds : List D} {vs : List V} (h : Reps K G ds vs) : TNs K G as (ds.map .dat) vs := by
  induction ds generalizing vs with
  | nil => cases h; exact .nil
  | cons d ds ih => cases h with | cons a b => exact .cons (.dat a) (ih b)
theorem TNs.dats {G : Hp} {as : List Addr} {ds : List D} {vs : List V} (h : TNs K G as (ds.map .dat) vs) : Reps K G ds vs := by
  induction ds generalizing vs with
  | nil => cases h; exact .nil
  | cons d ds ih =>
    cases h with
    | cons a b =>
      cases a with
      | dat r => exact .cons r (ih b)
/-- the slots at a def's begin -/
def En.start (n : Nat) (xs : List AV) (cs : List Cell) : En := ⟨xs.map some ++ List.replicate (n - xs.length) none, cs⟩
open Classical in
/-- a def's body by data -/
theorem enterG {N : List Str} {W : PW0} {vs : List V} {H : Hp} {Q : VK} {E : XK} {t : TS} (frv : V → Prop) (hfr : ∀ v H', frv v → Q v H') (h : spG K W vs H Q E) (body : ∀ F xs cs post, F.fr = frv → F.E = E → RepAs K F.G0 F.as0 xs vs → W xs cs post F.ex → WpS K F t (En.start N.length xs cs) (KS.fin cs.length post)) : t { nx := fun _ H' => Q .non H', rt := Q } (L2.start N vs) H := by
  obtain ⟨G, as, Ts, xs, cs, post, exc, gh, ok, rg, rx, hw, hq, he⟩ := h
  let Own : Addr → Prop := fun a => a ∈ as ∨ ∃ i, Ts i a ≠ none
  have fr : ∀ H', Same (fun a => if Own a then none else H a) H' → FrX as Ts H H' := fun H' s a o na nt ha => s a o (by
    show (if Own a then none else H a) = some o
    rw [if_neg (fun z => z.elim na fun ⟨i, z⟩ => z (nt i))]
    exact ha)
  let F : Fx := ⟨fun a => if Own a then none else H a, G, E, exc, fun C H' hc s => he C H' hc (fr H' s), frv, as⟩
  have frN : ∀ {a : Addr}, F.Fr a = none → H a = none ∨ Own a := fun {a} z => by
    have z' : (if Own a then none else H a) = none := z
    by_cases q : Own a
    · exact .inr q
    · rw [if_neg q] at z'; exact .inl z'
  have ln := rx.length
  have e0 : EnvOk K F (En.start N.length xs cs) as (L2.start N vs) H G := by
    refine ⟨gh, fun a o h => ?_, fun a o h => .inl h, Same.refl _, ok.nd, List.prefix_refl _, ok.ln, fun j c a hc ha => ?_, ?_, fun i av hi => ?_, ⟨Ts, rg.em, rg.dj, fun i b o h => ?_, rg.ok⟩⟩
    · have h' : (if Own a then none else H a) = some o := h
      by_cases q : Own a
      · rw [if_pos q] at h'; cases h'
      · rw [if_neg q] at h'; exact h'
    · refine ⟨?_, ok.ok j c a hc ha⟩
      show (if Own a then none else H a) = none
      rw [if_pos (.inl (List.mem_of_getElem? ha))]
    · show (vs.map some ++ List.replicate (N.length - vs.length) none).length = (xs.map some ++ List.replicate (N.length - xs.length) none).length
      simp only [List.length_append, List.length_map, List.length_replicate]
      omega
    · have hi' : (xs.map some ++ List.replicate (N.length - xs.length) none)[i]? = some (some av) := hi
      by_cases q : i < xs.length
      · rw [List.getElem?_append_left (by rw [List.length_map]; exact q), List.getElem?_map] at hi'
        obtain ⟨x, hx, ex⟩ := Option.map_eq_some_iff.mp hi'
        cases ex
        obtain ⟨v, hv, r⟩ := rx.get hx
        refine ⟨v, ?_, r⟩
        show (vs.map some ++ List.replicate (N.length - vs.length) none)[i]? = some (some v)
        rw [List.getElem?_append_left (by rw [List.length_map]; omega), List.getElem?_map, hv]
        rfl
      · rw [List.getElem?_append_right (by rw [List.length_map]; omega), List.getElem?_replicate] at hi'
        split at hi' <;> cases hi'
    · obtain ⟨x, y, _, w⟩ := rg.pl i b o h
      refine ⟨x, y, ?_, w⟩
      show (if Own b then none else H b) = none
      rw [if_pos (.inr ⟨i, by rw [h]; exact fun z => nomatch z⟩)]
  -- how it ends
  have fin : ∀ {ρ' : En} {as' : List Addr} {σ' : L2.St} {H' G' : Hp} {Ts1 : Nat → Hp} {r : RV} {v : V}, EnvOk K F ρ' as' σ' H' G' → RegsAt Ts1 F.Fr G' H' as' ρ'.ce → Gr G as G' as' → noGone (ρ'.ce.take cs.length) = true → post r (ρ'.ce.take cs.length) → (∀ Ts', (∀ i b, Ts1 i b = none → Ts' i b = none) → (∀ i b, cs.length ≤ i → Ts' i b = none) → RepR K H G' H' as Ts Ts' r v) → Q v H' := by
    intro ρ' as' σ' H' G' Ts1 r v e rg1 g ng hp rr
    obtain ⟨sg, rs, ea⟩ := g
    have lc : cs.length ≤ ρ'.ce.length := by rw [← e.ln, ea, List.length_append, ok.ln]; omega
    have lt : as.length = (ρ'.ce.take cs.length).length := by rw [List.length_take, ok.ln]; omega
    have ce : ∀ (j : Nat) (c : Cell) (a : Addr), (ρ'.ce.take cs.length)[j]? = some c → as[j]? = some a → ρ'.ce[j]? = some c ∧ as'[j]? = some a := fun j c a hc ha => by
      have hj : j < as.length := (List.getElem?_eq_some_iff.mp ha).1
      refine ⟨?_, by rw [ea, List.getElem?_append_left hj]; exact ha⟩
      rw [List.getElem?_take] at hc
      rw [if_pos (by rw [← ok.ln]; exact hj)] at hc
      exact hc
    obtain ⟨Ts', rg2, sub⟩ := rg1.subS (Fr' := fun _ => none) (G' := G') (H' := H') (as' := as) (cs' := ρ'.ce.take cs.length) (fun i t X h => by
        rw [List.getElem?_take] at h
        split at h
        · rename_i q
          exact ⟨h, by rw [ea, List.getElem?_append_left (by rw [ok.ln]; exact q)]⟩
        · cases h) (fun i b h => .inr (by rw [ea, List.getElem?_append_left (List.getElem?_eq_some_iff.mp h).1]; exact h)) (fun i t X b o _ hb => ⟨(rg1.pl i b o hb).1, (rg1.pl i b o hb).2.1, rfl⟩) (fun _ _ z => .inl z)
    have sub2 : ∀ i b, Ts1 i b = none → Ts' i b = none := fun i b z => by
      cases q : Ts' i b with
      | none => rfl
      | some o => rw [sub i b o q] at z; cases z
    have sub3 : ∀ i b, cs.length ≤ i → Ts' i b = none := fun i b q => rg2.em i (fun t X z => by
      rw [List.getElem?_take] at z
      rw [if_neg (by omega)] at z
      cases z) b
    refine hq r _ v H' G' Ts' hp (fr H' e.fh) sg e.gh (fun a o ha => ?_) ⟨lt, ok.nd, fun j c a hc ha => ?_⟩ rg2 (fun i b o hb => ?_) (rr Ts' sub2 sub3)
    · rcases e.fg a o ha with z | z
      · exact .inl z
      · rcases frN z with z | q
        · exact .inr (.inl z)
        · rcases q with q | ⟨i, q⟩
          · exfalso
            obtain ⟨j, hj⟩ := List.getElem?_of_mem q
            have hl : j < (ρ'.ce.take cs.length).length := by rw [← lt]; exact (List.getElem?_eq_some_iff.mp hj).1
            have hc := List.getElem?_eq_getElem hl
            obtain ⟨h1, h2⟩ := ce j _ a hc hj
            obtain ⟨_, _, okc⟩ := e.ce j _ a h1 h2
            have gn := CellOk.none okc fun z => noGone_at ng (by rw [hc, z])
            rw [gn] at ha
            cases ha
          · exact .inr (.inr ⟨i, q⟩)
    · obtain ⟨h1, h2⟩ := ce j c a hc ha
      exact (e.ce j c a h1 h2).2
    · rcases frN (rg1.pl i b o (sub i b o hb)).2.2.1 with z | z | ⟨j, z⟩
      · exact .inl z
      · exact .inr (.inl z)
      · exact .inr (.inr ⟨j, z⟩)
  refine body F xs cs post rfl rfl rx hw as _ H G e0 _ ⟨fun ρ' as' σ' H' G' ⟨ng, hp⟩ e g => ?_, fun av ρ' v as' σ' H' G' ⟨r, fr', ng, hp⟩ e g ra => ?_, fun ρ' as' σ' H' G' h _ _ => h.elim, fun ρ' as' σ' H' G' h _ _ => h.elim, fun v H' z => hfr v H' z⟩
  · obtain ⟨Ts1, rg1⟩ := e.rg
    exact fin (r := .dat .non) e rg1 g ng hp fun _ _ _ => Rep.non
  obtain ⟨Ts1, rg1⟩ := e.rg
  have newA : ∀ {j : Nat} {b a : Addr}, cs.length ≤ j → as'[j]? = some a → (∀ k, as'[k]? = some b → k = j) → F.Fr b = none → NewA H as Ts b := fun {j b a} nj ha hb fb => by
    obtain ⟨_, rs, ea⟩ := g
    have nb : b ∉ as := fun q => by
      obtain ⟨i, hi⟩ := List.getElem?_of_mem q
      have hil : i < as.length := (List.getElem?_eq_some_iff.mp hi).1
      have := hb i (by rw [ea, List.getElem?_append_left hil]; exact hi)
      rw [ok.ln] at hil
      omega
    refine ⟨?_, nb⟩
    rcases frN fb with z | z | z
    · exact .inl z
    · exact absurd z nb
    · exact .inr z
  have inj : ∀ {j : Nat} {a : Addr}, as'[j]? = some a → ∀ k, as'[k]? = some a → k = j := fun {j a} ha k hk => (List.getElem?_inj (List.getElem?_eq_some_iff.mp hk).1 e.nd).mp (hk.trans ha.symm)
  have new : ∀ {j : Nat} {a : Addr} {ds : List D}, cs.length ≤ j → ρ'.ce[j]? = some (.lst ds) → as'[j]? = some a → NewA H as Ts a ∧ (∀ i, Ts1 i a = none) ∧ G' a = none ∧ ∃ ws, H' a = some (.lst ws) ∧ Reps K G' ds ws := by
    intro j a ds nj hc ha
    obtain ⟨fa, _, ga, ws, hw2, hr⟩ := e.ce j _ a hc ha
    refine ⟨newA nj ha (inj ha) fa, fun i => ?_, ga, ws, hw2, hr⟩
    cases q : Ts1 i a with
    | none => rfl
    | some o =>
      have := (rg1.pl i a o q).2.2.2 j ha
      subst this
      obtain ⟨t, X, z⟩ := rg1.is q
      rw [hc] at z
      cases z
  cases fr' with
  | dat d => exact fin (r := .dat d) e rg1 g ng hp fun _ _ _ => ra
  | @cel j ds nj hc =>
    obtain ⟨a, ha, rfl⟩ := ra
    obtain ⟨h1, h0, h2, ws, h3, h4⟩ := new nj hc ha
    exact fin (r := .new ds) e rg1 g ng hp fun Ts' s2 _ => ⟨a, ws, rfl, h1, fun i => s2 i a (h0 i), h2, h3, h4⟩
  | @prt j xs ds ys nj hc =>
    obtain ⟨p, us, rfl, sq, ti⟩ := ra
    obtain ⟨w1, w2, rfl, r1, r2⟩ := TNs.split ti
    cases r2 with
    | cons rc r3 =>
      cases rc with
      | @cel _ a ha =>
        obtain ⟨h1, h0, h2, ws, h3, h4⟩ := new nj hc ha
        exact fin (r := .prt xs ds ys) e rg1 g ng hp fun Ts' s2 _ => ⟨p, a, w1, _, ws, rfl, sq, TNs.dats r1, TNs.dats r3, h1, fun i => s2 i a (h0 i), h2, h3, h4⟩
  | @ext j d X nj hc =>
    obtain ⟨a, ha⟩ : ∃ a, as'[j]? = some a := ⟨_, List.getElem?_eq_getElem (by rw [e.ln]; exact (List.getElem?_eq_some_iff.mp hc).1)⟩
    obtain ⟨fa, _, ga, o, ho, ox⟩ := e.ce j _ a hc ha
    refine fin (r := .ext d X) e rg1 g ng hp fun Ts' s2 _ => ⟨ra, a, o, newA nj ha (inj ha) fa, fun i => s2 i a ?_, ga, ho, ox⟩
    cases q : Ts1 i a with
    | none => rfl
    | some o2 =>
      have := (rg1.pl i a o2 q).2.2.2 j ha
      subst this
      obtain ⟨t, Y, z⟩ := rg1.is q
      rw [hc] at z
      cases z
  | @reg j t X nj hc =>
    obtain ⟨a, ha, rfl⟩ := ra
    obtain ⟨fa, ho, ga⟩ := e.ce j _ a hc ha
    refine fin (r := .reg X) e rg1 g ng hp fun Ts' s2 s3 => ⟨a, Ts1 j, rfl, newA nj ha (inj ha) fa, fun i => ?_, ga, ho, (rg1.ok j t X a hc ha).2, fun b o hb => ?_⟩
    · by_cases q : cs.length ≤ i
      · exact s3 i a q
      · refine s2 i a ?_
        cases z : Ts1 i a with
        | none => rfl
        | some o => have := (rg1.pl i a o z).2.2.2 j ha; omega
    · obtain ⟨x, y, z, w⟩ := rg1.pl j b o hb
      refine ⟨x, y, newA nj ha w z, fun i => ?_⟩
      by_cases q : cs.length ≤ i
      · exact s3 i b q
      · refine s2 i b ?_
        cases u : Ts1 i b with
        | none => rfl
        | some o2 => have := rg1.dj i j b o2 o u hb; omega
theorem enterF {N : List Str} {W : PW0} {vs : List V} {H : Hp} {Q : VK} {E : XK} {t : TS} (frv : V → Prop) (hfr : ∀ v H', frv v → Q v H') (h : spG K W vs H Q E) (body : ∀ F xs cs post, F.fr = frv → F.E = E → W xs cs post F.ex → WpS K F t (En.start N.length xs cs) (KS.fin cs.length post)) : t { nx := fun _ H' => Q .non H', rt := Q } (L2.start N vs) H := enterG frv hfr h fun F xs cs post hf hE _ hw => body F xs cs post hf hE hw
/-- a def that ends without a return -/
theorem enterN {N : List Str} {W : PW0} {vs : List V} {H : Hp} {Q : VK} {E : XK} {t : TS} (h : spG K W vs H Q E) (body : ∀ F xs cs post, F.E = E → W xs cs post F.ex → WpS K F (tSeq t tRetN) (En.start N.length xs cs) (KS.fin cs.length post)) : t { nx := fun _ H' => Q .non H', rt := Q } (L2.start N vs) H := enterF (t := tSeq t tRetN) (fun _ => False) (fun _ _ z => z.elim) h fun F xs cs post _ hE hw => body F xs cs post hE hw
theorem enter {N : List Str} {W : PW0} {vs : List V} {H : Hp} {Q : VK} {E : XK} {t : TS} (h : spG K W vs H Q E) (body : ∀ F xs cs post, F.E = E → W xs cs post F.ex → WpS K F t (En.start N.length xs cs) (KS.fin cs.length post)) : t { nx := fun _ H' => Q .non H', rt := Q } (L2.start N vs) H := enterF (fun _ => False) (fun _ _ z => z.elim) h fun F xs cs post _ hE hw => body F xs cs post hE hw
/-! calls -/
theorem we_call {sp : Sp} {E : XK} {t : TA} (h : WpA K F t ρ fun xs ρ1 => WpSp K F sp (fun _ => E) xs ρ1 k) : WpE K F (tCall sp [] E t) ρ k := fun as σ H G e Q q =>
  h as σ H G e _ fun xs ρ1 vs as1 H1 G1 h1 e1 g1 r1 => by
    rw [List.append_nil]
    exact h1 as1 σ H1 G1 vs e1 r1 Q (q.imp g1 fun _ _ z => z)
theorem we_call1 {sp : Sp} {v : V} {x : AV} {E : XK} {t : TA} (hv : ∀ G as, RepA K G as x v) (h : WpA K F t ρ fun xs ρ1 => WpSp K F sp (fun _ => E) (xs ++ [x]) ρ1 k) : WpE K F (tCall sp [v] E t) ρ k := fun as σ H G e Q q =>
  h as σ H G e _ fun xs ρ1 vs as1 H1 G1 h1 e1 g1 r1 => h1 as1 σ H1 G1 _ e1 (r1.append (.cons (hv _ _) .nil)) Q (q.imp g1 fun _ _ z => z)
theorem we_callS {sp : Sp} {E : L2.St → XK} {t : TA} (h : WpA K F t ρ fun xs ρ1 => WpSp K F sp E xs ρ1 k) : WpE K F (tCallS sp E t) ρ k := fun as σ H G e Q q =>
  h as σ H G e _ fun xs ρ1 vs as1 H1 G1 h1 e1 g1 r1 => h1 as1 σ H1 G1 vs e1 r1 Q (q.imp g1 fun _ _ z => z)
theorem we_callK {sp : Sp} {gV : List V → List V → List V} {gA : List AV → List AV → List AV} {E : XK} {t tk : TA} (hg : ∀ G as xs ys vs ws, RepAs K G as xs vs → RepAs K G as ys ws → RepAs K G as (gA xs ys) (gV vs ws)) (h : WpA K F t ρ fun xs ρ1 => WpA K F tk ρ1 fun ys ρ2 => WpSp K F sp (fun _ => E) (gA xs ys) ρ2 k) : WpE K F (tCallK sp gV E t tk) ρ k := fun as σ H G e Q q =>
  h as σ H G e _ fun xs ρ1 vs as1 H1 G1 h1 e1 g1 r1 => h1 as1 σ H1 G1 e1 _ fun ys ρ2 ws as2 H2 G2 h2 e2 g2 r2 => h2 as2 σ H2 G2 _ e2 (hg _ _ _ _ _ _ (r1.mono g2) r2) Q (q.imp (g1.trans g2) fun _ _ z => z)
/-- a cell of a list that stands already -/
theorem EnvOk.ownC {as : List Addr} {σ : L2.St} {H G : Hp} {p : Addr} {vs : List V} {ds : List D} (e : EnvOk K F ρ as σ H G) (hp : H p = some (.lst vs)) (gp : G p = none) (fp : F.Fr p = none) (np : p ∉ as) (nt : ∃ Ts, RegsAt Ts F.Fr G H as ρ.ce ∧ ∀ i, Ts i p = none) (hr : Reps K G ds vs) : EnvOk K F (ρ.add ds) (as ++ [p]) σ H G := by
  have gr : Gr G as G (as ++ [p]) := ⟨Same.refl _, [p], rfl⟩
  refine ⟨e.gh, e.fh, e.fg, e.g0, ?_, e.pr.trans (List.prefix_append _ _), by show (as ++ [p]).length = (ρ.ce ++ [Cell.lst ds]).length; rw [List.length_append, List.length_append, e.ln]; rfl, fun j c a hc ha => ?_, e.sn, fun i av hi => ?_, by
    obtain ⟨Ts, r, n⟩ := nt
    exact r.addC e.ln (fun _ _ z => nomatch z) (fun i o z => by rw [n i] at z; cases z) fun _ _ _ h => h⟩
  · rw [List.nodup_append]
    refine ⟨e.nd, by simp, fun a ha b hb => ?_⟩
    rw [List.mem_singleton] at hb
    subst hb
    exact fun z => np (z ▸ ha)
  · have hc : (ρ.ce ++ [Cell.lst ds])[j]? = some c := hc
    by_cases hj : j < ρ.ce.length
    · rw [List.getElem?_append_left hj] at hc
      rw [List.getElem?_append_left (by rw [e.ln]; exact hj)] at ha
      exact e.ce j c a hc ha
    · have hj2 : ρ.ce.length ≤ j := by omega
      rw [List.getElem?_append_right hj2] at hc
      rw [List.getElem?_append_right (by rw [e.ln]; exact hj2), e.ln] at ha
      cases z : j - ρ.ce.length with
      | zero =>
        rw [z] at hc ha
        cases hc
        cases ha
        exact ⟨fp, ⟨_, hp⟩, gp, vs, hp, hr⟩
      | succ m => rw [z] at hc; simp at hc
  · obtain ⟨v, hv, r⟩ := e.sl i av hi
    exact ⟨v, hv, r.mono gr⟩
def En.addX (ρ : En) (X : RegX) : En := ⟨ρ.sl, ρ.ce ++ [.reg none X]⟩
def En.addT (ρ : En) (X : CellX) : En := ⟨ρ.sl, ρ.ce ++ [.oth X]⟩
/-- a cell of another thing that stands already -/
theorem EnvOk.ownT {as : List Addr} {σ : L2.St} {H G : Hp} {p : Addr} {o : HO} {X : CellX} (e : EnvOk K F ρ as σ H G) (hp : H p = some o) (gp : G p = none) (fp : F.Fr p = none) (np : p ∉ as) (nt : ∃ Ts, RegsAt Ts F.Fr G H as ρ.ce ∧ ∀ i, Ts i p = none) (ok : X.ok G p o) : EnvOk K F (ρ.addT X) (as ++ [p]) σ H G := by
  have gr : Gr G as G (as ++ [p]) := ⟨Same.refl _, [p], rfl⟩
  refine ⟨e.gh, e.fh, e.fg, e.g0, ?_, e.pr.trans (List.prefix_append _ _), by show (as ++ [p]).length = (ρ.ce ++ [Cell.oth X]).length; rw [List.length_append, List.length_append, e.ln]; rfl, fun j c a hc ha => ?_, e.sn, fun i av hi => ?_, by
    obtain ⟨Ts, r, n⟩ := nt
    exact r.addC e.ln (fun _ _ z => nomatch z) (fun i o z => by rw [n i] at z; cases z) fun _ _ _ h => h⟩
  · rw [List.nodup_append]
    refine ⟨e.nd, by simp, fun a ha b hb => ?_⟩
    rw [List.mem_singleton] at hb
    subst hb
    exact fun z => np (z ▸ ha)
  · have hc : (ρ.ce ++ [Cell.oth X])[j]? = some c := hc
    by_cases hj : j < ρ.ce.length
    · rw [List.getElem?_append_left hj] at hc
      rw [List.getElem?_append_left (by rw [e.ln]; exact hj)] at ha
      exact e.ce j c a hc ha
    · rw [List.getElem?_append_right (by omega)] at hc
      rw [List.getElem?_append_right (by rw [e.ln]; omega), e.ln] at ha
      cases z : j - ρ.ce.length with
      | zero =>
        rw [z] at hc ha
        cases hc
        cases ha
        exact ⟨fp, ⟨_, hp⟩, gp, o, hp, ok⟩
      | succ m => rw [z] at hc; simp at hc
  · obtain ⟨v, hv, r⟩ := e.sl i av hi
    exact ⟨v, hv, r.mono gr⟩
/-- a private part that stands already becomes a cell -/
theorem EnvOk.ownX {as : List Addr} {σ : L2.St} {H G : Hp} {p : Addr} {T : Hp} {X : RegX} {Ts : Nat → Hp} (e : EnvOk K F ρ as σ H G) (r : RegsAt Ts F.Fr G H as ρ.ce) (hp : ∃ o, H p = some o) (gp : G p = none) (fp : F.Fr p = none) (np : p ∉ as) (nt : ∀ i, Ts i p = none) (ok : X.ok T G p)
    (ht : ∀ b o, T b = some o → H b = some o ∧ G b = none ∧ F.Fr b = none ∧ b ∉ as ∧ ∀ i, Ts i b = none) : EnvOk K F (ρ.addX X) (as ++ [p]) σ H G := by
  have gr : Gr G as G (as ++ [p]) := ⟨Same.refl _, [p], rfl⟩
  have ats : ∀ j c a, (ρ.ce ++ [Cell.reg none X])[j]? = some c → (as ++ [p])[j]? = some a → (j < ρ.ce.length ∧ ρ.ce[j]? = some c ∧ as[j]? = some a) ∨ (j = ρ.ce.length ∧ c = .reg none X ∧ a = p) := fun j c a hc ha => by
    by_cases hj : j < ρ.ce.length
    · rw [List.getElem?_append_left hj] at hc
      rw [List.getElem?_append_left (by rw [e.ln]; exact hj)] at ha
      exact .inl ⟨hj, hc, ha⟩
    · rw [List.getElem?_append_right (by omega)] at hc
      rw [List.getElem?_append_right (by rw [e.ln]; omega), e.ln] at ha
      cases z : j - ρ.ce.length with
      | zero => rw [z] at hc ha; cases hc; cases ha; exact .inr ⟨by omega, rfl, rfl⟩
      | succ m => rw [z] at hc; simp at hc
  have le : ∀ i, ρ.ce.length ≤ i → ∀ b, Ts i b = none := fun i hi b => r.em i (fun t X z => by rw [List.getElem?_eq_none hi] at z; cases z) b
  refine ⟨e.gh, e.fh, e.fg, e.g0, ?_, e.pr.trans (List.prefix_append _ _), by show (as ++ [p]).length = (ρ.ce ++ [Cell.reg none X]).length; rw [List.length_append, List.length_append, e.ln]; rfl, fun j c a hc ha => ?_, e.sn, fun i av hi => ?_, fun i b => if i = ρ.ce.length then T b else Ts i b, fun j h b => ?_, fun i j b o u h1 h2 => ?_, fun i b o h => ?_, fun j t X2 a hc ha => ?_⟩
  · rw [List.nodup_append]
    refine ⟨e.nd, by simp, fun a ha b hb => ?_⟩
    rw [List.mem_singleton] at hb
    subst hb
    exact fun z => np (z ▸ ha)
  · rcases ats j c a hc ha with ⟨_, h1, h2⟩ | ⟨_, rfl, rfl⟩
    · exact e.ce j c a h1 h2
    · exact ⟨fp, hp, gp⟩
  · obtain ⟨v, hv, r⟩ := e.sl i av hi
    exact ⟨v, hv, r.mono gr⟩
  · show (if j = ρ.ce.length then T b else Ts j b) = none
    by_cases q : j = ρ.ce.length
    · exact absurd (show (ρ.ce ++ [Cell.reg none X])[j]? = some (.reg none X) by rw [q, List.getElem?_append_right (Nat.le_refl _), Nat.sub_self]; rfl) (h none X)
    · rw [if_neg q]
      refine r.em j (fun t X2 z => h t X2 ?_) b
      show (ρ.ce ++ [Cell.reg none X])[j]? = _
      rw [List.getElem?_append_left (List.getElem?_eq_some_iff.mp z).1]
      exact z
  · have h1 : (if i = ρ.ce.length then T b else Ts i b) = some o := h1
    have h2 : (if j = ρ.ce.length then T b else Ts j b) = some u := h2
    by_cases q1 : i = ρ.ce.length
    · by_cases q2 : j = ρ.ce.length
      · rw [q1, q2]
      · rw [if_pos q1] at h1
        rw [if_neg q2] at h2
        have := (ht b o h1).2.2.2.2 j
        rw [h2] at this
        cases this
    · rw [if_neg q1] at h1
      by_cases q2 : j = ρ.ce.length
      · rw [if_pos q2] at h2
        have := (ht b u h2).2.2.2.2 i
        rw [h1] at this
        cases this
      · rw [if_neg q2] at h2
        exact r.dj i j b o u h1 h2
  · have h : (if i = ρ.ce.length then T b else Ts i b) = some o := h
    by_cases q : i = ρ.ce.length
    · rw [if_pos q] at h
      obtain ⟨x, y, z, w, _⟩ := ht b o h
      refine ⟨x, y, z, fun j hj => ?_⟩
      by_cases l : j < as.length
      · rw [List.getElem?_append_left l] at hj
        exact absurd (List.mem_of_getElem? hj) w
      · have : j < (as ++ [p]).length := (List.getElem?_eq_some_iff.mp hj).1
        rw [List.length_append, e.ln] at this
        simp only [List.length] at this
        rw [e.ln] at l
        omega
    · rw [if_neg q] at h
      obtain ⟨x, y, z, w⟩ := r.pl i b o h
      refine ⟨x, y, z, fun j hj => ?_⟩
      by_cases l : j < as.length
      · rw [List.getElem?_append_left l] at hj
        exact w j hj
      · rw [List.getElem?_append_right (by omega)] at hj
        have := List.mem_singleton.mp (List.mem_of_getElem? hj)
        subst this
        rw [nt i] at h
        cases h
  · rcases ats j _ a hc ha with ⟨hj, h1, h2⟩ | ⟨hj, h1, rfl⟩
    · obtain ⟨x, y⟩ := r.ok j t X2 a h1 h2
      refine ⟨x, ?_⟩
      show X2.ok (fun b => if j = ρ.ce.length then T b else Ts j b) G a
      simp only [if_neg (Nat.ne_of_lt hj)]
      exact y
    · cases h1
      refine ⟨(fun g z => nomatch z), ?_⟩
      show X.ok (fun b => if j = ρ.ce.length then T b else Ts j b) G a
      simp only [if_pos hj]
      exact ok
mutual
/-- the cells that an item holds -/
def TN.cels : TN → List Nat
  | .dat _ => []
  | .cel j => [j]
  | .tup xs => TN.celss xs
def TN.celss : List TN → List Nat
  | [] => []
  | x :: xs => TN.cels x ++ TN.celss xs
end
def AV.cels : AV → List Nat
  | .dat _ => []
  | .cel j => [j]
  | .tup xs => TN.celss xs
mutual
inductive OfT (ρ : En) : TN → D → Prop
  | dat (d : D) : OfT ρ (.dat d) d
  | cel {j : Nat} {ds : List D} : ρ.ce[j]? = some (.lst ds) → OfT ρ (.cel j) (.lst ds)
  | tup {xs : List TN} {ds : List D} : OfTs ρ xs ds → OfT ρ (.tup xs) (.tup ds)
inductive OfTs (ρ : En) : List TN → List D → Prop
  | nil : OfTs ρ [] []
  | cons {x : TN} {d : D} {xs : List TN} {ds : List D} : OfT ρ x d → OfTs ρ xs ds → OfTs ρ (x :: xs) (d :: ds)
end
mutual
theorem OfT.mem {j : Nat} : ∀ (x : TN) (d : D), OfT ρ x d → j ∈ x.cels → ∃ es, ρ.ce[j]? = some (.lst es)
  | .dat e, d, h, m => by rw [TN.cels] at m; cases m
  | .cel i, d, h, m => by
    rw [TN.cels, List.mem_singleton] at m
    subst m
    cases h with | cel hc => exact ⟨_, hc⟩
  | .tup xs, d, h, m => by
    rw [TN.cels] at m
    cases h with | tup h2 => exact OfTs.mem xs _ h2 m
theorem OfTs.mem {j : Nat} : ∀ (xs : List TN) (ds : List D), OfTs ρ xs ds → j ∈ TN.celss xs → ∃ es, ρ.ce[j]? = some (.lst es)
  | [], _, h, m => by rw [TN.celss] at m; cases m
  | x :: xs, _, h, m => by
    rw [TN.celss] at m
    cases h with
    | cons h1 h2 =>
      rcases List.mem_append.mp m with m | m
      · exact OfT.mem x _ h1 m
      · exact OfTs.mem xs _ h2 m
end
/-- arguments as data: cells are lent to be read -/
inductive AsD (ρ : En) : List AV → List D → Prop
  | nil : AsD ρ [] []
  | dat {d : D} {xs : List AV} {ds : List D} : AsD ρ xs ds → AsD ρ (.dat d :: xs) (d :: ds)
  | cel {j : Nat} {es : List D} {xs : List AV} {ds : List D} : ρ.ce[j]? = some (.lst es) → AsD ρ xs ds → AsD ρ (.cel j :: xs) (.lst es :: ds)
  | tup {ts : List TN} {es : List D} {xs : List AV} {ds : List D} : OfTs ρ ts es → AsD ρ xs ds → AsD ρ (.tup ts :: xs) (.tup es :: ds)
def nocel : List AV → Bool
  | [] => true
  | .cel _ :: _ => false
  | .tup _ :: _ => false
  | .dat _ :: r => nocel r
theorem nocel_mem {xs : List AV} (h : nocel xs = true) {j : Nat} : ∀ x ∈ xs, j ∉ x.cels := by
  induction xs with
  | nil => intro x m; cases m
  | cons x xs ih =>
    cases x with
    | cel i => rw [nocel] at h; cases h
    | tup xs => rw [nocel] at h; cases h
    | dat d =>
      rw [nocel] at h
      intro y m
      rcases List.mem_cons.mp m with rfl | m
      · exact fun z => nomatch (show j ∈ ([] : List Nat) from z)
      · exact ih h y m
theorem AsD.mem {xs : List AV} {ds : List D} (h : AsD ρ xs ds) {j : Nat} {x : AV} (m : x ∈ xs) (mj : j ∈ x.cels) : ∃ es, ρ.ce[j]? = some (.lst es) := by
  induction h with
  | nil => cases m
  | dat _ ih =>
    rcases List.mem_cons.mp m with rfl | m
    · exact nomatch (show j ∈ ([] : List Nat) from mj)
    · exact ih m
  | cel hc _ ih =>
    rcases List.mem_cons.mp m with rfl | m
    · have := List.mem_singleton.mp (show j ∈ [_] from mj)
      subst this
      exact ⟨_, hc⟩
    · exact ih m
  | tup ht _ ih =>
    rcases List.mem_cons.mp m with rfl | m
    · exact OfTs.mem _ _ ht mj
    · exact ih m
/-- what follows a call by data -/
def aft (ρ : En) (xs : List AV) (k : AV → En → Prop) : RV → Prop
  | .dat d => (nocel xs || hard d) = true ∧ k (.dat d) ρ
  | .new es => (nocel xs || hards es) = true ∧ k (.cel ρ.ce.length) (ρ.add es)
  | .prt as es bs => (nocel xs || (hards as && hards es && hards bs)) = true ∧ k (.tup (as.map .dat ++ .cel ρ.ce.length :: bs.map .dat)) (ρ.add es)
  | .reg X => k (.cel ρ.ce.length) (ρ.addX X)
  | .ext d X => (nocel xs || hard d) = true ∧ k (.dat d) (ρ.addT X)
mutual
theorem OfT.repG {as : List Addr} {G G1 : Hp} (s1 : Same G G1) : ∀ (x : TN) (d : D) (v : V), (∀ (j : Nat) (p : Addr) (es : List D), j ∈ x.cels → ρ.ce[j]? = some (.lst es) → as[j]? = some p → Rep K G1 (.lst es) (.ref p)) → OfT ρ x d → TNr K G as x v → Rep K G1 d v
  | .dat e, d, v, c, h, r => by cases h; cases r with | dat r => exact Rep.mono s1 _ _ r
  | .cel j, d, v, c, h, r => by
    cases h with
    | cel hc =>
      cases r with
      | cel ha => exact c j _ _ (by rw [TN.cels]; exact List.mem_singleton.mpr rfl) hc ha
  | .tup xs, d, v, c, h, r => by
    cases h with
    | tup h2 =>
      cases r with
      | tup sq r2 => exact .tup (Same.seqT s1 sq) (OfTs.repG0 s1 xs _ _ (fun j p es m => c j p es (by rw [TN.cels]; exact m)) h2 r2)
theorem OfTs.repG0 {as : List Addr} {G G1 : Hp} (s1 : Same G G1) : ∀ (xs : List TN) (ds : List D) (vs : List V), (∀ (j : Nat) (p : Addr) (es : List D), j ∈ TN.celss xs → ρ.ce[j]? = some (.lst es) → as[j]? = some p → Rep K G1 (.lst es) (.ref p)) → OfTs ρ xs ds → TNs K G as xs vs → Reps K G1 ds vs
  | [], _, _, c, h, r => by cases h; cases r; exact .nil
  | x :: xs, _, _, c, h, r => by
    cases h with
    | cons h1 h2 =>
      cases r with
      | cons r1 r2 => exact .cons (OfT.repG s1 x _ _ (fun j p es m => c j p es (by rw [TN.celss]; exact List.mem_append_left _ m)) h1 r1) (OfTs.repG0 s1 xs _ _ (fun j p es m => c j p es (by rw [TN.celss]; exact List.mem_append_right _ m)) h2 r2)
end
open Classical in
theorem wsp0 {W : PW0} {E : L2.St → XK} {xs : List AV} {ds : List D} {exc : Addr → Prop} (ha : AsD ρ xs ds) (hE : ∀ C as σ H G, exc C → EnvOk K F ρ as σ H G → E σ (.ref C) none H) (hw : W (ds.map .dat) [] (fun r _ => aft ρ xs k r) exc) : WpSp K F (spG K W) E xs ρ k := by
  intro as σ H G vs e rx Q q
  let B : Addr → Prop := fun b => ∃ (j : Nat) (x : AV), x ∈ xs ∧ j ∈ x.cels ∧ as[j]? = some b
  have bcell : ∀ b, B b → G b = none ∧ ∃ ws, H b = some (.lst ws) := fun b ⟨j, x, m, mj, hj⟩ => by
    obtain ⟨es, hc⟩ := ha.mem m mj
    obtain ⟨_, _, g, ws, hw, _⟩ := e.ce j _ b hc hj
    exact ⟨g, ws, hw⟩
  have bas : ∀ b, B b → b ∈ as := fun b ⟨_, _, _, _, hj⟩ => List.mem_of_getElem? hj
  let G1 : Hp := fun b => if B b then H b else G b
  have g1 : ∀ b, B b → G1 b = H b := fun b h => if_pos h
  have g2 : ∀ b, ¬ B b → G1 b = G b := fun b h => if_neg h
  have s1 : Same G G1 := fun b o h => by
    rw [g2 b fun z => by rw [(bcell b z).1] at h; cases h]; exact h
  have h1 : Same G1 H := fun b o h => by
    by_cases z : B b
    · rw [g1 b z] at h; exact h
    · rw [g2 b z] at h; exact e.gh _ _ h
  have rd : RepAs K G1 [] (ds.map .dat) vs := by
    have cell : ∀ {j : Nat} {p : Addr} {es : List D}, B p → ρ.ce[j]? = some (.lst es) → as[j]? = some p → Rep K G1 (.lst es) (.ref p) := fun {j p es} hb hc hp => by
      obtain ⟨_, _, g, us, hu, hr⟩ := e.ce j _ p hc hp
      exact Rep.lst (by rw [g1 p hb]; exact hu) (Reps.mono s1 _ _ hr)
    have main : ∀ (ys : List AV) (es : List D) (ws : List V), (∀ y ∈ ys, y ∈ xs) → AsD ρ ys es → RepAs K G as ys ws → RepAs K G1 [] (es.map .dat) ws := by
      intro ys es ws sub hd
      induction hd generalizing ws with
      | nil => intro r; cases r; exact .nil
      | dat _ ih =>
        intro r
        cases r with
        | cons a b => exact .cons (Rep.mono s1 _ _ a) (ih _ (fun y m => sub y (List.mem_cons_of_mem _ m)) b)
      | @cel j es2 ys2 ds2 hc _ ih =>
        intro r
        cases r with
        | cons a b =>
          obtain ⟨p, hp, rfl⟩ := a
          exact .cons (cell ⟨j, _, sub _ List.mem_cons_self, List.mem_singleton.mpr rfl, hp⟩ hc hp) (ih _ (fun y m => sub y (List.mem_cons_of_mem _ m)) b)
      | @tup ts es2 ys2 ds2 ht _ ih =>
        intro r
        cases r with
        | cons a b =>
          obtain ⟨p, us, rfl, sq, rs⟩ := a
          refine .cons (Rep.tup (Same.seqT s1 sq) ?_) (ih _ (fun y m => sub y (List.mem_cons_of_mem _ m)) b)
          exact OfTs.repG0 s1 ts _ _ (fun j p es mj hc hp => cell ⟨j, _, sub _ List.mem_cons_self, mj, hp⟩ hc hp) ht rs
    exact main xs ds vs (fun _ m => m) ha rx
  obtain ⟨Ts0, r0⟩ := e.rg
  refine ⟨G1, [], fun _ _ => none, ds.map .dat, [], _, exc, h1, ⟨rfl, List.nodup_nil, fun j c a hc => by simp at hc⟩, RegsAt.no (fun j t X z => by simp at z), rd, hw, ?_, ?_⟩
  · intro r cs' v H' G1' Ts' hp fr sg gh' nw _ _ _ rr
    have hh : Same H H' := fun a o h => fr a o (by simp) (fun _ => rfl) h
    let G' : Hp := fun b => if B b then none else G1' b
    have k1 : ∀ b, B b → G' b = none := fun b h => if_pos h
    have k2 : ∀ b, ¬ B b → G' b = G1' b := fun b h => if_neg h
    have sG : Same G G' := fun b o h => by
      have nb : ¬ B b := fun z => by rw [(bcell b z).1] at h; cases h
      rw [k2 b nb]; exact sg _ _ (s1 _ _ h)
    have keep : ∀ a o, G' a = some o → G a = some o ∨ H a = none := fun a o h => by
      by_cases z : B a
      · rw [k1 a z] at h; cases h
      · rw [k2 a z] at h
        rcases nw a o h with y | y | ⟨_, y⟩
        · rw [g2 a z] at y; exact .inl y
        · exact .inr y
        · exact absurd rfl y
    have gn : ∀ {a : Addr} {o : HO}, H a = some o → G a = none → G' a = none := fun {a o} ho g => by
      cases z : G' a with
      | none => rfl
      | some o2 =>
        rcases keep a o2 z with y | y
        · rw [g] at y; cases y
        · rw [ho] at y; cases y
    have r1 : RegsAt Ts0 F.Fr G' H' as ρ.ce := r0.same (fun _ _ _ _ h => hh _ _ h) (fun b o ho g => gn ho g) (fun _ z => z) fun _ _ z => .inl (sG _ _ z)
    have e' : EnvOk K F ρ as σ H' G' := by
      refine ⟨fun a o h => ?_, Same.trans e.fh hh, fun a o h => ?_, Same.trans e.g0 sG, e.nd, e.pr, e.ln, fun j c a hc hj => ?_, e.sn, fun i av hi => ?_, ⟨Ts0, r1⟩⟩
      · by_cases z : B a
        · rw [k1 a z] at h; cases h
        · rw [k2 a z] at h; exact gh' _ _ h
      · rcases keep a o h with y | y
        · exact e.fg _ _ y
        · exact .inr (Same.none e.fh y)
      · obtain ⟨fa, ⟨o, ho⟩, ok⟩ := e.ce j c a hc hj
        refine ⟨fa, ⟨o, hh _ _ ho⟩, ?_⟩
        cases c with
        | gone => trivial
        | reg t X => exact gn ho ok
        | lst es => obtain ⟨g, ws, hw, r⟩ := ok; exact ⟨gn ho g, ws, hh _ _ hw, Reps.mono sG _ _ r⟩
        | ins C9 ns9 es => obtain ⟨g, dx9, ws, hw, ln9, r⟩ := ok; exact ⟨gn ho g, dx9, ws, hh _ _ hw, ln9, Reps.mono sG _ _ r⟩
        | drw => obtain ⟨g, ws, hw, r⟩ := ok; exact ⟨gn ho g, ws, hh _ _ hw, r⟩
        | oth X => obtain ⟨g, o9, hw, r⟩ := ok; exact ⟨gn ho g, o9, hh _ _ hw, X.mono (fun _ _ z => .inl (sG _ _ z)) r⟩
      · obtain ⟨v, hv, r⟩ := e.sl i av hi
        exact ⟨v, hv, r.mono ⟨sG, [], by simp⟩⟩
    have back : ∀ a o, G1' a = some o → G' a = some o ∨ ∃ xs, o = HO.lst xs := fun a o h => by
      by_cases z : B a
      · obtain ⟨_, ws, hw⟩ := bcell a z
        rw [sg a _ (by rw [g1 a z]; exact hw)] at h
        cases h
        exact .inr ⟨_, rfl⟩
      · exact .inl (by rw [k2 a z]; exact h)
    have all : nocel xs = true → Same G1' G' := fun nc a o h => by
      rw [k2 a fun ⟨j, x, m, mj, _⟩ => nocel_mem nc x m mj]; exact h
    have noT : ∀ {p : Addr}, H p = none → ∀ i, Ts0 i p = none := fun {p} hp0 i => by
      cases z : Ts0 i p with
      | none => rfl
      | some o => rw [(r0.pl i p o z).1] at hp0; cases hp0
    have noAs : ∀ {p : Addr}, H p = none → p ∉ as := fun {p} hp0 m => by
      obtain ⟨j, hj⟩ := List.getElem?_of_mem m
      have hl : j < ρ.ce.length := by rw [← e.ln]; exact (List.getElem?_eq_some_iff.mp hj).1
      obtain ⟨_, ⟨o, ho⟩, _⟩ := e.ce j _ p (List.getElem?_eq_getElem hl) hj
      rw [ho] at hp0
      cases hp0
    have noB : ∀ {p : Addr}, H p = none → ¬ B p := fun {p} hp0 z => by
      obtain ⟨_, ws, hw⟩ := bcell p z
      rw [hw] at hp0
      cases hp0
    cases r with
    | ext d X =>
      obtain ⟨rd2, p, o, ⟨hp0, _⟩, _, gp, ho, okX⟩ := rr
      have hp0 : H p = none := hp0.elim id fun ⟨_, z⟩ => absurd rfl z
      refine q _ _ _ _ H' G' hp.2 (e'.ownT ho (by rw [k2 p (noB hp0)]; exact gp) (Same.none e.fh hp0) (noAs hp0) ⟨Ts0, r1, noT hp0⟩ (X.mono back okX)) ⟨sG, [p], rfl⟩ ?_
      rcases Bool.or_eq_true_iff.mp hp.1 with z | z
      · exact Rep.mono (all z) _ _ rd2
      · exact Rep.hard back _ _ z rd2
    | reg X =>
      obtain ⟨p, T, rfl, ⟨hp0, _⟩, _, gp, ho, okX, ht⟩ := rr
      have hp0 : H p = none := hp0.elim id fun ⟨_, z⟩ => absurd rfl z
      refine q _ _ _ _ H' G' hp (e'.ownX r1 ho (by rw [k2 p (noB hp0)]; exact gp) (Same.none e.fh hp0) (noAs hp0) (noT hp0) (X.mono back okX) fun b o hb => ?_) ⟨sG, [p], rfl⟩ (RepA.last e.ln)
      obtain ⟨h1, h2, ⟨h3, _⟩, _⟩ := ht b o hb
      have h3 : H b = none := h3.elim id fun ⟨_, z⟩ => absurd rfl z
      exact ⟨h1, by rw [k2 b (noB h3)]; exact h2, Same.none e.fh h3, noAs h3, noT h3⟩
    | dat d =>
      obtain ⟨hc, hk⟩ := hp
      refine q _ ρ v as H' G' hk e' ⟨sG, [], by simp⟩ ?_
      rcases Bool.or_eq_true_iff.mp hc with z | z
      · exact Rep.mono (all z) _ _ rr
      · exact Rep.hard back _ _ z rr
    | new es =>
      obtain ⟨hc, hk⟩ := hp
      obtain ⟨p, ws, rfl, ⟨hp0, _⟩, _, gp, hp1, hr⟩ := rr
      have hp0 : H p = none := hp0.elim id fun ⟨_, z⟩ => absurd rfl z
      have np : p ∉ as := fun m => by
        obtain ⟨j, hj⟩ := List.getElem?_of_mem m
        have hl : j < ρ.ce.length := by rw [← e.ln]; exact (List.getElem?_eq_some_iff.mp hj).1
        obtain ⟨_, ⟨o, ho⟩, _⟩ := e.ce j _ p (List.getElem?_eq_getElem hl) hj
        rw [ho] at hp0
        cases hp0
      have nb : ¬ B p := fun z => np (bas p z)
      have hr' : Reps K G' es ws := by
        rcases Bool.or_eq_true_iff.mp hc with z | z
        · exact Reps.mono (all z) _ _ hr
        · exact Reps.hard back _ _ z hr
      exact q _ _ _ _ H' G' hk (e'.ownC hp1 (by rw [k2 p nb]; exact gp) (Same.none e.fh hp0) np ⟨Ts0, r1, fun i => noT hp0 i⟩ hr') ⟨sG, [p], rfl⟩ (RepA.last e.ln)
    | prt as1 es bs1 =>
      obtain ⟨hc, hk⟩ := hp
      obtain ⟨t, p, w1, w2, ws, rfl, sq, ra1, ra2, ⟨hp0, _⟩, _, gp, hp1, hr⟩ := rr
      have hp0 : H p = none := hp0.elim id fun ⟨_, z⟩ => absurd rfl z
      have np : p ∉ as := fun m => by
        obtain ⟨j, hj⟩ := List.getElem?_of_mem m
        have hl : j < ρ.ce.length := by rw [← e.ln]; exact (List.getElem?_eq_some_iff.mp hj).1
        obtain ⟨_, ⟨o, ho⟩, _⟩ := e.ce j _ p (List.getElem?_eq_getElem hl) hj
        rw [ho] at hp0
        cases hp0
      have nb : ¬ B p := fun z => np (bas p z)
      obtain ⟨sq', ra1', ra2', hr'⟩ : SqT K G' t (w1 ++ .ref p :: w2) ∧ Reps K G' as1 w1 ∧ Reps K G' bs1 w2 ∧ Reps K G' es ws := by
        rcases Bool.or_eq_true_iff.mp hc with z | z
        · exact ⟨Same.seqT (all z) sq, Reps.mono (all z) _ _ ra1, Reps.mono (all z) _ _ ra2, Reps.mono (all z) _ _ hr⟩
        · rw [Bool.and_eq_true, Bool.and_eq_true] at z
          exact ⟨SqT.hard back sq, Reps.hard back _ _ z.1.1 ra1, Reps.hard back _ _ z.2 ra2, Reps.hard back _ _ z.1.2 hr⟩
      refine q _ _ _ _ H' G' hk (e'.ownC hp1 (by rw [k2 p nb]; exact gp) (Same.none e.fh hp0) np ⟨Ts0, r1, fun i => noT hp0 i⟩ hr') ⟨sG, [p], rfl⟩ ⟨t, _, rfl, sq', ?_⟩
      exact TNs.append (TNs.of ra1') (.cons (.cel (by rw [List.getElem?_append_right (by rw [e.ln]; exact Nat.le_refl _), e.ln, Nat.sub_self]; rfl)) (TNs.of ra2'))
  · intro C H' hc fr
    have hh : Same H H' := fun a o h => fr a o (by simp) (fun _ => rfl) h
    refine hE C as σ H' G hc ⟨Same.trans e.gh hh, Same.trans e.fh hh, e.fg, e.g0, e.nd, e.pr, e.ln, fun j c a hc hj => ?_, e.sn, e.sl, ⟨Ts0, r0.same (fun _ _ _ _ h => hh _ _ h) (fun _ _ _ g => g) (fun _ z => z) fun _ _ z => .inl z⟩⟩
    obtain ⟨fa, ⟨o, ho⟩, ok⟩ := e.ce j c a hc hj
    refine ⟨fa, ⟨o, hh _ _ ho⟩, ?_⟩
    cases c with
    | gone => trivial
    | reg t X => exact ok
    | lst es => obtain ⟨g, ws, hw, r⟩ := ok; exact ⟨g, ws, hh _ _ hw, r⟩
    | ins C9 ns9 es => obtain ⟨g, dx9, ws, hw, ln9, r⟩ := ok; exact ⟨g, dx9, ws, hh _ _ hw, ln9, r⟩
    | drw => obtain ⟨g, ws, hw, r⟩ := ok; exact ⟨g, ws, hh _ _ hw, r⟩
    | oth X => obtain ⟨g, o9, hw, r⟩ := ok; exact ⟨g, o9, hh _ _ hw, r⟩
/-- the same where the caller lets nothing out -/
theorem wspE {W : PW0} {E : L2.St → XK} {xs : List AV} {ds : List D} (ha : AsD ρ xs ds) (hw : W (ds.map .dat) [] (fun r _ => aft ρ xs k r) (fun _ => False)) : WpSp K F (spG K W) E xs ρ k := wsp0 ha (fun _ _ _ _ _ z => z.elim) hw
/-- and where it lets the callee's errors out -/
theorem wspX {W : PW0} {xs : List AV} {ds : List D} (ha : AsD ρ xs ds) (hw : W (ds.map .dat) [] (fun r _ => aft ρ xs k r) F.ex) : WpSp K F (spG K W) (fun _ => F.E) xs ρ k := wsp0 ha (fun C as σ H G h e => F.hE C H h e.fh) hw
/-- a cell is lent to be written -/
def lend : AV → AV
  | .cel _ => .cel 0
  | x => x
def onlyC (j : Nat) : List AV → Bool
  | [] => true
  | .cel i :: r => decide (i = j) && onlyC j r
  | .tup _ :: _ => false
  | .dat _ :: r => onlyC j r
def aft1 (ρ : En) (j : Nat) (k : AV → En → Prop) (r : RV) (cs : List Cell) : Prop := ∃ c, cs = [c] ∧ noGone cs = true ∧ match r with
  | .dat d => k (.dat d) (ρ.cell j c)
  | .new es => k (.cel ρ.ce.length) ((ρ.cell j c).add es)
  | .prt as1 es bs1 => k (.tup (as1.map .dat ++ .cel ρ.ce.length :: bs1.map .dat)) ((ρ.cell j c).add es)
  | .reg X => k (.cel ρ.ce.length) ((ρ.cell j c).addX X)
  | .ext d X => k (.dat d) ((ρ.cell j c).addT X)
theorem wsp1Q {W : PW0} {E : L2.St → XK} {xs : List AV} {j : Nat} {c : Cell} {post : RV → List Cell → Prop} {exc : Addr → Prop} (hX : ∀ C σ H, exc C → Same F.Fr H → E σ (.ref C) none H) (hj : ρ.ce[j]? = some c) (hn : noGone [c] = true) (ho : onlyC j xs = true) (hw : W (xs.map lend) [c] post exc) (hpo : ∀ r cs, post r cs → aft1 ρ j k r cs) : WpSp K F (spG K W) E xs ρ k := by
  intro as σ H G vs e rx Q q
  have hl : j < as.length := by rw [e.ln]; exact (List.getElem?_eq_some_iff.mp hj).1
  obtain ⟨a, ha⟩ : ∃ a, as[j]? = some a := ⟨_, List.getElem?_eq_getElem hl⟩
  obtain ⟨fa, hx, ok⟩ := e.ce j c a hj ha
  have rl : RepAs K G [a] (xs.map lend) vs := by
    have main : ∀ (ys : List AV) (ws : List V), onlyC j ys = true → RepAs K G as ys ws → RepAs K G [a] (ys.map lend) ws := by
      intro ys
      induction ys with
      | nil => intro ws _ r; cases r; exact .nil
      | cons y ys ih =>
        intro ws ho r
        cases r with
        | cons r1 r2 =>
          cases y with
          | tup xs => rw [onlyC] at ho; cases ho
          | dat d => exact .cons (Rep.mono (Same.refl _) _ _ r1) (ih _ ho r2)
          | cel i =>
            rw [onlyC, Bool.and_eq_true] at ho
            have ei := of_decide_eq_true ho.1
            subst ei
            obtain ⟨p, hp, rfl⟩ := r1
            rw [ha] at hp
            cases hp
            exact .cons ⟨a, rfl, rfl⟩ (ih _ ho.2 r2)
    exact main xs vs ho rx
  obtain ⟨TsE, rE⟩ := e.rg
  let Ts : Nat → Hp := fun i b => if i = 0 then TsE j b else none
  have tz : ∀ {i b}, Ts i b ≠ none → TsE j b ≠ none := fun {i b} h => by
    have h : (if i = 0 then TsE j b else none) ≠ none := h
    by_cases q : i = 0
    · rw [if_pos q] at h; exact h
    · rw [if_neg q] at h; exact absurd rfl h
  have tn : ∀ {b}, TsE j b = none → ∀ i, Ts i b = none := fun {b} h i => by
    show (if i = 0 then TsE j b else none) = none
    split
    · exact h
    · rfl
  have tp : ∀ {b}, TsE j b ≠ none → H b ≠ none ∧ G b = none ∧ F.Fr b = none ∧ ∀ k, as[k]? = some b → k = j := fun {b} h => by
    cases q : TsE j b with
    | none => exact absurd q h
    | some o =>
      obtain ⟨x, y, z, w⟩ := rE.pl j b o q
      exact ⟨by rw [x]; exact fun z => (nomatch z), y, z, w⟩
  have rL : RegsAt Ts (fun _ => none) G H [a] [c] := by
    refine ⟨fun i h b => ?_, fun i k b o u h1 h2 => ?_, fun i b o h => ?_, fun k t X p hc hp => ?_⟩
    · show (if i = 0 then TsE j b else none) = none
      by_cases q : i = 0
      · rw [if_pos q]
        refine rE.em j (fun t X z => h t X ?_) b
        rw [hj] at z
        cases z
        rw [q]
        rfl
      · rw [if_neg q]
    · have h1 : (if i = 0 then TsE j b else none) = some o := h1
      have h2 : (if k = 0 then TsE j b else none) = some u := h2
      split at h1
      · split at h2
        · omega
        · cases h2
      · cases h1
    · have h : (if i = 0 then TsE j b else none) = some o := h
      split at h
      · rename_i q
        obtain ⟨x, y, z, w⟩ := rE.pl j b o h
        refine ⟨x, y, rfl, fun k hk => ?_⟩
        cases k with
        | zero => exact q.symm
        | succ k => simp at hk
      · cases h
    · cases k with
      | zero =>
        simp at hc hp
        subst hc hp
        exact rE.ok j t X a hj ha
      | succ k => simp at hc
  refine ⟨G, [a], Ts, xs.map lend, [c], _, _, e.gh, ⟨rfl, by simp, fun i c2 b hc hb => ?_⟩, rL, rl, hw, ?_, fun C H' hc fr => hX C σ H' hc fun b o h => fr b o (by simpa using ne_of_none h fa) (tn (by
    cases q : TsE j b with
    | none => rfl
    | some u => have := (tp (b := b) (by rw [q]; exact fun z => (nomatch z))).2.2.1; rw [h] at this; cases this)) (e.fh _ _ h)⟩
  · cases i with
    | zero => simp at hc hb; subst hc hb; exact ⟨hx, ok⟩
    | succ i => simp at hc
  · rintro r cs' v H' G' Ts' hp0 fr sG gh' nw ck rg' nwT rr
    obtain ⟨c', rfl, ng, hp⟩ := hpo r cs' hp0
    have fr' : ∀ b o, b ≠ a → TsE j b = none → H b = some o → H' b = some o := fun b o n n2 h => fr b o (by simpa using n) (tn n2) h
    obtain ⟨hx', ok'⟩ := ck.ok 0 c' a rfl rfl
    have frT : ∀ {b : Addr} {o : HO}, F.Fr b = some o → TsE j b = none := fun {b o} h => by
      cases q : TsE j b with
      | none => rfl
      | some u => have := (tp (b := b) (by rw [q]; exact fun z => (nomatch z))).2.2.1; rw [h] at this; cases this
    have asT : ∀ {i : Nat} {b : Addr}, i ≠ j → as[i]? = some b → TsE j b = none := fun {i b} ne hb => by
      cases q : TsE j b with
      | none => rfl
      | some u => exact absurd ((tp (b := b) (by rw [q]; exact fun z => (nomatch z))).2.2.2 i hb) ne
    have gn : ∀ {b : Addr} {o : HO}, TsE j b = none → H b = some o → G b = none → G' b = none := fun {b o} n ho g => by
      cases z : G' b with
      | none => rfl
      | some o2 =>
        rcases nw b o2 z with y | y | ⟨i, y⟩
        · rw [g] at y; cases y
        · rw [ho] at y; cases y
        · exact absurd n (tz y)
    have alo : ∀ {i : Nat} {b : Addr}, as[i]? = some b → ∃ o, H b = some o := fun {i b} hb => by
      have hil : i < ρ.ce.length := by rw [← e.ln]; exact (List.getElem?_eq_some_iff.mp hb).1
      exact (e.ce i _ b (List.getElem?_eq_getElem hil) hb).2.1
    have injA : ∀ {i : Nat} {b : Addr}, as[i]? = some b → b = a → i = j := fun {i b} hb z => by
      subst z
      exact (List.getElem?_inj (List.getElem?_eq_some_iff.mp hb).1 e.nd).mp (hb.trans ha.symm)
    have rN : RegsAt (fun i b => if i = j then Ts' 0 b else TsE i b) F.Fr G' H' as (ρ.ce.set j c') := by
      refine ⟨fun i h b => ?_, fun i k b o u h1 h2 => ?_, fun i b o h => ?_, fun k t X p hc hp => ?_⟩
      · show (if i = j then Ts' 0 b else TsE i b) = none
        by_cases q : i = j
        · rw [if_pos q]
          refine rg'.em 0 (fun t X z => h t X ?_) b
          simp at z
          rw [q, List.getElem?_set_self (by rw [← e.ln]; exact hl), z]
        · rw [if_neg q]
          refine rE.em i (fun t X z => h t X ?_) b
          rw [List.getElem?_set_ne (fun z => q z.symm)]
          exact z
      · have h1 : (if i = j then Ts' 0 b else TsE i b) = some o := h1
        have h2 : (if k = j then Ts' 0 b else TsE k b) = some u := h2
        have mix : ∀ {k : Nat} {o u : HO}, k ≠ j → Ts' 0 b = some o → TsE k b = some u → False := fun {k o u} ne x y => by
          obtain ⟨y1, _, _, y4⟩ := rE.pl k b u y
          rcases nwT 0 b o x with z | z | ⟨m, z⟩
          · rw [y1] at z; cases z
          · rw [List.mem_singleton] at z
            subst z
            exact ne (y4 j ha).symm
          · have z := tz z
            cases q : TsE j b with
            | none => exact z q
            | some w => exact ne (rE.dj k j b u w y q)
        by_cases q1 : i = j
        · by_cases q2 : k = j
          · rw [q1, q2]
          · rw [if_pos q1] at h1
            rw [if_neg q2] at h2
            exact (mix q2 h1 h2).elim
        · rw [if_neg q1] at h1
          by_cases q2 : k = j
          · rw [if_pos q2] at h2
            exact (mix q1 h2 h1).elim
          · rw [if_neg q2] at h2
            exact rE.dj i k b o u h1 h2
      · have h : (if i = j then Ts' 0 b else TsE i b) = some o := h
        by_cases q : i = j
        · rw [if_pos q] at h
          obtain ⟨x, y, _, _⟩ := rg'.pl 0 b o h
          refine ⟨x, y, ?_, fun k hk => ?_⟩
          · rcases nwT 0 b o h with z | z | ⟨m, z⟩
            · exact Same.none e.fh z
            · rw [List.mem_singleton] at z; subst z; exact fa
            · exact (tp (tz z)).2.2.1
          · rw [q]
            rcases nwT 0 b o h with z | z | ⟨m, z⟩
            · obtain ⟨u, hu⟩ := alo hk
              rw [hu] at z; cases z
            · rw [List.mem_singleton] at z; exact injA hk z
            · exact (tp (tz z)).2.2.2 k hk
        · rw [if_neg q] at h
          obtain ⟨x, y, z, w⟩ := rE.pl i b o h
          have nb : b ≠ a := fun u => by subst u; exact q (w j ha).symm
          have nT : TsE j b = none := by
            cases u : TsE j b with
            | none => rfl
            | some o2 => exact absurd (rE.dj i j b o o2 h u) q
          exact ⟨fr' b o nb nT x, gn nT x y, z, w⟩
      · by_cases q : k = j
        · have hc : (ρ.ce.set j c')[k]? = some (Cell.reg t X) := hc
          rw [q, List.getElem?_set_self (by rw [← e.ln]; exact hl)] at hc
          rw [q, ha] at hp
          cases hp
          have := rg'.ok 0 t X a (by simpa using hc) rfl
          refine ⟨this.1, ?_⟩
          show X.ok (fun b => if k = j then Ts' 0 b else TsE k b) G' a
          simp only [if_pos q]
          exact this.2
        · rw [List.getElem?_set_ne (fun z => q z.symm)] at hc
          obtain ⟨x, y⟩ := rE.ok k t X p hc hp
          refine ⟨x, ?_⟩
          show X.ok (fun b => if k = j then Ts' 0 b else TsE k b) G' p
          simp only [if_neg q]
          exact X.mono (fun _ _ z => .inl (sG _ _ z)) y
    have e' : EnvOk K F (ρ.cell j c') as σ H' G' := by
      refine ⟨gh', fun b o h => fr' b o (ne_of_none h fa) (frT h) (e.fh _ _ h), fun b o h => ?_, Same.trans e.g0 sG, e.nd, e.pr, by rw [e.ln]; exact (List.length_set).symm, fun i c2 b hc hb => ?_, e.sn, fun i av hi => ?_, ⟨_, rN⟩⟩
      · rcases nw b o h with y | y | ⟨i, y⟩
        · exact e.fg _ _ y
        · exact .inr (Same.none e.fh y)
        · exact .inr (tp (tz y)).2.2.1
      · have hc' : (ρ.ce.set j c')[i]? = some c2 := hc
        by_cases hij : j = i
        · subst hij
          rw [List.getElem?_set_self (by rw [← e.ln]; exact hl)] at hc'
          cases hc'
          rw [ha] at hb
          cases hb
          exact ⟨fa, hx', ok'⟩
        · rw [List.getElem?_set_ne hij] at hc'
          obtain ⟨fb, ⟨o, ho⟩, okb⟩ := e.ce i c2 b hc' hb
          have nb : b ≠ a := fun z => hij (injA hb z).symm
          have nT := asT (fun z => hij z.symm) hb
          have fr2 : ∀ o, H b = some o → H' b = some o := fun o h => fr' b o nb nT h
          refine ⟨fb, ⟨o, fr2 _ ho⟩, ?_⟩
          cases c2 with
          | gone => trivial
          | reg t X => exact gn nT ho okb
          | lst es => obtain ⟨g, ws, hw, r⟩ := okb; exact ⟨gn nT ho g, ws, fr2 _ hw, Reps.mono sG _ _ r⟩
          | ins C9 ns9 es => obtain ⟨g, dx9, ws, hw, ln9, r⟩ := okb; exact ⟨gn nT ho g, dx9, ws, fr2 _ hw, ln9, Reps.mono sG _ _ r⟩
          | drw => obtain ⟨g, ws, hw, r⟩ := okb; exact ⟨gn nT ho g, ws, fr2 _ hw, r⟩
          | oth X => obtain ⟨g, o9, hw, r⟩ := okb; exact ⟨gn nT ho g, o9, fr2 _ hw, X.mono (fun _ _ z => .inl (sG _ _ z)) r⟩
      · obtain ⟨v, hv, r⟩ := e.sl i av hi
        exact ⟨v, hv, r.mono ⟨sG, [], by simp⟩⟩
    have eln : as.length = (ρ.cell j c').ce.length := e'.ln
    have newF : ∀ {p : Addr}, NewA H [a] Ts p → F.Fr p = none ∧ p ∉ as ∧ ∀ i, i ≠ j → TsE i p = none := fun {p} ⟨h1, h2⟩ => by
      have na : p ≠ a := by simpa using h2
      rcases h1 with h1 | ⟨i, h1⟩
      · refine ⟨Same.none e.fh h1, fun m => ?_, fun i _ => ?_⟩
        · obtain ⟨i, hi⟩ := List.getElem?_of_mem m
          obtain ⟨o, ho⟩ := alo hi
          rw [ho] at h1
          cases h1
        · cases z : TsE i p with
          | none => rfl
          | some o => rw [(rE.pl i p o z).1] at h1; cases h1
      · have h1 := tz h1
        obtain ⟨_, _, x, y⟩ := tp h1
        refine ⟨x, fun m => ?_, fun i ne => ?_⟩
        · obtain ⟨i, hi⟩ := List.getElem?_of_mem m
          have := y i hi
          subst this
          rw [ha] at hi
          exact na (Option.some.inj hi).symm
        · cases z : TsE i p with
          | none => rfl
          | some o =>
            cases u : TsE j p with
            | none => exact absurd u h1
            | some o2 => exact absurd (rE.dj i j p o o2 z u) ne
    have noT : ∀ {p : Addr}, NewA H [a] Ts p → (∀ i, Ts' i p = none) → ∀ i, (if i = j then Ts' 0 p else TsE i p) = none := fun {p} h1 h2 i => by
      by_cases q : i = j
      · rw [if_pos q]; exact h2 0
      · rw [if_neg q]; exact (newF h1).2.2 i q
    cases r with
    | dat d => exact q _ _ v as H' G' hp e' ⟨sG, [], by simp⟩ rr
    | ext d X =>
      obtain ⟨rd2, p, o, hp0, tz0, gp, ho, okX⟩ := rr
      obtain ⟨f1, f2, f3⟩ := newF hp0
      exact q _ _ _ _ H' G' hp (e'.ownT ho gp f1 f2 ⟨_, rN, noT hp0 tz0⟩ okX) ⟨sG, [p], rfl⟩ rd2
    | reg X =>
      obtain ⟨p, T, rfl, hp0, tz0, gp, ho, okX, ht⟩ := rr
      obtain ⟨f1, f2, f3⟩ := newF hp0
      exact q _ _ _ _ H' G' hp (e'.ownX rN ho gp f1 f2 (noT hp0 tz0) okX fun b o hb => by
        obtain ⟨h1, h2, h3, h4⟩ := ht b o hb
        obtain ⟨x1, x2, x3⟩ := newF h3
        exact ⟨h1, h2, x1, x2, noT h3 h4⟩) ⟨sG, [p], rfl⟩ (RepA.last e.ln)
    | prt as1 es bs1 =>
      obtain ⟨t, p, w1, w2, ws, rfl, sq, ra1, ra2, hp0, tz0, gp, hp1, hr⟩ := rr
      obtain ⟨f1, f2, f3⟩ := newF hp0
      refine q _ _ _ _ H' G' hp (e'.ownC hp1 gp f1 f2 ⟨_, rN, noT hp0 tz0⟩ hr) ⟨sG, [p], rfl⟩ ⟨t, _, rfl, sq, ?_⟩
      exact TNs.append (TNs.of ra1) (.cons (.cel (by rw [List.getElem?_append_right (by rw [e.ln]; exact Nat.le_refl _), e.ln, Nat.sub_self]; rfl)) (TNs.of ra2))
    | new es =>
      obtain ⟨p, ws, rfl, hp0, tz0, gp, hp1, hr⟩ := rr
      obtain ⟨f1, f2, f3⟩ := newF hp0
      exact q _ _ _ _ H' G' hp (e'.ownC hp1 gp f1 f2 ⟨_, rN, noT hp0 tz0⟩ hr) ⟨sG, [p], rfl⟩ (RepA.last e.ln)
theorem wsp1P {W : PW0} {E : L2.St → XK} {xs : List AV} {j : Nat} {c : Cell} {post : RV → List Cell → Prop} (hj : ρ.ce[j]? = some c) (hn : noGone [c] = true) (ho : onlyC j xs = true) (hw : W (xs.map lend) [c] post (fun _ => False)) (hpo : ∀ r cs, post r cs → aft1 ρ j k r cs) : WpSp K F (spG K W) E xs ρ k := wsp1Q (fun _ _ _ z _ => z.elim) hj hn ho hw hpo
/-- .. its errors are let out -/
theorem wsp1X {W : PW0} {xs : List AV} {j : Nat} {c : Cell} (hj : ρ.ce[j]? = some c) (hn : noGone [c] = true) (ho : onlyC j xs = true) (hw : W (xs.map lend) [c] (fun r cs => aft1 ρ j k r cs) F.ex) : WpSp K F (spG K W) (fun _ => F.E) xs ρ k := wsp1Q (fun C _ H hc s => F.hE C H hc s) hj hn ho hw fun _ _ z => z
theorem wsp1 {W : PW0} {E : L2.St → XK} {xs : List AV} {j : Nat} {c : Cell} (hj : ρ.ce[j]? = some c) (hn : noGone [c] = true) (ho : onlyC j xs = true) (hw : W (xs.map lend) [c] (fun r cs => aft1 ρ j k r cs) (fun _ => False)) : WpSp K F (spG K W) E xs ρ k := wsp1P hj hn ho hw fun _ _ z => z
/-- one cell lent to be written, others to be read -/
inductive AsL (ρ : En) (j : Nat) : List AV → List AV → Prop
  | nil : AsL ρ j [] []
  | dat {d : D} {xs ys : List AV} : AsL ρ j xs ys → AsL ρ j (.dat d :: xs) (.dat d :: ys)
  | own {xs ys : List AV} : AsL ρ j xs ys → AsL ρ j (.cel j :: xs) (.cel 0 :: ys)
  | cel {i : Nat} {es : List D} {xs ys : List AV} : i ≠ j → ρ.ce[i]? = some (.lst es) → AsL ρ j xs ys → AsL ρ j (.cel i :: xs) (.dat (.lst es) :: ys)
theorem AsL.mem {j : Nat} {xs ys : List AV} (h : AsL ρ j xs ys) {i : Nat} (m : .cel i ∈ xs) : i = j ∨ ∃ es, ρ.ce[i]? = some (.lst es) := by
  induction h with
  | nil => cases m
  | dat _ ih => rcases List.mem_cons.mp m with z | z; (cases z); exact ih z
  | own _ ih => rcases List.mem_cons.mp m with z | z; (cases z; exact .inl rfl); exact ih z
  | cel _ hc _ ih => rcases List.mem_cons.mp m with z | z; (cases z; exact .inr ⟨_, hc⟩); exact ih z
def aft2 (ρ : En) (j : Nat) (k : AV → En → Prop) (r : RV) (cs : List Cell) : Prop := cs = [.drw] ∧ match r with
  | .dat d => hard d = true ∧ k (.dat d) (ρ.cell j .drw)
  | .new es => hards es = true ∧ k (.cel ρ.ce.length) ((ρ.cell j .drw).add es)
  | .prt _ _ _ => False
  | .reg _ => False
  | .ext _ _ => False
open Classical in
theorem wsp2P {W : PW0} {E : L2.St → XK} {xs ys : List AV} {j : Nat} {c : Cell} {post : RV → List Cell → Prop} (hj : ρ.ce[j]? = some c) (hn : noGone [c] = true) (nr : ∀ t X, c ≠ Cell.reg t X) (ha : AsL ρ j xs ys) (hw : W ys [c] post (fun _ => False)) (hpo : ∀ r cs, post r cs → aft2 ρ j k r cs) : WpSp K F (spG K W) E xs ρ k := by
  intro as σ H G vs e rx Q q
  have hl : j < as.length := by rw [e.ln]; exact (List.getElem?_eq_some_iff.mp hj).1
  obtain ⟨a, haj⟩ : ∃ a, as[j]? = some a := ⟨_, List.getElem?_eq_getElem hl⟩
  obtain ⟨fa, hx, ok⟩ := e.ce j c a hj haj
  have cg : c ≠ .gone := fun z => by subst z; rw [noGone] at hn; cases hn
  have apart : ∀ {i : Nat} {b : Addr}, i ≠ j → as[i]? = some b → b ≠ a := fun ne hb z => by
    subst z
    exact ne ((List.getElem?_inj (List.getElem?_eq_some_iff.mp hb).1 e.nd).mp (hb.trans haj.symm))
  let B : Addr → Prop := fun b => ∃ i : Nat, i ≠ j ∧ .cel i ∈ xs ∧ as[i]? = some b
  have bcell : ∀ b, B b → G b = none ∧ ∃ ws, H b = some (.lst ws) := fun b ⟨i, ne, m, hi⟩ => by
    rcases ha.mem m with z | ⟨es, hc⟩
    · exact absurd z ne
    obtain ⟨_, _, g, ws, hw, _⟩ := e.ce i _ b hc hi
    exact ⟨g, ws, hw⟩
  have nBa : ¬ B a := fun ⟨i, ne, _, hi⟩ => apart ne hi rfl
  let G1 : Hp := fun b => if B b then H b else G b
  have g1 : ∀ b, B b → G1 b = H b := fun b h => if_pos h
  have g2 : ∀ b, ¬ B b → G1 b = G b := fun b h => if_neg h
  have s1 : Same G G1 := fun b o h => by
    rw [g2 b fun z => by rw [(bcell b z).1] at h; cases h]; exact h
  have h1 : Same G1 H := fun b o h => by
    by_cases z : B b
    · rw [g1 b z] at h; exact h
    · rw [g2 b z] at h; exact e.gh _ _ h
  have ok1 : CellOk K G1 H a c := by
    cases c with
    | gone => trivial
    | reg t X => exact absurd rfl (nr t X)
    | lst es => obtain ⟨g, ws, hw, r⟩ := ok; exact ⟨by rw [g2 a nBa]; exact g, ws, hw, Reps.mono s1 _ _ r⟩
    | ins C9 ns9 es => obtain ⟨g, dx9, ws, hw, ln9, r⟩ := ok; exact ⟨by rw [g2 a nBa]; exact g, dx9, ws, hw, ln9, Reps.mono s1 _ _ r⟩
    | drw => obtain ⟨g, ws, hw, r⟩ := ok; exact ⟨by rw [g2 a nBa]; exact g, ws, hw, r⟩
    | oth X => obtain ⟨g, o9, hw, r⟩ := ok; exact ⟨by rw [g2 a nBa]; exact g, o9, hw, X.mono (fun _ _ z => .inl (s1 _ _ z)) r⟩
  have rd : RepAs K G1 [a] ys vs := by
    have main : ∀ (zs es : List AV) (ws : List V), (∀ i, .cel i ∈ zs → .cel i ∈ xs) → AsL ρ j zs es → RepAs K G as zs ws → RepAs K G1 [a] es ws := by
      intro zs es ws sub hd
      induction hd generalizing ws with
      | nil => intro r; cases r; exact .nil
      | dat _ ih =>
        intro r
        cases r with
        | cons a b => exact .cons (Rep.mono s1 _ _ a) (ih _ (fun j m => sub j (List.mem_cons_of_mem _ m)) b)
      | own _ ih =>
        intro r
        cases r with
        | cons r1 b =>
          obtain ⟨p, hp, rfl⟩ := r1
          rw [haj] at hp
          cases hp
          exact .cons ⟨a, rfl, rfl⟩ (ih _ (fun j m => sub j (List.mem_cons_of_mem _ m)) b)
      | @cel i es2 ys2 ds2 ne hc _ ih =>
        intro r
        cases r with
        | cons r1 b =>
          obtain ⟨p, hp, rfl⟩ := r1
          obtain ⟨_, _, g, us, hu, hr⟩ := e.ce i _ p hc hp
          refine .cons ?_ (ih _ (fun j m => sub j (List.mem_cons_of_mem _ m)) b)
          exact Rep.lst (by rw [g1 p ⟨i, ne, sub i List.mem_cons_self, hp⟩]; exact hu) (Reps.mono s1 _ _ hr)
    exact main xs ys vs (fun _ m => m) ha rx
  obtain ⟨Ts0, r0⟩ := e.rg
  refine ⟨G1, [a], fun _ _ => none, ys, [c], _, _, h1, ⟨rfl, by simp, fun i c2 b hc hb => ?_⟩, RegsAt.no (fun k t X z => ?_), rd, hw, ?_, fun _ _ z => z.elim⟩
  · cases i with
    | zero => simp at hc hb; subst hc hb; exact ⟨hx, ok1⟩
    | succ i => simp at hc
  · cases k with
    | zero => simp at z; exact nr t X z
    | succ k => simp at z
  rintro r cs' v H' G1' Ts' hp0 fr sg gh' nw ck _ _ rr
  obtain ⟨rfl, hp⟩ := hpo r cs' hp0
  have fr' : ∀ b o, b ≠ a → H b = some o → H' b = some o := fun b o n h => fr b o (by simpa using n) (fun _ => rfl) h
  obtain ⟨hx', ok'⟩ := ck.ok 0 .drw a rfl rfl
  let G' : Hp := fun b => if B b then none else G1' b
  have k1 : ∀ b, B b → G' b = none := fun b h => if_pos h
  have k2 : ∀ b, ¬ B b → G' b = G1' b := fun b h => if_neg h
  have sG : Same G G' := fun b o h => by
    have nb : ¬ B b := fun z => by rw [(bcell b z).1] at h; cases h
    rw [k2 b nb]; exact sg _ _ (s1 _ _ h)
  have keep : ∀ a o, G' a = some o → G a = some o ∨ H a = none := fun a o h => by
    by_cases z : B a
    · rw [k1 a z] at h; cases h
    · rw [k2 a z] at h
      rcases nw a o h with y | y | ⟨_, y⟩
      · rw [g2 a z] at y; exact .inl y
      · exact .inr y
      · exact absurd rfl y
  have back : ∀ a o, G1' a = some o → G' a = some o ∨ ∃ xs, o = HO.lst xs := fun a o h => by
    by_cases z : B a
    · obtain ⟨_, ws, hw⟩ := bcell a z
      rw [sg a _ (by rw [g1 a z]; exact hw)] at h
      cases h
      exact .inr ⟨_, rfl⟩
    · exact .inl (by rw [k2 a z]; exact h)
  have gn : ∀ {b : Addr} {o : HO}, H b = some o → G b = none → G' b = none := fun {b o} ho g => by
    cases z : G' b with
    | none => rfl
    | some o2 =>
      rcases keep b o2 z with y | y
      · rw [g] at y; cases y
      · rw [ho] at y; cases y
  have rN : ∃ Ts', RegsAt Ts' F.Fr G' H' as (ρ.ce.set j .drw) ∧ ∀ i b o, Ts' i b = some o → Ts0 i b = some o := r0.setCS haj (fun _ _ z => nomatch z) fr' (fun b o _ ho g => gn ho g) sG
  have okc : CellOk K G' H' a .drw → EnvOk K F (ρ.cell j .drw) as σ H' G' := fun okk => by
    refine ⟨fun a o h => ?_, fun b o h => fr' b o (ne_of_none h fa) (e.fh _ _ h), fun b o h => ?_, Same.trans e.g0 sG, e.nd, e.pr, by rw [e.ln]; exact (List.length_set).symm, fun i c2 b hc hb => ?_, e.sn, fun i av hi => ?_, let ⟨T, h, _⟩ := rN; ⟨T, h⟩⟩
    · by_cases z : B a
      · rw [k1 a z] at h; cases h
      · rw [k2 a z] at h; exact gh' _ _ h
    · rcases keep b o h with y | y
      · exact e.fg _ _ y
      · exact .inr (Same.none e.fh y)
    · have hc' : (ρ.ce.set j .drw)[i]? = some c2 := hc
      by_cases hij : j = i
      · subst hij
        rw [List.getElem?_set_self (by rw [← e.ln]; exact hl)] at hc'
        cases hc'
        rw [haj] at hb
        cases hb
        exact ⟨fa, hx', okk⟩
      · rw [List.getElem?_set_ne hij] at hc'
        obtain ⟨fb, ⟨o, ho⟩, okb⟩ := e.ce i c2 b hc' hb
        have nb : b ≠ a := apart (fun z => hij z.symm) hb
        refine ⟨fb, ⟨o, fr' _ _ nb ho⟩, ?_⟩
        cases c2 with
        | gone => trivial
        | reg t X => exact gn ho okb
        | lst es => obtain ⟨g, ws, hw, r⟩ := okb; exact ⟨gn ho g, ws, fr' _ _ nb hw, Reps.mono sG _ _ r⟩
        | ins C9 ns9 es => obtain ⟨g, dx9, ws, hw, ln9, r⟩ := okb; exact ⟨gn ho g, dx9, ws, fr' _ _ nb hw, ln9, Reps.mono sG _ _ r⟩
        | drw => obtain ⟨g, ws, hw, r⟩ := okb; exact ⟨gn ho g, ws, fr' _ _ nb hw, r⟩
        | oth X => obtain ⟨g, o9, hw, r⟩ := okb; exact ⟨gn ho g, o9, fr' _ _ nb hw, X.mono (fun _ _ z => .inl (sG _ _ z)) r⟩
    · obtain ⟨v, hv, r⟩ := e.sl i av hi
      exact ⟨v, hv, r.mono ⟨sG, [], by simp⟩⟩
  have gA : G1' a = none → G' a = none := fun z => by rw [k2 a nBa]; exact z
  have finish : EnvOk K F (ρ.cell j .drw) as σ H' G' → Q v H' := fun e' => by
    cases r with
    | dat d => exact q _ _ v as H' G' hp.2 e' ⟨sG, [], by simp⟩ (Rep.hard back _ _ hp.1 rr)
    | prt _ _ _ => exact hp.elim
    | reg _ => exact hp.elim
    | ext _ _ => exact hp.elim
    | new es =>
      obtain ⟨p, ws, rfl, ⟨hp0, _⟩, _, gp, hp1, hr⟩ := rr
      have hp0 : H p = none := hp0.elim id fun ⟨_, z⟩ => absurd rfl z
      have np : p ∉ as := fun m => by
        obtain ⟨i, hi⟩ := List.getElem?_of_mem m
        have hil : i < ρ.ce.length := by rw [← e.ln]; exact (List.getElem?_eq_some_iff.mp hi).1
        obtain ⟨_, ⟨o, ho⟩, _⟩ := e.ce i _ p (List.getElem?_eq_getElem hil) hi
        rw [ho] at hp0
        cases hp0
      have nb : ¬ B p := fun ⟨i, _, _, hi⟩ => np (List.mem_of_getElem? hi)
      exact q _ _ _ _ H' G' hp.2 (e'.ownC hp1 (by rw [k2 p nb]; exact gp) (Same.none e.fh hp0) np (by
        obtain ⟨Ts1, r1, s1⟩ := rN
        exact ⟨Ts1, r1, fun i => by
          cases z : Ts1 i p with
          | none => rfl
          | some o => rw [(r0.pl i p o (s1 i p o z)).1] at hp0; cases hp0⟩) (Reps.hard back _ _ hp.1 hr)) ⟨sG, [p], rfl⟩ (RepA.last e.ln)
  obtain ⟨g, ws, hw, r⟩ := ok'
  exact finish (okc ⟨gA g, ws, hw, r⟩)
end
section
variable {K : PySem.W.Frag} {F : Fx} {ρ : En} {k : AV → En → Prop}
def aftD (ρ : En) (j : Nat) (xs : List AV) (k : AV → En → Prop) : RV → Prop
  | .dat d => (onlyC j xs || hard d) = true ∧ k (.dat d) ρ
  | .new es => (onlyC j xs || hards es) = true ∧ k (.cel ρ.ce.length) (ρ.add es)
  | .prt as1 es bs1 => onlyC j xs = true ∧ k (.tup (as1.map .dat ++ .cel ρ.ce.length :: bs1.map .dat)) (ρ.add es)
  | .reg X => onlyC j xs = true ∧ k (.cel ρ.ce.length) (ρ.addX X)
  | .ext _ _ => False
theorem AsL.lend {j : Nat} {xs ys : List AV} (h : AsL ρ j xs ys) (o : onlyC j xs = true) : ys = xs.map LK.lend := by
  induction h with
  | nil => rfl
  | dat _ ih => rw [ih o]; rfl
  | own _ ih => rw [onlyC, Bool.and_eq_true] at o; rw [ih o.2]; rfl
  | cel ne _ _ ih => rw [onlyC, Bool.and_eq_true] at o; exact absurd (of_decide_eq_true o.1) ne
/-- a call that draws from the state at j -/
theorem wspD {W : PW0} {E : L2.St → XK} {xs ys : List AV} {j : Nat} (hj : ρ.ce[j]? = some .drw) (ha : AsL ρ j xs ys) (hw : W ys [.drw] (fun r cs => cs = [.drw] ∧ aftD ρ j xs k r) (fun _ => False)) : WpSp K F (spG K W) E xs ρ k := by
  have es : ρ.cell j .drw = ρ := by
    obtain ⟨sl, ce⟩ := ρ
    show En.mk sl (ce.set j .drw) = ⟨sl, ce⟩
    have hl : j < ce.length := (List.getElem?_eq_some_iff.mp hj).1
    have he : ce[j] = .drw := (List.getElem?_eq_some_iff.mp hj).2
    rw [← he, List.set_getElem_self]
  cases o : onlyC j xs with
  | true =>
    refine wsp1P hj rfl o (by rw [← ha.lend o]; exact hw) ?_
    rintro r cs ⟨rfl, h⟩
    refine ⟨.drw, rfl, rfl, ?_⟩
    cases r with
    | dat d => rw [es]; exact h.2
    | prt _ _ _ => rw [es]; exact h.2
    | reg _ => rw [es]; exact h.2
    | ext _ _ => exact h.elim
    | new es2 => rw [es]; exact h.2
  | false =>
    refine wsp2P hj rfl (fun _ _ z => nomatch z) ha hw ?_
    rintro r cs ⟨rfl, h⟩
    refine ⟨rfl, ?_⟩
    cases r with
    | prt _ _ _ => exact absurd h.1 (by rw [o]; decide)
    | reg _ => exact absurd h.1 (by rw [o]; decide)
    | ext _ _ => exact h.elim
    | dat d =>
      obtain ⟨h1, h2⟩ := h
      rw [o, Bool.false_or] at h1
      rw [es]
      exact ⟨h1, h2⟩
    | new es2 =>
      obtain ⟨h1, h2⟩ := h
      rw [o, Bool.false_or] at h1
      rw [es]
      exact ⟨h1, h2⟩
end
theorem spG_len {K : PySem.W.Frag} {W : PW0} {vs : List V} {H : Hp} {Q : VK} {E : XK} {n : Nat} (h : spG K W vs H Q E) (hl : ∀ xs cs post exc, W xs cs post exc → xs.length = n) : vs.length = n := by
  obtain ⟨G, as, Ts, xs, cs, post, exc, _, _, _, rx, hw, _⟩ := h
  rw [rx.length]
  exact hl _ _ _ _ hw
/-! ### rules of the data layer: kinds, ==, comprehensions, errors -/
section
variable {K : PySem.W.Frag} {F : Fx} {ρ : En} {k : AV → En → Prop} {kb : Bool → En → Prop} {ks : KS} {t u : TS} {ta tb te : TE} {tt tu : TT}
/-- the built-in class of data -/
def tyD : D → Option String
  | .non => some "NoneType" | .bl _ => some "bool" | .int _ => some "int" | .str _ => some "str" | .tup _ => some "tuple" | .lst _ => some "list" | .scr _ => some "list" | .dic => some "dict" | _ => none
theorem SqL.ty {H : Hp} {a : Addr} {vs : List V} (h : SqL K H a vs) : TyX K H (.ref a) (.type "list") := by
  rcases h with (h | ⟨o, h⟩) | ⟨o, its, n, h1, h2, _⟩
  · exact .base (.lst h)
  · exact .base (.frz h)
  · exact .kList h1 h2
theorem SqT.ty {H : Hp} {a : Addr} {vs : List V} (h : SqT K H a vs) : TyX K H (.ref a) (.type "tuple") := by
  rcases h with (h | ⟨o, h⟩) | ⟨o, its, n, h1, h2, _⟩
  · exact .base (.tup h)
  · exact .fTuple h
  · exact .kTuple h1 h2
theorem tyD_rep {H G : Hp} {d : D} {v : V} {T : String} (gh : Same G H) (r : Rep K G d v) (h : tyD d = some T) : TyX K H v (.type T) := by
  cases d with
  | non => cases h; cases r; exact .base .non
  | bl b => cases h; cases r; exact .base (.bl b)
  | int i => cases h; cases r; exact .base (.int i)
  | str x => cases h; cases r; exact .base (.str x)
  | tup ds => cases h; obtain ⟨a, vs, rfl, hs, _⟩ := Rep.tupE r; exact SqT.ty (Same.seqT gh hs)
  | lst ds => cases h; obtain ⟨a, vs, rfl, hs, _⟩ := Rep.lstE r; exact SqL.ty (SqL.of (gh _ _ hs))
  | scr ds => cases h; obtain ⟨a, vs, rfl, hs, _⟩ := Rep.scrE r; exact SqL.ty (Same.seq gh hs)
  | obj C ns ds => cases h
  | dic => cases h; obtain ⟨a, kvs, rfl, hs⟩ := Rep.dicE r; exact .base (.dK (gh _ _ hs))
  | ty n => cases h
  | cls C => cases h
/-- isinstance by built-in classes -/
def isT (T : String) (d : D) : Bool := match tyD d with
  | some "int" => T == "int"
  | some "bool" => T == "int" || T == "bool"
  | some s => T == s
  | none => false
def isA (T : String) : AV → Bool
  | .dat d => isT T d
  | .cel _ => T == "list"
  | .tup _ => T == "tuple"
theorem wc_isiB {T s : String} {d : D} {b : Bool} (h1 : tyD d = some s) (h2 : kitB s T = some b) (hk : k (.dat (.bl b)) ρ) : WpC K F (rIsi K) [.dat d, .dat (.ty T)] ρ k := fun as σ H G vs e r Q q => by
  cases r with
  | cons r1 c =>
    cases c with
    | cons r2 c =>
      cases c
      cases (show Rep K G (.ty T) _ from r2)
      exact ⟨_, _, _, _, b, rfl, .ty _, tyD_rep e.gh r1 h1, kit_ty h2, q _ ρ _ as H G hk e .refl (Rep.bl _)⟩
theorem wc_isi {T : String} {d : D} (hT : T ∈ ["int", "bool", "str", "tuple", "list"]) (hd : (tyD d).isSome = true) (hk : k (.dat (.bl (isT T d))) ρ) : WpC K F (rIsi K) [.dat d, .dat (.ty T)] ρ k := by
  have go : ∀ s, tyD d = some s → kitB s T = some (isT T d) → WpC K F (rIsi K) [.dat d, .dat (.ty T)] ρ k := fun s h1 h2 => wc_isiB h1 h2 hk
  simp only [List.mem_cons, List.not_mem_nil, or_false] at hT
  cases d <;> first
    | (exact Bool.noConfusion (show false = true from hd))
    | (refine go _ rfl ?_; rcases hT with rfl | rfl | rfl | rfl | rfl <;> (simp only [isT, tyD]; decide +kernel))
theorem wc_isiC {T : String} {j : Nat} {ds : List D} (hT : T ∈ ["int", "bool", "str", "tuple", "list"]) (hc : ρ.ce[j]? = some (.lst ds)) (hk : k (.dat (.bl (T == "list"))) ρ) : WpC K F (rIsi K) [.cel j, .dat (.ty T)] ρ k := fun as σ H G vs e r Q q => by
  cases r with
  | cons r1 c =>
    cases c with
    | cons r2 c =>
      cases c
      cases (show Rep K G (.ty T) _ from r2)
      obtain ⟨a, ha, rfl⟩ := r1
      obtain ⟨_, _, _, ws, hw, _⟩ := e.ce j _ a hc ha
      have h2 : kitB "list" T = some (T == "list") := by
        simp only [List.mem_cons, List.not_mem_nil, or_false] at hT
        rcases hT with rfl | rfl | rfl | rfl | rfl <;> decide +kernel
      exact ⟨_, _, _, _, _, rfl, .ty _, .base (.lst hw), kit_ty h2, q _ ρ _ as H G hk e .refl (Rep.bl _)⟩
/-! == -/
mutual
def py : D → PyData
  | .non => .none
  | .bl b => .bool b
  | .int i => .int i
  | .str x => .str x
  | .tup ds => .tuple (pys ds)
  | .lst ds => .list (pys ds)
  | .scr ds => .list (pys ds)
  | .obj _ _ _ => .none
  | .dic => .none
  | .ty _ => .none
  | .cls _ => .none
def pys : List D → List PyData
  | [] => []
  | d :: ds => py d :: pys ds
end
mutual
/-- data of at most this depth that == may look at -/
def fine : Nat → D → Bool
  | _, .non => true
  | _, .bl _ => true
  | _, .int _ => true
  | _, .str x => PyData.strOk x
  | n + 1, .tup ds => fines n ds
  | n + 1, .lst ds => fines n ds
  | n + 1, .scr ds => fines n ds
  | _, _ => false
def fines : Nat → List D → Bool
  | _, [] => true
  | n, d :: ds => fine n d && fines n ds
end
mutual
theorem fine_dp {G : Hp} : ∀ (n : Nat) (d : D) (v : V), fine n d = true → Rep K G d v → Dp K G v (py d) ∧ PyData.canLay0 (py d) = true ∧ PyData.depth (py d) ≤ n
  | _, .non, _, _, r => by cases r; exact ⟨.non, rfl, by simp [py, PyData.depth]⟩
  | _, .bl _, _, _, r => by cases r; exact ⟨.bl _, rfl, by simp [py, PyData.depth]⟩
  | _, .int _, _, _, r => by cases r; exact ⟨.int _, rfl, by simp [py, PyData.depth]⟩
  | n, .str x, _, h, r => by
    cases r
    refine ⟨.str _, ?_, by simp [py, PyData.depth]⟩
    have h' : PyData.strOk x = true := by cases n <;> (rw [fine] at h; exact h)
    simp [py, PyData.canLay0, h']
  | n + 1, .tup ds, _, h, r => by
    cases r with
    | tup a b =>
      obtain ⟨x, y, z⟩ := fine_dps n ds _ (by rw [fine] at h; exact h) b
      exact ⟨.tup a x, by simp [py, PyData.canLay0, y], by simp [py, PyData.depth]; omega⟩
  | n + 1, .lst ds, _, h, r => by
    cases r with
    | lst a b =>
      obtain ⟨x, y, z⟩ := fine_dps n ds _ (by rw [fine] at h; exact h) b
      exact ⟨.lst (SqL.of a) x, by simp [py, PyData.canLay0, y], by simp [py, PyData.depth]; omega⟩
  | n + 1, .scr ds, _, h, r => by
    cases r with
    | scr a b =>
      obtain ⟨x, y, z⟩ := fine_dps n ds _ (by rw [fine] at h; exact h) b
      exact ⟨.lst a x, by simp [py, PyData.canLay0, y], by simp [py, PyData.depth]; omega⟩
  | 0, .tup ds, _, h, r => by simp [fine] at h
  | 0, .lst ds, _, h, r => by simp [fine] at h
  | 0, .scr ds, _, h, r => by simp [fine] at h
  | n, .obj _ _ _, _, h, r => by cases n <;> simp [fine] at h
  | n, .dic, _, h, r => by cases n <;> simp [fine] at h
  | n, .ty _, _, h, r => by cases n <;> simp [fine] at h
  | n, .cls _, _, h, r => by cases n <;> simp [fine] at h
theorem fine_dps {G : Hp} : ∀ (n : Nat) (ds : List D) (vs : List V), fines n ds = true → Reps K G ds vs → DpAll K G vs (pys ds) ∧ PyData.canLayAll0 (pys ds) = true ∧ PyData.depthAll (pys ds) ≤ n
  | _, [], _, _, r => by cases r; exact ⟨.nil, rfl, by simp [pys, PyData.depthAll]⟩
  | n, d :: ds, _, h, r => by
    cases r with
    | cons a b =>
      have h' : fine n d = true ∧ fines n ds = true := by cases n <;> (rw [fines, Bool.and_eq_true] at h; exact h)
      obtain ⟨x, y, z⟩ := fine_dp n d _ h'.1 a
      obtain ⟨x2, y2, z2⟩ := fine_dps n ds _ h'.2 b
      exact ⟨.cons x x2, by simp [pys, PyData.canLayAll0, y, y2], by simp [pys, PyData.depthAll]; omega⟩
end
def eqD (d e : D) : Bool := PyData.eqv (py d) (py e)
section
variable {as : List Addr} {σ : L2.St} {H G : Hp}
mutual
theorem OfT.rep (e : EnvOk K F ρ as σ H G) : ∀ (x : TN) (d : D) (v : V), OfT ρ x d → TNr K G as x v → Rep K H d v
  | .dat e0, d, v, h, r => by cases h; cases r with | dat r => exact Rep.mono e.gh _ _ r
  | .cel j, d, v, h, r => by
    cases h with
    | cel hc =>
      cases r with
      | cel ha =>
        obtain ⟨_, _, _, ws, hw, hr⟩ := e.ce _ _ _ hc ha
        exact .lst hw (Reps.mono e.gh _ _ hr)
  | .tup xs, d, v, h, r => by
    cases h with
    | tup h2 =>
      cases r with
      | tup s r2 => exact .tup (Same.seqT e.gh s) (OfTs.rep e xs _ _ h2 r2)
theorem OfTs.rep (e : EnvOk K F ρ as σ H G) : ∀ (xs : List TN) (ds : List D) (vs : List V), OfTs ρ xs ds → TNs K G as xs vs → Reps K H ds vs
  | [], _, _, h, r => by cases h; cases r; exact .nil
  | x :: xs, _, _, h, r => by
    cases h with
    | cons h1 h2 =>
      cases r with
      | cons r1 r2 => exact .cons (OfT.rep e x _ _ h1 r1) (OfTs.rep e xs _ _ h2 r2)
end
end
/-- data of a value: a cell is its list -/
inductive OfD (ρ : En) : AV → D → Prop
  | dat (d : D) : OfD ρ (.dat d) d
  | cel {j : Nat} {ds : List D} : ρ.ce[j]? = some (.lst ds) → OfD ρ (.cel j) (.lst ds)
theorem OfD.dp {as : List Addr} {σ : L2.St} {H G : Hp} {x : AV} {d : D} {v : V} {n : Nat} (e : EnvOk K F ρ as σ H G) (h : OfD ρ x d) (r : RepA K G as x v) (hf : fine n d = true) (hn : n ≤ 64) : Dp K H v (py d) ∧ SeqAt.shaped (py d) = true := by
  have rr : Rep K H d v := by
    cases h with
    | dat => exact Rep.mono e.gh _ _ r
    | cel hc =>
      obtain ⟨a, ha, rfl⟩ := r
      obtain ⟨_, _, _, ws, hw, hr⟩ := e.ce _ _ a hc ha
      exact .lst hw (Reps.mono e.gh _ _ hr)
  obtain ⟨x, y, z⟩ := fine_dp n d v hf rr
  refine ⟨x, ?_⟩
  unfold SeqAt.shaped
  rw [y, decide_eq_true (by omega : PyData.depth (py d) ≤ 64)]
  rfl
theorem wr_eqD {x y : AV} {d e : D} (n : Nat) (hx : OfD ρ x d) (hy : OfD ρ y e) (h1 : fine n d = true) (h2 : fine n e = true) (hn : n ≤ 64) (hk : k (.dat (.bl (eqD d e))) ρ) : WpR K F (rEqD K) x y ρ k := fun as σ H G vx vy en r1 r2 Q q => by
  obtain ⟨a, b⟩ := hx.dp en r1 h1 hn
  obtain ⟨a2, b2⟩ := hy.dp en r2 h2 hn
  exact ⟨_, _, a, a2, b, b2, q _ ρ _ as H G hk en .refl (Rep.bl _)⟩
theorem wr_neD {x y : AV} {d e : D} (n : Nat) (hx : OfD ρ x d) (hy : OfD ρ y e) (h1 : fine n d = true) (h2 : fine n e = true) (hn : n ≤ 64) (hk : k (.dat (.bl (!eqD d e))) ρ) : WpR K F (rNeD K) x y ρ k := fun as σ H G vx vy en r1 r2 Q q => by
  obtain ⟨a, b⟩ := hx.dp en r1 h1 hn
  obtain ⟨a2, b2⟩ := hy.dp en r2 h2 hn
  exact ⟨_, _, a, a2, b, b2, q _ ρ _ as H G hk en .refl (Rep.bl _)⟩
/-- .. also of a tuple that holds cells -/
inductive OfX (ρ : En) : AV → D → Prop
  | of {x : AV} {d : D} : OfD ρ x d → OfX ρ x d
  | tup {xs : List TN} {ds : List D} : OfTs ρ xs ds → OfX ρ (.tup xs) (.tup ds)
theorem OfX.dp {as : List Addr} {σ : L2.St} {H G : Hp} {x : AV} {d : D} {v : V} {n : Nat} (e : EnvOk K F ρ as σ H G) (h : OfX ρ x d) (r : RepA K G as x v) (hf : fine n d = true) (hn : n ≤ 64) : Dp K H v (py d) ∧ SeqAt.shaped (py d) = true := by
  cases h with
  | of h => exact h.dp e r hf hn
  | tup ht =>
    obtain ⟨a, ws, rfl, s, rs⟩ := r
    obtain ⟨x, y, z⟩ := fine_dp n _ _ hf (Rep.tup (Same.seqT e.gh s) (OfTs.rep e _ _ _ ht rs))
    refine ⟨x, ?_⟩
    unfold SeqAt.shaped
    rw [y, decide_eq_true (by omega)]
    rfl
theorem wr_eqX {x y : AV} {d e : D} (n : Nat) (hx : OfX ρ x d) (hy : OfX ρ y e) (h1 : fine n d = true) (h2 : fine n e = true) (hn : n ≤ 64) (hk : k (.dat (.bl (eqD d e))) ρ) : WpR K F (rEqD K) x y ρ k := fun as σ H G vx vy en r1 r2 Q q => by
  obtain ⟨a, b⟩ := hx.dp en r1 h1 hn
  obtain ⟨a2, b2⟩ := hy.dp en r2 h2 hn
  exact ⟨_, _, a, a2, b, b2, q _ ρ _ as H G hk en .refl (Rep.bl _)⟩
theorem wr_neX {x y : AV} {d e : D} (n : Nat) (hx : OfX ρ x d) (hy : OfX ρ y e) (h1 : fine n d = true) (h2 : fine n e = true) (hn : n ≤ 64) (hk : k (.dat (.bl (!eqD d e))) ρ) : WpR K F (rNeD K) x y ρ k := fun as σ H G vx vy en r1 r2 Q q => by
  obtain ⟨a, b⟩ := hx.dp en r1 h1 hn
  obtain ⟨a2, b2⟩ := hy.dp en r2 h2 hn
  exact ⟨_, _, a, a2, b, b2, q _ ρ _ as H G hk en .refl (Rep.bl _)⟩
/-! == without truths in it is being alike -/
mutual
def noB : D → Bool
  | .bl _ => false
  | .tup ds => noBs ds
  | .lst ds => noBs ds
  | .scr _ => false
  | .obj _ _ _ => false
  | .dic => false
  | .ty _ => false
  | .cls _ => false
  | _ => true
def noBs : List D → Bool
  | [] => true
  | d :: ds => noB d && noBs ds
end
mutual
theorem eqD_iff : ∀ (d e : D), noB d = true → noB e = true → (eqD d e = true ↔ d = e)
  | .non, e, _, h => by cases e <;> simp [eqD, py, PyData.eqv, noB] at h ⊢
  | .int i, e, _, h => by cases e <;> simp [eqD, py, PyData.eqv, noB] at h ⊢
  | .str i, e, _, h => by cases e <;> simp [eqD, py, PyData.eqv, noB] at h ⊢
  | .bl _, _, h, _ => by simp [noB] at h
  | .obj _ _ _, _, h, _ => by simp [noB] at h
  | .scr _, _, h, _ => by simp [noB] at h
  | .dic, _, h, _ => by simp [noB] at h
  | .ty _, _, h, _ => by simp [noB] at h
  | .cls _, _, h, _ => by simp [noB] at h
  | .tup ds, e, h, h2 => by
    cases e with
    | tup es =>
      have := eqDs_iff ds es (by rw [noB] at h; exact h) (by rw [noB] at h2; exact h2)
      simp only [eqD, py, PyData.eqv, D.tup.injEq]
      exact this
    | _ => simp [eqD, py, PyData.eqv, noB] at h2 ⊢
  | .lst ds, e, h, h2 => by
    cases e with
    | lst es =>
      have := eqDs_iff ds es (by rw [noB] at h; exact h) (by rw [noB] at h2; exact h2)
      simp only [eqD, py, PyData.eqv, D.lst.injEq]
      exact this
    | _ => simp [eqD, py, PyData.eqv, noB] at h2 ⊢
theorem eqDs_iff : ∀ (ds es : List D), noBs ds = true → noBs es = true → (PyData.eqvAll (pys ds) (pys es) = true ↔ ds = es)
  | [], es, _, _ => by cases es <;> simp [pys, PyData.eqvAll]
  | d :: ds, [], _, _ => by simp [pys, PyData.eqvAll]
  | d :: ds, e :: es, h, h2 => by
    rw [noBs, Bool.and_eq_true] at h h2
    have a := eqD_iff d e h.1 h2.1
    have b := eqDs_iff ds es h.2 h2.2
    simp only [pys, PyData.eqvAll, Bool.and_eq_true, List.cons.injEq]
    unfold eqD at a
    rw [a, b]
end
/-! comprehensions -/
def wipeA (sl : List (Option AV)) : List Nat → List (Option AV)
  | [] => sl
  | v :: vs => (wipeA sl vs).set v none
def En.wipe (ρ : En) (vs : List Nat) : En := ⟨wipeA ρ.sl vs, ρ.ce⟩
theorem wipeA_len (sl : List (Option AV)) : ∀ vs, (wipeA sl vs).length = sl.length
  | [] => rfl
  | v :: vs => by rw [wipeA, List.length_set, wipeA_len sl vs]
theorem wipeA_get (sl : List (Option AV)) {i : Nat} {x : AV} : ∀ vs, (wipeA sl vs)[i]? = some (some x) → i ∉ vs ∧ sl[i]? = some (some x)
  | [], h => ⟨by simp, h⟩
  | v :: vs, h => by
    rw [wipeA] at h
    by_cases q : v = i
    · subst q
      rw [List.getElem?_set] at h
      simp at h
    · rw [List.getElem?_set_ne q] at h
      obtain ⟨a, b⟩ := wipeA_get sl vs h
      exact ⟨by simp only [List.mem_cons, not_or]; exact ⟨fun z => q z.symm, a⟩, b⟩
theorem wipe_get (σ : L2.St) {i : Nat} : ∀ {vs : List Nat}, i ∉ vs → (wipe σ vs)[i]? = σ[i]?
  | [], _ => rfl
  | v :: vs, h => by
    simp only [List.mem_cons, not_or] at h
    show ((wipe σ vs).set v none)[i]? = σ[i]?
    rw [List.getElem?_set_ne (fun z => h.1 z.symm), wipe_get σ h.2]
theorem EnvOk.wipe {as : List Addr} {σ σ2 : L2.St} {H G : Hp} {vs : List Nat} (e : EnvOk K F ρ as σ H G) (h : L2.wipe σ2 vs = L2.wipe σ vs) : EnvOk K F (ρ.wipe vs) as σ2 H G := by
  refine ⟨e.gh, e.fh, e.fg, e.g0, e.nd, e.pr, e.ln, e.ce, ?_, fun i x hi => ?_, e.rg⟩
  · show σ2.length = (wipeA ρ.sl vs).length
    rw [wipeA_len, ← e.sn, ← wipe_length σ2 vs, h, wipe_length]
  · obtain ⟨a, b⟩ := wipeA_get ρ.sl vs hi
    obtain ⟨v, hv, r⟩ := e.sl i x b
    exact ⟨v, by rw [← wipe_get σ2 a, h, wipe_get σ a]; exact hv, r⟩
/-- a target that writes to these slots alone -/
def Only (g : TG) (vs : List Nat) : Prop := ∀ x σ H (Q Q2 : L2.St → Hp → Prop), (∀ σ' H', Q σ' H' → L2.wipe σ' vs = L2.wipe σ vs → Q2 σ' H') → g x σ H Q → g x σ H Q2
def OnlyS (g : TGs) (vs : List Nat) : Prop := ∀ x σ H (Q Q2 : L2.St → Hp → Prop), (∀ σ' H', Q σ' H' → L2.wipe σ' vs = L2.wipe σ vs → Q2 σ' H') → g x σ H Q → g x σ H Q2
theorem wipe_set (σ : L2.St) {i : Nat} {x : Option V} : ∀ {vs : List Nat}, i ∈ vs → L2.wipe (σ.set i x) vs = L2.wipe σ vs
  | v :: vs, h => by
    show (L2.wipe (σ.set i x) vs).set v none = (L2.wipe σ vs).set v none
    by_cases q : i ∈ vs
    · rw [wipe_set σ q]
    · have e : i = v := by rcases List.mem_cons.mp h with z | z; exact z; exact absurd z q
      subst e
      refine List.ext_getElem? fun j => ?_
      by_cases z : i = j
      · subst z; rw [List.getElem?_set, List.getElem?_set]; simp [wipe_length]
      · rw [List.getElem?_set_ne z, List.getElem?_set_ne z]
        by_cases y : j ∈ vs
        · have zero : ∀ (τ : L2.St) (ws : List Nat), j ∈ ws → (L2.wipe τ ws)[j]? = if j < τ.length then some none else none := by
            intro τ ws
            induction ws with
            | nil => intro m; cases m
            | cons w ws ih =>
              intro m
              show ((L2.wipe τ ws).set w none)[j]? = _
              by_cases b : w = j
              · subst b; rw [List.getElem?_set]; simp [wipe_length]
              · rw [List.getElem?_set_ne b]
                exact ih (by rcases List.mem_cons.mp m with c | c; exact absurd c.symm b; exact c)
          rw [zero _ _ y, zero _ _ y, List.length_set]
        · rw [wipe_get _ y, wipe_get _ y, List.getElem?_set_ne z]
theorem only_name {i : Nat} {vs : List Nat} (h : i ∈ vs) : Only (gName i) vs := fun x σ H Q Q2 i q => i _ _ q (wipe_set σ h)
theorem onlys_nil {vs : List Nat} : OnlyS gNil vs := fun x σ H Q Q2 i ⟨e, q⟩ => ⟨e, i _ _ q rfl⟩
theorem onlys_cons {i : Nat} {gs : TGs} {vs : List Nat} (h : i ∈ vs) (h2 : OnlyS gs vs) : OnlyS (gCons (gName i) gs) vs := fun x σ H Q Q2 im ⟨v, r, e, q⟩ => by
  subst e
  exact ⟨v, r, rfl, h2 r (σ.set i (some v)) H Q Q2 (fun σ' H' a b => im σ' H' a (by rw [b, wipe_set σ h])) q⟩
theorem only_tup {n : Nat} {gs : TGs} {vs : List Nat} (h2 : OnlyS gs vs) : Only (gTup K n gs) vs := fun x σ H Q Q2 im ⟨a, xs, e, s, l, q⟩ => ⟨a, xs, e, s, l, h2 xs σ H Q Q2 im q⟩
/-- the turns of a comprehension: n the cell of what is made -/
def LoopC (K : PySem.W.Frag) (F : Fx) (gd : En → Prop) (g : TG) (tt : TT) (te : TE) (vs : List Nat) (n : Nat) (k : AV → En → Prop) : List D → En → Prop
  | [], ρ => gd ρ ∧ k (.cel n) ρ
  | d :: ds, ρ => gd ρ ∧ WpG K F g (.dat d) ρ fun ρ1 => WpT K F tt ρ1 fun b ρ2 => if b = true then WpE K F te ρ2 fun y ρ3 => ∃ e ρ4 acc, Frz [y] ρ3 [e] ρ4 ∧ ρ4.ce[n]? = some (.lst acc) ∧ acc.length < 16000000 ∧ ∃ ρ5, Tr (n + 1) ((ρ4.cell n (.lst (acc ++ [e]))).wipe vs) ρ5 ∧ LoopC K F gd g tt te vs n k ds ρ5
      else ∃ ρ5, Tr (n + 1) (ρ2.wipe vs) ρ5 ∧ LoopC K F gd g tt te vs n k ds ρ5
theorem LoopC.gd {gd : En → Prop} {g : TG} {vs : List Nat} {n : Nat} : ∀ {ds : List D} {ρ : En}, LoopC K F gd g tt te vs n k ds ρ → gd ρ
  | [], _, h => h.1
  | _ :: _, _, h => h.1
theorem wipe_wipe (σ : L2.St) (vs : List Nat) : L2.wipe (L2.wipe σ vs) vs = L2.wipe σ vs := by
  refine List.ext_getElem? fun j => ?_
  by_cases y : j ∈ vs
  · have zero : ∀ (τ : L2.St) (ws : List Nat), j ∈ ws → (L2.wipe τ ws)[j]? = if j < τ.length then some none else none := by
      intro τ ws
      induction ws with
      | nil => intro m; cases m
      | cons w ws ih =>
        intro m
        show ((L2.wipe τ ws).set w none)[j]? = _
        by_cases b : w = j
        · subst b; rw [List.getElem?_set]; simp [wipe_length]
        · rw [List.getElem?_set_ne b]
          exact ih (by rcases List.mem_cons.mp m with c | c; exact absurd c.symm b; exact c)
    rw [zero _ _ y, zero _ _ y, wipe_length]
  · rw [wipe_get _ y]
theorem Tr.run2 {n : Nat} {ρ' : En} {as as0 : List Addr} {σ σ2 : L2.St} {H G G0 : Hp} (t : Tr n ρ ρ') (e : EnvOk K F ρ as σ H G) (e2 : EnvOk K F ρ as σ2 H G) (g : Gr G0 as0 G as) (h : as0.length ≤ n) (h0 : F.as0.length ≤ n) : ∃ as', EnvOk K F ρ' as' σ H G ∧ EnvOk K F ρ' as' σ2 H G ∧ Gr G0 as0 G as' := by
  cases t with
  | all => exact ⟨as, e, e2, g⟩
  | cut => exact ⟨_, e.trunc n h0, e2.trunc n h0, g.trunc h⟩
  | keep j h1 h2 => exact ⟨_, e.keep h0 h1 h2, e2.keep h0 h1 h2, g.keep h⟩
  | drop j h1 h2 => exact ⟨_, e.drp h0 h1 h2, e2.drp h0 h1 h2, g.keep h⟩
theorem we_lc {wi : TI} {g : TG} {vs : List Nat} (ho : Only g vs) (h : WpI K F wi ρ fun ds gd ρ1 => LoopC K F gd g tt te vs ρ1.ce.length k ds ((ρ1.add []).wipe vs)) : WpE K F (tLc wi g tt te vs) ρ k := fun as σ H G e Q q =>
  h as σ H G e _ fun ds gd J ρ1 as1 H1 G1 h1 e1 g1 its => by
    intro p hp
    obtain ⟨e2, g2⟩ := e1.newC (ds := []) (vs := []) hp .nil
    have pn : as1.length = ρ1.ce.length := e1.ln
    have pn0 : F.as0.length ≤ ρ1.ce.length + 1 := by have := e1.pr.length_le; omega
    have pn2 : (as1 ++ [p]).length ≤ ρ1.ce.length + 1 := by rw [List.length_append, pn]; exact Nat.le_refl _
    refine ⟨fun i m H' => m = ds.length - i ∧ i ≤ ds.length ∧ ∃ ρ2 as2 G2, EnvOk K F ρ2 as2 σ H' G2 ∧ EnvOk K F ρ2 as2 (L2.wipe σ vs) H' G2 ∧ Gr G1 (as1 ++ [p]) G2 as2 ∧ LoopC K F gd g tt te vs ρ1.ce.length k (ds.drop i) ρ2, ⟨_, rfl, Nat.zero_le _, _, _, _, e2.wipe rfl, e2.wipe (wipe_wipe σ vs), .refl, h1⟩, ?_⟩
    rintro i m H' ⟨rfl, hi, ρ2, as2, G2, e3, e3w, g3, lp⟩
    have g13 : Gr G1 as1 G2 as2 := g2.trans g3
    obtain ⟨go, st, yl⟩ := its ρ2 as2 (L2.wipe σ vs) H' G2 e3w g13 lp.gd
    have hat : as2[ρ1.ce.length]? = some p := by
      obtain ⟨_, r, rfl⟩ := g3
      rw [List.append_assoc, List.getElem?_append_right (by omega), pn]
      simp
    by_cases hlt : i < ds.length
    · obtain ⟨d, hd⟩ : ∃ d, ds[i]? = some d := ⟨_, List.getElem?_eq_getElem hlt⟩
      have ed : ds.drop i = d :: ds.drop (i + 1) := by
        rw [List.drop_eq_getElem_cons hlt]
        rw [List.getElem?_eq_getElem hlt] at hd
        cases hd
        rfl
      rw [ed] at lp
      refine .inr ⟨go i hlt, fun H3 => ∃ ρ3 as3 G3, EnvOk K F ρ3 as3 σ H3 G3 ∧ EnvOk K F ρ3 as3 (L2.wipe σ vs) H3 G3 ∧ Gr G1 (as1 ++ [p]) G3 as3 ∧ LoopC K F gd g tt te vs ρ1.ce.length k (ds.drop (i + 1)) ρ3, fun H3 ⟨ρ3, as3, G3, e3, e3w, g3, l3⟩ => ⟨_, by omega, rfl, hlt, ρ3, as3, G3, e3, e3w, g3, l3⟩, fun x H3 y => ?_⟩
      obtain ⟨d', G3, hd', e4, g4, rx⟩ := yl i x H3 hlt y
      rw [hd] at hd'
      cases hd'
      have main := lp.2 as2 (L2.wipe σ vs) H3 G3 x (e4 _ e3w) rx
        (fun σ2 H2 => (∃ ρ4 as4 G4, (WpT K F tt ρ4 fun b ρ2 => if b = true then WpE K F te ρ2 fun y ρ3 => ∃ e ρ4 acc, Frz [y] ρ3 [e] ρ4 ∧ ρ4.ce[ρ1.ce.length]? = some (.lst acc) ∧ acc.length < 16000000 ∧ ∃ ρ5, Tr (ρ1.ce.length + 1) ((ρ4.cell ρ1.ce.length (.lst (acc ++ [e]))).wipe vs) ρ5 ∧ LoopC K F gd g tt te vs ρ1.ce.length k (ds.drop (i + 1)) ρ5
      else ∃ ρ5, Tr (ρ1.ce.length + 1) (ρ2.wipe vs) ρ5 ∧ LoopC K F gd g tt te vs ρ1.ce.length k (ds.drop (i + 1)) ρ5) ∧ EnvOk K F ρ4 as4 σ2 H2 G4 ∧ Gr G3 as2 G4 as4)) (fun ρ4 as4 σ4 H4 G4 h4 e5 g5 => ⟨ρ4, as4, G4, h4, e5, g5⟩)
      refine ho x _ _ _ _ ?_ main
      rintro σ2 H4 ⟨ρ4, as4, G4, h4, e5, g5⟩ ew
      rw [wipe_wipe] at ew
      refine ⟨ew, h4 as4 σ2 H4 G4 e5 _ fun b ρ5 as5 H5 G5 h5 e6 g6 => ?_⟩
      have gg : Gr G1 (as1 ++ [p]) G5 as5 := g3.trans (g4.trans (g5.trans g6))
      cases b with
      | false =>
        obtain ⟨ρ7, tr, lp2⟩ := (show ∃ ρ5', Tr (ρ1.ce.length + 1) (ρ5.wipe vs) ρ5' ∧ _ from h5)
        obtain ⟨as7, x1, x2, x3⟩ := tr.run2 (e6.wipe ew.symm) (show EnvOk K F _ _ (L2.wipe σ vs) _ _ from e6.wipe (by rw [wipe_wipe, ew])) gg pn2 pn0
        exact ⟨ρ7, as7, G5, x1, x2, x3, lp2⟩
      | true =>
        refine (show WpE K F te ρ5 _ from h5) as5 σ2 H5 G5 e6 _ ?_
        rintro y ρ6 v as6 H6 G6 ⟨e', ρ7, acc, fz, hc, hl, ρ8, tr, lp2⟩ e7 g7 r7
        obtain ⟨G7, e8, g8, r8⟩ := fz.run e7 (.cons r7 .nil)
        have hat6 : as6[ρ1.ce.length]? = some p := by
          obtain ⟨_, r, rfl⟩ := g4.trans (g5.trans (g6.trans g7))
          rw [List.getElem?_append_left (List.getElem?_eq_some_iff.mp hat).1]
          exact hat
        obtain ⟨_, _, gn, ws, hw, hr⟩ := e8.ce _ _ p hc hat6
        cases r8 with
        | cons ra rb =>
          cases rb
          have e9 := e8.setC (c' := .lst (acc ++ [e'])) hc hat6 gn ⟨gn, _, upd_same, hr.append (.cons ra .nil)⟩
          obtain ⟨as7, x1, x2, x3⟩ := tr.run2 (e9.wipe ew.symm) (show EnvOk K F _ _ (L2.wipe σ vs) _ _ from e9.wipe (by rw [wipe_wipe, ew])) (gg.trans (g7.trans g8)) pn2 pn0
          exact ⟨ws, hw, szbl (by rw [hr.length]; omega), ρ8, as7, G7, x1, x2, x3, lp2⟩
    · have ei : i = ds.length := by omega
      subst ei
      rw [List.drop_length] at lp
      exact .inl ⟨st, q _ _ _ _ _ _ lp.2 e3 (g1.trans g13) ⟨p, hat, rfl⟩⟩
/-! errors -/
theorem ws_exc (h : ∀ as σ H G D, EnvOk K F ρ as σ H G → t D σ H) : WpS K F t ρ ks := fun as σ H G e D _ => h as σ H G D e
end
theorem frz_in {xs ds : List _} {ρ ρ2 : En} {P : List D → En → Prop} (h0 : Frz xs ρ ds ρ2) (h1 : Nat.ble ds.length 1000 = true) (h2 : P ds ρ2) : ∃ ds ρ2, Frz xs ρ ds ρ2 ∧ Nat.ble ds.length 1000 = true ∧ P ds ρ2 := ⟨ds, ρ2, h0, h1, h2⟩
theorem il_in {x : AV} {ds : List D} {ρ : En} {P : List D → Prop} (h0 : IsL ρ x ds) (h2 : P ds) : ∃ ds, IsL ρ x ds ∧ P ds := ⟨ds, h0, h2⟩
theorem lc_in {y : AV} {e : D} {ρ ρ4 : En} {n : Nat} {acc : List D} {P : D → En → List D → Prop} (h0 : Frz [y] ρ [e] ρ4) (h1 : ρ4.ce[n]? = some (.lst acc)) (h2 : acc.length < 16000000) (h3 : P e ρ4 acc) : ∃ e ρ4 acc, Frz [y] ρ [e] ρ4 ∧ ρ4.ce[n]? = some (.lst acc) ∧ acc.length < 16000000 ∧ P e ρ4 acc := ⟨e, ρ4, acc, h0, h1, h2, h3⟩
theorem wgs_nilM {K : PySem.W.Frag} {F : Fx} {ρ : En} {kn : En → Prop} (h : kn ρ) : WpGs K F gNil (List.map AV.dat []) ρ kn := wgs_nil h
theorem wgs_consM {K : PySem.W.Frag} {F : Fx} {ρ : En} {g : TG} {gs : TGs} {d : D} {ds : List D} {kn : En → Prop} (h : WpG K F g (.dat d) ρ fun ρ1 => WpGs K F gs (ds.map .dat) ρ1 kn) : WpGs K F (gCons g gs) ((d :: ds).map .dat) ρ kn := wgs_cons h
section
variable {K : PySem.W.Frag} {F : Fx} {ρ : En} {k : AV → En → Prop} {ks ks' : KS} {t : TS} {te : TE} {tt : TT}
theorem WpS.imp (h : WpS K F t ρ ks) (h1 : ∀ ρ, ks.nx ρ → ks'.nx ρ) (h2 : ∀ x ρ, ks.rt x ρ → ks'.rt x ρ) (h3 : ∀ ρ, ks.bk ρ → ks'.bk ρ) (h4 : ∀ ρ, ks.ct ρ → ks'.ct ρ) : WpS K F t ρ ks' := fun as σ H G e D q =>
  h as σ H G e D ⟨fun ρ as' σ H G' a b c => q.nx ρ as' σ H G' (h1 _ a) b c, fun av ρ v as' σ H G' a b c d => q.rt av ρ v as' σ H G' (h2 _ _ a) b c d, fun ρ as' σ H G' a b c => q.bk ρ as' σ H G' (h3 _ a) b c, fun ρ as' σ H G' a b c => q.ct ρ as' σ H G' (h4 _ a) b c, q.fr⟩
theorem WpG.imp {g : TG} {x : AV} {kn kn' : En → Prop} (h : WpG K F g x ρ kn) (i : ∀ ρ, kn ρ → kn' ρ) : WpG K F g x ρ kn' := fun as σ H G v e r Q q => h as σ H G v e r Q fun ρ' as' σ' H' G' a b c => q ρ' as' σ' H' G' (i _ a) b c
theorem WpT.imp {kb kb' : Bool → En → Prop} (h : WpT K F tt ρ kb) (i : ∀ b ρ, kb b ρ → kb' b ρ) : WpT K F tt ρ kb' := fun as σ H G e Q q => h as σ H G e Q fun b ρ' as' H' G' a c d => q b ρ' as' H' G' (i _ _ a) c d
/-- what holds at a turn's end -/
inductive Now (p : Prop) : Prop
  | one (h : p)
  | two (h : p)
theorem now {p : Prop} (h : p) : Now p := .one h
theorem Now.out {p : Prop} (h : Now p) : p := by cases h <;> assumption
theorem loop_by {n : Nat} {gd : En → Prop} {g : TG} {tb : TS} {ds : List D} (I : List D → En → Prop) (h0 : I ds ρ) (hn : ∀ ρ, I [] ρ → gd ρ ∧ ks.nx ρ)
    (hs : ∀ d ds ρ, I (d :: ds) ρ → gd ρ ∧ WpG K F g (.dat d) ρ fun ρ1 => WpS K F tb ρ1 { nx := fun ρ2 => Now (I ds ρ2), rt := ks.rt, ct := fun ρ2 => Now (I ds ρ2), bk := ks.nx }) : Loop K F n gd g tb ks ds ρ := by
  induction ds generalizing ρ with
  | nil => exact hn ρ h0
  | cons d ds ih =>
    obtain ⟨a, b⟩ := hs d ds ρ h0
    exact ⟨a, b.imp fun ρ1 h1 => h1.imp (fun ρ2 h2 => ⟨ρ2, .all, ih h2.out⟩) (fun _ _ z => z) (fun _ z => z) (fun ρ2 h2 => ⟨ρ2, .all, ih h2.out⟩)⟩
/-- .. each turn's own cells forgotten -/
theorem loop_cut {n : Nat} {gd : En → Prop} {g : TG} {tb : TS} {ds : List D} (I : List D → En → Prop) (h0 : I ds ρ) (hn : ∀ ρ, I [] ρ → gd ρ ∧ ks.nx ρ)
    (hs : ∀ d ds ρ, I (d :: ds) ρ → gd ρ ∧ WpG K F g (.dat d) ρ fun ρ1 => WpS K F tb ρ1 { nx := fun ρ2 => Now (I ds (ρ2.trunc n)), rt := ks.rt, ct := fun ρ2 => Now (I ds (ρ2.trunc n)), bk := ks.nx }) : Loop K F n gd g tb ks ds ρ := by
  induction ds generalizing ρ with
  | nil => exact hn ρ h0
  | cons d ds ih =>
    obtain ⟨a, b⟩ := hs d ds ρ h0
    exact ⟨a, b.imp fun ρ1 h1 => h1.imp (fun ρ2 h2 => ⟨_, .cut, ih h2.out⟩) (fun _ _ z => z) (fun _ z => z) (fun ρ2 h2 => ⟨_, .cut, ih h2.out⟩)⟩
/-- .. each turn's end as one likes -/
theorem loop_any {n : Nat} {gd : En → Prop} {g : TG} {tb : TS} {ds : List D} (I : List D → En → Prop) (h0 : I ds ρ) (hn : ∀ ρ, I [] ρ → gd ρ ∧ ks.nx ρ)
    (hs : ∀ d ds ρ, I (d :: ds) ρ → gd ρ ∧ WpG K F g (.dat d) ρ fun ρ1 => WpS K F tb ρ1 { nx := fun ρ2 => Now (∃ ρ3, Tr n ρ2 ρ3 ∧ I ds ρ3), rt := ks.rt, ct := fun ρ2 => Now (∃ ρ3, Tr n ρ2 ρ3 ∧ I ds ρ3), bk := ks.nx }) : Loop K F n gd g tb ks ds ρ := by
  induction ds generalizing ρ with
  | nil => exact hn ρ h0
  | cons d ds ih =>
    obtain ⟨a, b⟩ := hs d ds ρ h0
    exact ⟨a, b.imp fun ρ1 h1 => h1.imp (fun ρ2 h2 => let ⟨ρ3, t, i⟩ := h2.out; ⟨ρ3, t, ih i⟩) (fun _ _ z => z) (fun _ z => z) (fun ρ2 h2 => let ⟨ρ3, t, i⟩ := h2.out; ⟨ρ3, t, ih i⟩)⟩
theorem loopC_by {gd : En → Prop} {g : TG} {vs : List Nat} {n : Nat} {ds : List D} (I : List D → En → Prop) (h0 : I ds ρ) (hn : ∀ ρ, I [] ρ → gd ρ ∧ k (.cel n) ρ)
    (hs : ∀ d ds ρ, I (d :: ds) ρ → gd ρ ∧ WpG K F g (.dat d) ρ fun ρ1 => WpT K F tt ρ1 fun b ρ2 => if b = true then WpE K F te ρ2 fun y ρ3 => ∃ e ρ4 acc, Frz [y] ρ3 [e] ρ4 ∧ ρ4.ce[n]? = some (.lst acc) ∧ acc.length < 16000000 ∧ Now (I ds (((ρ4.cell n (.lst (acc ++ [e]))).wipe vs).trunc (n + 1)))
      else Now (I ds ((ρ2.wipe vs).trunc (n + 1)))) : LoopC K F gd g tt te vs n k ds ρ := by
  induction ds generalizing ρ with
  | nil => exact hn ρ h0
  | cons d ds ih =>
    obtain ⟨a, b⟩ := hs d ds ρ h0
    refine ⟨a, b.imp fun ρ1 h1 => h1.imp fun b ρ2 h2 => ?_⟩
    cases b with
    | true => exact WpE.imp h2 fun y ρ3 ⟨e, ρ4, acc, x1, x2, x3, x4⟩ => ⟨e, ρ4, acc, x1, x2, x3, _, .cut, ih x4.out⟩
    | false => exact ⟨_, .cut, ih (show Now _ from h2).out⟩
end
section
variable {K : PySem.W.Frag} {F : Fx} {ρ : En} {k : AV → En → Prop}
/-- an item at a drawn place -/
theorem wr_ixA {x : AV} {ds : List D} {i : Int} (hx : IsL ρ x ds) (h0 : 0 ≤ i) (h1 : i < ds.length) (hk : ∀ d ∈ ds, k (.dat d) ρ) : WpR K F (rIxL K) x (.dat (.int i)) ρ k := by
  have hl : i.toNat < ds.length := by omega
  have e : ((i.toNat : Nat) : Int) = i := by omega
  have ha := atI_nat (xs := ds) (j := i.toNat) (v := ds[i.toNat]) (List.getElem?_eq_getElem hl)
  rw [e] at ha
  exact wr_ixL hx ha (hk _ (List.getElem_mem hl))
/-- a list of one number is a state to draw from -/
theorem EnvOk.drw {as : List Addr} {σ : L2.St} {H G : Hp} {j : Nat} {n : Int} (e : EnvOk K F ρ as σ H G) (hj : ρ.ce[j]? = some (.lst [.int n])) : EnvOk K F (ρ.cell j .drw) as σ H G := by
  have hl : j < ρ.ce.length := (List.getElem?_eq_some_iff.mp hj).1
  refine ⟨e.gh, e.fh, e.fg, e.g0, e.nd, e.pr, by rw [e.ln]; exact (List.length_set).symm, fun i c a hc ha => ?_, e.sn, e.sl, by
    obtain ⟨Ts, r⟩ := e.rg
    exact r.setC (List.getElem?_eq_getElem (by rw [e.ln]; exact hl)) (fun _ _ z => nomatch z) (fun _ _ _ h => h) (fun _ _ _ _ g => g) (Same.refl _)⟩
  have hc' : (ρ.ce.set j .drw)[i]? = some c := hc
  by_cases hij : j = i
  · subst hij
    rw [List.getElem?_set_self hl] at hc'
    cases hc'
    obtain ⟨fa, ho, g, ws, hw, hr⟩ := e.ce j _ a hj ha
    refine ⟨fa, ho, g, ws, hw, ?_⟩
    cases hr with
    | cons x y => cases y; cases x; exact .inl ⟨_, rfl⟩
  · rw [List.getElem?_set_ne hij] at hc'
    exact e.ce i c a hc' ha
theorem wsp_drw {sp : Sp} {E : L2.St → XK} {xs : List AV} {j : Nat} {n : Int} (hj : ρ.ce[j]? = some (.lst [.int n])) (h : WpSp K F sp E xs (ρ.cell j .drw) k) : WpSp K F sp E xs ρ k := fun as σ H G vs e r Q q =>
  h as σ H G vs (e.drw hj) r Q (q.imp .refl fun _ _ z => z)
theorem ws_drw {t : TS} {ks : KS} {j : Nat} {n : Int} (hj : ρ.ce[j]? = some (.lst [.int n])) (h : WpS K F t (ρ.cell j .drw) ks) : WpS K F t ρ ks := fun as σ H G e D q => h as σ H G (e.drw hj) D q
end
theorem rngD_len {lo : Int} {n : Nat} : (rngD lo n).length = n := by unfold rngD; rw [List.length_map, List.length_range]
theorem rngD_drop {lo : Int} {n i : Nat} (h : i < n) : (rngD lo n).drop i = .int (lo + i) :: (rngD lo n).drop (i + 1) := by
  have hl : i < (rngD lo n).length := by rw [rngD_len]; exact h
  rw [List.drop_eq_getElem_cons hl]
  congr 1
  have : (rngD lo n)[i]? = some (.int (lo + i)) := by unfold rngD; rw [List.getElem?_map, List.getElem?_range h]; rfl
  rw [List.getElem?_eq_getElem hl] at this
  exact Option.some.inj this
section
variable {K : PySem.W.Frag} {F : Fx} {ρ : En} {k : AV → En → Prop} {ks : KS} {te : TE} {tt : TT}
theorem loop_rng {m : Nat} {gd : En → Prop} {g : TG} {tb : TS} {lo : Int} {n : Nat} (I : Nat → En → Prop) (h0 : I 0 ρ) (hn : ∀ ρ, I n ρ → gd ρ ∧ ks.nx ρ)
    (hs : ∀ i ρ, i < n → I i ρ → gd ρ ∧ WpG K F g (.dat (.int (lo + i))) ρ fun ρ1 => WpS K F tb ρ1 { nx := fun ρ2 => Now (I (i + 1) (ρ2.trunc m)), rt := ks.rt, ct := fun ρ2 => Now (I (i + 1) (ρ2.trunc m)), bk := ks.nx }) : Loop K F m gd g tb ks (rngD lo n) ρ := by
  refine loop_cut (fun ds ρ => ∃ i, i ≤ n ∧ ds = (rngD lo n).drop i ∧ I i ρ) ⟨0, Nat.zero_le _, rfl, h0⟩ ?_ ?_
  · rintro ρ ⟨i, hi, hd, h⟩
    have : i = n := by
      rcases Nat.lt_or_ge i n with z | z
      · rw [rngD_drop z] at hd; cases hd
      · omega
    subst this
    exact hn ρ h
  · rintro d ds ρ ⟨i, hi, hd, h⟩
    rcases Nat.lt_or_ge i n with z | z
    · rw [rngD_drop z] at hd
      cases hd
      obtain ⟨a, b⟩ := hs i ρ z h
      exact ⟨a, b.imp fun ρ1 h1 => h1.imp (fun ρ2 h2 => now ⟨i + 1, z, rfl, h2.out⟩) (fun _ _ z => z) (fun _ z => z) (fun ρ2 h2 => now ⟨i + 1, z, rfl, h2.out⟩)⟩
    · rw [List.drop_of_length_le (by rw [rngD_len]; exact z)] at hd; cases hd
theorem loopC_rng {gd : En → Prop} {g : TG} {vs : List Nat} {m : Nat} {lo : Int} {n : Nat} (I : Nat → En → Prop) (h0 : I 0 ρ) (hn : ∀ ρ, I n ρ → gd ρ ∧ k (.cel m) ρ)
    (hs : ∀ i ρ, i < n → I i ρ → gd ρ ∧ WpG K F g (.dat (.int (lo + i))) ρ fun ρ1 => WpT K F tt ρ1 fun b ρ2 => if b = true then WpE K F te ρ2 fun y ρ3 => ∃ e ρ4 acc, Frz [y] ρ3 [e] ρ4 ∧ ρ4.ce[m]? = some (.lst acc) ∧ acc.length < 16000000 ∧ Now (I (i + 1) (((ρ4.cell m (.lst (acc ++ [e]))).wipe vs).trunc (m + 1)))
      else Now (I (i + 1) ((ρ2.wipe vs).trunc (m + 1)))) : LoopC K F gd g tt te vs m k (rngD lo n) ρ := by
  refine loopC_by (fun ds ρ => ∃ i, i ≤ n ∧ ds = (rngD lo n).drop i ∧ I i ρ) ⟨0, Nat.zero_le _, rfl, h0⟩ ?_ ?_
  · rintro ρ ⟨i, hi, hd, h⟩
    have : i = n := by
      rcases Nat.lt_or_ge i n with z | z
      · rw [rngD_drop z] at hd; cases hd
      · omega
    subst this
    exact hn ρ h
  · rintro d ds ρ ⟨i, hi, hd, h⟩
    rcases Nat.lt_or_ge i n with z | z
    · rw [rngD_drop z] at hd
      cases hd
      obtain ⟨a, b⟩ := hs i ρ z h
      refine ⟨a, b.imp fun ρ1 h1 => h1.imp fun b ρ2 h2 => ?_⟩
      cases b with
      | true => exact WpE.imp h2 fun y ρ3 ⟨e, ρ4, acc, x1, x2, x3, x4⟩ => ⟨e, ρ4, acc, x1, x2, x3, now ⟨i + 1, z, rfl, x4.out⟩⟩
      | false => exact now ⟨i + 1, z, rfl, (show Now _ from h2).out⟩
    · rw [List.drop_of_length_le (by rw [rngD_len]; exact z)] at hd; cases hd
end
/-! ### *v by data -/
theorem spG_star {K : PySem.W.Frag} {W : PW0} {vs : List V} {H : Hp} {Q : VK} {E : XK} (h : spG K (fun xs cs post exc => ∃ ds, xs = ds.map .dat ∧ cs = [] ∧ ds.length ≤ 1000 ∧ W [.dat (.tup ds)] [] post exc) vs H Q E) : vs.length ≤ sizeLine ∧ ∀ p, H p = none → spG K W [.ref p] (upd H p (.tup vs)) Q E := by
  obtain ⟨G, as, Ts, xs, cs, post, exc, gh, ok, rg, rx, ⟨ds, rfl, rfl, hl, hw⟩, hq, he⟩ := h
  have ln : as = [] := List.length_eq_zero_iff.mp ok.ln
  subst ln
  have rd : Reps K G ds vs := by
    have main : ∀ (es : List D) (ws : List V), RepAs K G [] (es.map .dat) ws → Reps K G es ws := by
      intro es
      induction es with
      | nil => intro ws r; cases r; exact .nil
      | cons e es ih => intro ws r; cases r with | cons a b => exact .cons a (ih _ b)
    exact main ds vs rx
  refine ⟨szn (by rw [rd.length]; exact hl), fun p hp => ?_⟩
  have gp : G p = none := Same.none gh hp
  have sg : Same G (upd G p (.tup vs)) := Same.new (Same.refl _) gp
  have sh : Same H (upd H p (.tup vs)) := Same.new (Same.refl _) hp
  have old : ∀ {a : Addr}, upd H p (.tup vs) a = none → H a = none := fun {a} z => Same.none sh z
  refine ⟨upd G p (.tup vs), [], fun _ _ => none, [.dat (.tup ds)], [], post, exc, fun a o h => ?_, ⟨rfl, List.nodup_nil, fun j c a hc => by simp at hc⟩, RegsAt.no (fun j t X z => by simp at z), .cons (Rep.tup (SqT.of upd_same) (Reps.mono sg _ _ rd)) .nil, hw, ?_, ?_⟩
  · by_cases q : a = p
    · subst q; rw [upd_same] at h ⊢; exact h
    · rw [upd_ne q] at h ⊢; exact gh _ _ h
  · intro r cs' v H' G' Ts' hp' fr s1 s2 nw ck rg' nwT rr
    have tn : ∀ i b, Ts i b = none := fun i b => rg.em i (fun t X z => by simp at z) b
    have nA : ∀ {a : Addr}, NewA (upd H p (.tup vs)) [] (fun _ _ => none) a → NewA H [] Ts a := fun {a} ⟨h, n⟩ => ⟨.inl (h.elim old fun ⟨_, z⟩ => absurd rfl z), n⟩
    refine hq r cs' v H' G' Ts' hp' (fun a o na _ ha => fr a o na (fun _ => rfl) (sh _ _ ha)) (Same.trans sg s1) s2 (fun a o ha => ?_) ck rg' (fun i b o hb => ?_) ?_
    · rcases nw a o ha with y | y | ⟨_, y⟩
      · by_cases q : a = p
        · subst q; exact .inr (.inl hp)
        · rw [upd_ne q] at y; exact .inl y
      · exact .inr (.inl (old y))
      · exact absurd rfl y
    · rcases nwT i b o hb with y | y | ⟨_, y⟩
      · exact .inl (old y)
      · cases y
      · exact absurd rfl y
    · cases r with
      | dat d => exact rr
      | new es => obtain ⟨a, ws, e1, e2, e3⟩ := rr; exact ⟨a, ws, e1, nA e2, e3⟩
      | prt _ _ _ => obtain ⟨t, a, w1, w2, ws, e1, e2, e3, e4, e5, e6⟩ := rr; exact ⟨t, a, w1, w2, ws, e1, e2, e3, e4, nA e5, e6⟩
      | ext d X => obtain ⟨e0, a, o, e1, e2⟩ := rr; exact ⟨e0, a, o, nA e1, e2⟩
      | reg X => obtain ⟨a, T, e1, e2, e3, e4, e5, e6, e7⟩ := rr; exact ⟨a, T, e1, nA e2, e3, e4, e5, e6, fun b o hb => let ⟨x, y, z, w⟩ := e7 b o hb; ⟨x, y, nA z, w⟩⟩
  · exact fun C H' hc fr => he C H' hc fun a o na _ ha => fr a o na (fun _ => rfl) (sh _ _ ha)
/-! ### rules of the data layer: truth of lists, items stored, pop -/
def tTru (K : PySem.W.Frag) (ta : TE) : TT := fun σ H Q => ta σ H fun x H' => ∃ k, TruV K x H' k ∧ Q k H'
theorem pt_tru {X : Cx} {K : PySem.W.Frag} {a : Expr} {ta : TE} (hK : X.K = K) (h : PE X a ta) (he : ∀ whole, isTrue a X.env whole = (do let v ← whole; standAt a.pos; holding [v] (truthy v))) : PT X a (tTru K ta) := by
  subst hK
  exact pt_truth h he
section
variable {K : PySem.W.Frag} {F : Fx} {ρ : En} {k : AV → En → Prop} {kb : Bool → En → Prop} {ta to ti : TE}
theorem isEmpty_reps {G : Hp} {ds : List D} {vs : List V} (h : Reps K G ds vs) : vs.isEmpty = ds.isEmpty := by
  cases ds with
  | nil => cases h; rfl
  | cons => cases h; rfl
theorem wt_tru (h : WpE K F ta ρ fun x ρ1 => ∃ ds, IsL ρ1 x ds ∧ kb (!ds.isEmpty) ρ1) : WpT K F (tTru K ta) ρ kb := fun as σ H G e Q q =>
  h as σ H G e _ fun x ρ1 vx as1 H1 G1 ⟨ds, hx, h1⟩ e1 g1 r1 => by
    obtain ⟨a, vs, rfl, hs, hr⟩ := hx.rep e1 r1
    refine ⟨!ds.isEmpty, .inl ⟨vs, hs, by rw [isEmpty_reps hr]⟩, q _ _ _ _ _ h1 e1 g1⟩
theorem wg_sub {x : AV} {kn : En → Prop} (h : WpE K F to ρ fun o ρ1 => WpE K F ti ρ1 fun i ρ2 => ∃ (j m : Nat) (n : Int) (d : D) (ρ3 : En) (ds : List D), o = .cel j ∧ i = .dat (.int n) ∧ Frz [x] ρ2 [d] ρ3 ∧ ρ3.ce[j]? = some (.lst ds) ∧ ixN ds.length n = some m ∧ kn (ρ3.cell j (.lst (ds.set m d)))) : WpG K F (gSub to ti rSetL) x ρ kn := fun as σ H G v e r Q q =>
  h as σ H G e _ fun o ρ1 vo as1 H1 G1 h1 e1 g1 r1 => h1 as1 σ H1 G1 e1 _ fun i ρ2 vi as2 H2 G2 ⟨j, m, n, d, ρ3, ds, eo, ei, fz, hc, hi, hk⟩ e2 g2 r2 => by
    subst eo ei
    obtain ⟨G3, e3, g3, r3⟩ := fz.run e2 (.cons (r.mono (g1.trans g2)) .nil)
    obtain ⟨a, ha, rfl⟩ := r1.mono g2
    cases r3 with
    | cons y z =>
      cases z
      obtain ⟨_, _, g, ws, hw, hr⟩ := e3.ce j _ a hc ha
      refine ⟨a, ws, n, m, rfl, Rep.intE r2, hw, by rw [hr.length]; exact hi, q _ as2 σ _ G3 hk (e3.setC hc ha g ⟨g, _, upd_same, hr.set y m⟩) (g1.trans (g2.trans g3))⟩
theorem wm_pop {j : Nat} {ds : List D} {d : D} (hc : ρ.ce[j]? = some (.lst ds)) (hd : ds.getLast? = some d) (hk : k (.dat d) (ρ.cell j (.lst ds.dropLast))) : WpM K F rPop (.cel j) [] ρ k := fun as σ H G v vs e r1 r2 Q q => by
  obtain ⟨a, ha, rfl⟩ := r1
  cases r2
  obtain ⟨_, _, g, ws, hw, hr⟩ := e.ce j _ a hc ha
  rw [List.getLast?_eq_getElem?] at hd
  obtain ⟨v, hv, rv⟩ := hr.get hd
  have hdl : Reps K G ds.dropLast ws.dropLast := by
    rw [List.dropLast_eq_take, List.dropLast_eq_take, hr.length]
    exact hr.take _
  exact ⟨a, ws, v, rfl, rfl, hw, by rw [hr.length]; exact hv, q _ _ _ as _ G hk (e.setC hc ha g ⟨g, _, upd_same, hdl⟩) .refl rv⟩
theorem sub_in {o i : AV} {x : AV} {j m : Nat} {n : Int} {d : D} {ρ2 ρ3 : En} {ds : List D} {kn : En → Prop} (h1 : o = .cel j) (h2 : i = .dat (.int n)) (h0 : Frz [x] ρ2 [d] ρ3) (h3 : ρ3.ce[j]? = some (.lst ds)) (h4 : ixN ds.length n = some m) (hk : kn (ρ3.cell j (.lst (ds.set m d)))) :
    ∃ (j m : Nat) (n : Int) (d : D) (ρ3 : En) (ds : List D), o = .cel j ∧ i = .dat (.int n) ∧ Frz [x] ρ2 [d] ρ3 ∧ ρ3.ce[j]? = some (.lst ds) ∧ ixN ds.length n = some m ∧ kn (ρ3.cell j (.lst (ds.set m d))) := ⟨j, m, n, d, ρ3, ds, h1, h2, h0, h3, h4, hk⟩
end
theorem mapC {α β : Type} (f : α → β) (a : α) (l : List α) : List.map f (a :: l) = f a :: List.map f l := rfl
theorem mapN {α β : Type} (f : α → β) : List.map f [] = [] := rfl
theorem frzA_d (j : Nat) (d e : D) : frzA j d (.dat e) = .dat e := rfl
theorem frzA_c (j i : Nat) (d : D) : frzA j d (.cel i) = if i = j then .dat d else .cel i := rfl
/-! ### try by data -/
section
variable {K : PySem.W.Frag} {F : Fx} {ρ : En} {k : AV → En → Prop} {ks : KS}
def En.clr (ρ : En) (i : Nat) : En := ⟨ρ.sl.set i none, ρ.ce⟩
theorem EnvOk.clr {as : List Addr} {σ : L2.St} {H G : Hp} (e : EnvOk K F ρ as σ H G) (i : Nat) : EnvOk K F (ρ.clr i) as (σ.set i none) H G :=
  ⟨e.gh, e.fh, e.fg, e.g0, e.nd, e.pr, e.ln, e.ce, by rw [List.length_set, e.sn]; exact (List.length_set).symm, fun j av hj => by
    have hj' : (ρ.sl.set i none)[j]? = some (some av) := hj
    by_cases hij : i = j
    · subst hij
      rw [List.getElem?_set] at hj'
      simp at hj'
    · rw [List.getElem?_set_ne hij] at hj'
      obtain ⟨v, hv, r⟩ := e.sl j av hj'
      exact ⟨v, by rw [List.getElem?_set_ne hij]; exact hv, r⟩, e.rg⟩
def KS.off (ks : KS) (i : Nat) : KS := { nx := fun ρ => ks.nx (ρ.clr i), rt := ks.rt, bk := fun ρ => ks.bk (ρ.clr i), ct := fun ρ => ks.ct (ρ.clr i) }
theorem EndsOk.off {as : List Addr} {G : Hp} {D : Ends} (q : EndsOk K F as G ks D) (i : Nat) : EndsOk K F as G (ks.off i) (offAt i D) :=
  ⟨fun ρ as' σ H G' a b c => q.nx _ as' _ H G' a (b.clr i) c, q.rt, fun ρ as' σ H G' a b c => q.bk _ as' _ H G' a (b.clr i) c, fun ρ as' σ H G' a b c => q.ct _ as' _ H G' a (b.clr i) c, q.fr⟩
/-- what an error of the class C meets at the clauses -/
def Mix (K : PySem.W.Frag) (F : Fx) (C : Addr) (out : Prop) : List (Value × Option Nat × Suite) → En → KS → Prop
  | [], _, _ => out
  | (c, none, t) :: r, ρ, ks => ∃ y, PySem.W.exmOne K (.ref C) c = some y ∧ if y = true then ∀ e, WpS K F (t e (.ref C) none) ρ ks else Mix K F C out r ρ ks
  | (c, some i, t) :: r, ρ, ks => ∃ y, PySem.W.exmOne K (.ref C) c = some y ∧ if y = true then ∀ e, WpS K F (t e (.ref C) none) (ρ.put i (.dat (.cls e))) (ks.off i) else Mix K F C out r ρ ks
theorem Mix.run {C : Addr} {out : Prop} {Wo : WX} {as as0 : List Addr} {σ : L2.St} {H G G0 : Hp} {D : Ends} (e : EnvOk K F ρ as σ H G) (hWo : out → Wo (.ref C) none σ H) (q : EndsOk K F as G ks D) : ∀ {l : List (Value × Option Nat × Suite)}, Mix K F C out l ρ ks → wMix K Wo D l (.ref C) none σ H
  | [], h => hWo h
  | (c, none, t) :: r, ⟨y, hy, h⟩ => by
    refine ⟨y, hy, fun z x _ => ?_, fun z => ?_⟩
    · subst z
      exact (show ∀ x, WpS K F (t x (.ref C) none) ρ ks from h) x as σ H G e D q
    · subst z
      exact Mix.run (as0 := as0) (G0 := G0) e hWo q (show Mix K F C out r ρ ks from h)
  | (c, some i, t) :: r, ⟨y, hy, h⟩ => by
    refine ⟨y, hy, fun z x _ => ?_, fun z => ?_⟩
    · subst z
      exact (show ∀ x, WpS K F (t x (.ref C) none) (ρ.put i (.dat (.cls x))) (ks.off i) from h) x as _ H G (e.put (x := .dat (.cls x)) (Rep.cls x)) _ (q.off i)
    · subst z
      exact Mix.run (as0 := as0) (G0 := G0) e hWo q (show Mix K F C out r ρ ks from h)
/-- xk: which errors come, and at which environment -/
theorem ws_try {tb : WX → TS} {Wo : WX} {l : List (Value × Option Nat × Suite)} (xk : Addr → En → Prop) (out : Addr → Prop)
    (hWo : ∀ C ρ' as σ H G, out C → EnvOk K F ρ' as σ H G → Wo (.ref C) none σ H)
    (hb : ∀ (F1 : Fx) (W : WX), F1.fr = F.fr → (∀ C ρ' as σ H G, xk C ρ' → EnvOk K F1 ρ' as σ H G → W (.ref C) none σ H) → WpS K F1 (tb W) ρ ks)
    (hs : ∀ C ρ', xk C ρ' → Mix K F C (out C) l ρ' ks) : WpS K F (fun D u G => tb (wMix K Wo D l) D u G) ρ ks := fun as σ H G e D q => by
  have e1 : EnvOk K ⟨F.Fr, G, F.E, F.ex, F.hE, F.fr, as⟩ ρ as σ H G := ⟨e.gh, e.fh, fun a o h => .inl h, Same.refl _, e.nd, List.prefix_refl _, e.ln, e.ce, e.sn, e.sl, e.rg⟩
  have back : ∀ {ρ' : En} {as' : List Addr} {σ' : L2.St} {H' G' : Hp}, EnvOk K ⟨F.Fr, G, F.E, F.ex, F.hE, F.fr, as⟩ ρ' as' σ' H' G' → EnvOk K F ρ' as' σ' H' G' ∧ Gr G as G' as' := fun {ρ' as' σ' H' G'} x => by
    refine ⟨⟨x.gh, x.fh, fun a o h => ?_, Same.trans e.g0 x.g0, x.nd, e.pr.trans x.pr, x.ln, x.ce, x.sn, x.sl, x.rg⟩, ⟨x.g0, ?_⟩⟩
    · rcases x.fg a o h with z | z
      · exact e.fg a o z
      · exact .inr z
    · obtain ⟨r, hr⟩ := x.pr
      exact ⟨r, hr.symm⟩
  refine hb ⟨F.Fr, G, F.E, F.ex, F.hE, F.fr, as⟩ (wMix K Wo D l) rfl (fun C ρ' as' σ' H' G' hx ex => ?_) as σ H G e1 D ⟨fun ρ' as' σ' H' G' a b _ => ?_, fun av ρ' v as' σ' H' G' a b _ r => ?_, fun ρ' as' σ' H' G' a b _ => ?_, fun ρ' as' σ' H' G' a b _ => ?_, q.fr⟩
  · obtain ⟨b1, g1⟩ := back ex
    exact Mix.run (as0 := as) (G0 := G) b1 (fun z => hWo C ρ' as' σ' H' G' z b1) (EndsOk.grow K F q g1) (hs C ρ' hx)
  · obtain ⟨b1, g1⟩ := back b
    exact q.nx ρ' as' σ' H' G' a b1 g1
  · obtain ⟨b1, g1⟩ := back b
    exact q.rt av ρ' v as' σ' H' G' a b1 g1 r
  · obtain ⟨b1, g1⟩ := back b
    exact q.bk ρ' as' σ' H' G' a b1 g1
  · obtain ⟨b1, g1⟩ := back b
    exact q.ct ρ' as' σ' H' G' a b1 g1
/-- nothing is let out -/
theorem ws_try0 {tb : WX → TS} {l : List (Value × Option Nat × Suite)} (xk : Addr → En → Prop)
    (hb : ∀ (F1 : Fx) (W : WX), F1.fr = F.fr → (∀ C ρ' as σ H G, xk C ρ' → EnvOk K F1 ρ' as σ H G → W (.ref C) none σ H) → WpS K F1 (tb W) ρ ks)
    (hs : ∀ C ρ', xk C ρ' → Mix K F C False l ρ' ks) : WpS K F (fun D u G => tb (wMix K (fun _ _ _ _ => False) D l) D u G) ρ ks := ws_try xk (fun _ => False) (fun _ _ _ _ _ _ z _ => z) hb hs
/-- a call in a try: its errors meet the clauses -/
theorem wspT {W : PW0} {Wx : WX} {xk : Addr → En → Prop} {xs : List AV} {ds : List D} (hW : ∀ C ρ' as σ H G, xk C ρ' → EnvOk K F ρ' as σ H G → Wx (.ref C) none σ H) (ha : AsD ρ xs ds) (hw : W (ds.map .dat) [] (fun r _ => aft ρ xs k r) (fun C => xk C ρ)) : WpSp K F (spG K W) (L2.WE Wx) xs ρ k := wsp0 ha (fun C as σ H G h e => hW C ρ as σ H G h e) hw
/-- isinstance of a caught error -/
theorem wc_isE {a C Y : Addr} {b : Bool} (hx : ExcC K C) (hk : PySem.W.kitOne K (.ref C) (.ref Y) = some b) (h : k (.dat (.bl b)) ρ) : WpC K F (fun xs H Q => ∃ D, Value.ref C = .ref D ∧ (none : Option Addr) = none ∧ ExcC K D ∧ rIsE K D a xs H Q) [.dat (.cls a), .dat (.cls Y)] ρ k := fun as σ H G vs e r Q q => by
  cases r with
  | cons r1 r2 =>
    cases r2 with
    | cons r2 r3 =>
      cases r3
      cases (show Rep K G (.cls a) _ from r1)
      cases (show Rep K G (.cls Y) _ from r2)
      exact ⟨C, rfl, rfl, hx, _, _, b, rfl, (fun u hu => by cases hu; rfl), hk, q _ ρ _ as H G h e .refl (Rep.bl _)⟩
theorem wc_isEB {a C : Addr} {s : String} {b : Bool} (hx : ExcC K C) (hk : PySem.W.kitOne K (.ref C) (.type s) = some b) (h : k (.dat (.bl b)) ρ) : WpC K F (fun xs H Q => ∃ D, Value.ref C = .ref D ∧ (none : Option Addr) = none ∧ ExcC K D ∧ rIsE K D a xs H Q) [.dat (.cls a), .dat (.ty s)] ρ k := fun as σ H G vs e r Q q => by
  cases r with
  | cons r1 r2 =>
    cases r2 with
    | cons r2 r3 =>
      cases r3
      cases (show Rep K G (.cls a) _ from r1)
      cases (show Rep K G (.ty s) _ from r2)
      exact ⟨C, rfl, rfl, hx, _, _, b, rfl, (fun u hu => by cases hu; rfl), hk, q _ ρ _ as H G h e .refl (Rep.bl _)⟩
/-- {} -/
theorem we_dnew (h : k (.dat .dic) ρ) : WpE K F tDNewK ρ k := fun as σ H G e Q q p hp => by
  obtain ⟨e3, g3⟩ := e.newG (o := .dK []) hp
  exact q _ _ _ _ _ _ h e3 g3 (Rep.dic upd_same)
end
/-! ### a try as one word -/
def tTry (K : PySem.W.Frag) (tb : WX → TS) (Wo : WX) (l : List (Value × Option Nat × Suite)) : TS := fun D u G => tb (wMix K Wo D l) D u G
theorem ps_tryT {X : Cx} {body : List Stmt} {h1 : ExceptHandler} {hds : List ExceptHandler} {l : List (Value × Option Nat × Suite)} {pos : Pos} {tb : WX → TS} {Wo : WX} (hs : X.stack = X.env :: X.outer) (hf : X.env.frame = some X.env.locals) (tk : Takes X Wo)
    (hb : ∀ W pn xe, Takes (X.tr pn xe) W → PassesOwn (model X.prog X.w) X.A X.env xe → PSs (X.tr pn xe) body (tb W)) (hh : Clauses X (h1 :: hds) l) :
    PS X (.Try body (h1 :: hds) [] [] pos) (tTry X.K tb Wo l) := ps_try_mix hs hf tk hb hh
section
variable {K : PySem.W.Frag} {F : Fx} {ρ : En} {k : AV → En → Prop} {ks : KS}
theorem ws_tryT {tb : WX → TS} {l : List (Value × Option Nat × Suite)} (xk : Addr → En → Prop)
    (hb : ∀ (F1 : Fx) (W : WX), F1.fr = F.fr → (∀ C ρ' as σ H G, xk C ρ' → EnvOk K F1 ρ' as σ H G → W (.ref C) none σ H) → WpS K F1 (tb W) ρ ks)
    (hs : ∀ C ρ', xk C ρ' → Mix K F C False l ρ' ks) : WpS K F (tTry K tb (fun _ _ _ _ => False) l) ρ ks := ws_try0 xk hb hs
end
/-! ### tuples that hold cells -/
section
variable {K : PySem.W.Frag} {F : Fx} {ρ : En} {k : AV → En → Prop} {ks : KS} {t : TA}
def TN.av : TN → AV
  | .dat d => .dat d
  | .cel j => .cel j
  | .tup xs => .tup xs
def AV.tn : AV → TN
  | .dat d => .dat d
  | .cel j => .cel j
  | .tup xs => .tup xs
theorem TNr.av {G : Hp} {as : List Addr} {x : TN} {v : V} (h : TNr K G as x v) : RepA K G as x.av v := by
  cases h with
  | dat r => exact r
  | cel e => exact ⟨_, e, rfl⟩
  | tup s r => exact ⟨_, _, rfl, s, r⟩
theorem TNr.tn {G : Hp} {as : List Addr} {x : AV} {v : V} (h : RepA K G as x v) : TNr K G as x.tn v := by
  cases x with
  | dat d => exact .dat h
  | cel j => obtain ⟨a, e, rfl⟩ := h; exact .cel e
  | tup xs => obtain ⟨a, vs, rfl, s, r⟩ := h; exact .tup s r
theorem TNs.get {G : Hp} {as : List Addr} {xs : List TN} {vs : List V} (h : TNs K G as xs vs) : ∀ {i : Nat} {x : TN}, xs[i]? = some x → ∃ v, vs[i]? = some v ∧ TNr K G as x v := by
  induction xs generalizing vs with
  | nil => intro i x e; simp at e
  | cons y ys ih =>
    cases h with
    | cons a b =>
      intro i x e
      cases i with
      | zero => simp at e; subst e; exact ⟨_, rfl, a⟩
      | succ i => obtain ⟨v, q, r⟩ := ih b (i := i) (by simpa using e); exact ⟨v, by simpa using q, r⟩
theorem TNs.tns {G : Hp} {as : List Addr} : ∀ {xs : List AV} {vs : List V}, RepAs K G as xs vs → TNs K G as (xs.map AV.tn) vs
  | [], _, h => by cases h; exact .nil
  | x :: xs, _, h => by cases h with | cons a b => exact .cons (TNr.tn a) (TNs.tns b)
theorem TNs.avs {G : Hp} {as : List Addr} : ∀ {xs : List TN} {vs : List V}, TNs K G as xs vs → RepAs K G as (xs.map TN.av) vs
  | [], _, h => by cases h; exact .nil
  | x :: xs, _, h => by cases h with | cons a b => exact .cons a.av (TNs.avs b)
theorem TNs.len {G : Hp} {as : List Addr} : ∀ {xs : List TN} {vs : List V}, TNs K G as xs vs → vs.length = xs.length
  | [], _, h => by cases h; rfl
  | x :: xs, _, h => by cases h with | cons a b => exact congrArg (· + 1) (TNs.len b)
/-- (a, b, ..): its lists stay lists that are written to -/
theorem we_tupC (h : WpA K F t ρ fun xs ρ1 => Nat.ble xs.length 1000 = true ∧ k (.tup (xs.map AV.tn)) ρ1) : WpE K F (tTup t) ρ k := fun as σ H G e Q q =>
  h as σ H G e _ fun xs ρ1 vs as1 H1 G1 ⟨hl, hk⟩ e1 g1 r1 => by
    refine ⟨sz (by rw [r1.length]; exact hl), fun p hp => ?_⟩
    obtain ⟨e3, g3⟩ := e1.newG (o := .tup vs) hp
    exact q _ _ _ _ _ _ hk e3 (g1.trans g3) ⟨p, vs, rfl, SqT.of upd_same, TNs.mono g3 _ _ (TNs.tns r1)⟩
/-- an item by its place -/
theorem wr_ixC {xs : List TN} {x : TN} {i : Int} {j : Nat} (hi : ixN xs.length i = some j) (hx : xs[j]? = some x) (hk : k x.av ρ) : WpR K F (rIxT K) (.tup xs) (.dat (.int i)) ρ k := fun as σ H G vx vy e r1 r2 Q q => by
  obtain ⟨a, vs, rfl, s, r⟩ := r1
  rw [Rep.intE r2]
  obtain ⟨v, hv, rv⟩ := r.get hx
  refine ⟨a, vs, i, v, rfl, rfl, Same.seqT e.gh s, ?_, q _ ρ _ as H G hk e .refl rv.av⟩
  unfold atI
  rw [r.len, hi]
  exact hv
/-- its items by name -/
theorem wg_tupC {n : Nat} {gs : TGs} {xs : List TN} {kn : En → Prop} (hn : xs.length = n) (h : WpGs K F gs (xs.map TN.av) ρ kn) : WpG K F (gTup K n gs) (.tup xs) ρ kn := fun as σ H G v e r Q q => by
  obtain ⟨a, vs, rfl, s, rs⟩ := r
  exact ⟨a, vs, rfl, Same.seqT e.gh s, by rw [rs.len]; exact hn, h as σ H G vs e (TNs.avs rs) Q q⟩
theorem wc_isiT {T : String} {xs : List TN} (hT : T ∈ ["int", "bool", "str", "tuple", "list"]) (hk : k (.dat (.bl (T == "tuple"))) ρ) : WpC K F (rIsi K) [.tup xs, .dat (.ty T)] ρ k := fun as σ H G vs e r Q q => by
  cases r with
  | cons r1 c =>
    cases c with
    | cons r2 c =>
      cases c
      cases (show Rep K G (.ty T) _ from r2)
      obtain ⟨a, ws, rfl, s, rs⟩ := r1
      have h2 : kitB "tuple" T = some (T == "tuple") := by
        simp only [List.mem_cons, List.not_mem_nil, or_false] at hT
        rcases hT with rfl | rfl | rfl | rfl | rfl <;> decide +kernel
      exact ⟨_, _, _, _, _, rfl, .ty _, SqT.ty (Same.seqT e.gh s), kit_ty h2, q _ ρ _ as H G hk e .refl (Rep.bl _)⟩
theorem fin_prt {n : Nat} {post : RV → List Cell → Prop} {xs ds ys : List D} {j : Nat} (hj : n ≤ j) (hc : ρ.ce[j]? = some (.lst ds)) (ng : noGone (ρ.ce.take n) = true) (q : post (.prt xs ds ys) (ρ.ce.take n)) : (KS.fin n post).rt (.tup (xs.map .dat ++ .cel j :: ys.map .dat)) ρ := ⟨_, .prt hj hc, ng, q⟩
end
/-! ### objects by data -/
def lookD : List Str → List D → Str → Option D
  | n :: ns, d :: ds, f => if (f == n) = true then some d else lookD ns ds f
  | _, _, _ => none
def putN (f : Str) : List Str → List Str
  | [] => [f]
  | g :: r => if g = f then g :: r else g :: putN f r
def putD (f : Str) (d : D) : List Str → List D → List D
  | g :: r, x :: xs => if g = f then d :: xs else x :: putD f d r xs
  | _, _ => [d]
theorem look_rep {K : PySem.W.Frag} {G : Hp} {f : Str} {d : D} : ∀ {ns : List Str} {ds : List D} {vs : List V}, Reps K G ds vs → lookD ns ds f = some d → ∃ v, (ns.zip vs).lookup f = some v ∧ Rep K G d v
  | [], _, _, _, h => by rw [lookD] at h; cases h; simp
  | n :: ns, [], _, _, h => by rw [lookD] at h; cases h; simp
  | n :: ns, x :: ds, _, r, h => by
    cases r with
    | cons a b =>
      rw [lookD] at h
      rw [List.zip_cons_cons, List.lookup_cons]
      by_cases c : (f == n) = true
      · rw [if_pos c] at h
        cases h
        rw [c]
        exact ⟨_, rfl, a⟩
      · rw [if_neg c] at h
        rw [Bool.not_eq_true] at c
        rw [c]
        exact look_rep b h
def hasN (f : Str) : List Str → Bool
  | [] => false
  | n :: ns => (f == n) || hasN f ns
theorem look_none {f : Str} : ∀ {ns : List Str} {vs : List V}, hasN f ns = false → (ns.zip vs).lookup f = none
  | [], _, _ => by simp
  | _ :: _, [], _ => by simp
  | n :: ns, v :: vs, h => by
    rw [hasN, Bool.or_eq_false_iff] at h
    rw [List.zip_cons_cons, List.lookup_cons, h.1]
    exact look_none h.2
theorem put_zip {K : PySem.W.Frag} {G : Hp} {f : Str} {d : D} {v : V} (r : Rep K G d v) : ∀ {ns : List Str} {ds : List D} {vs : List V}, Reps K G ds vs → ns.length = ds.length → ∃ ws, putF f v (ns.zip vs) = (putN f ns).zip ws ∧ (putN f ns).length = (putD f d ns ds).length ∧ Reps K G (putD f d ns ds) ws
  | [], ds, vs, h, l => by
    cases ds with
    | nil => cases h; exact ⟨[v], rfl, rfl, .cons r .nil⟩
    | cons => cases l
  | n :: ns, [], _, _, l => by cases l
  | n :: ns, x :: ds, _, h, l => by
    cases h with
    | cons a b =>
      rename_i w ws
      by_cases c : n = f
      · refine ⟨v :: ws, ?_, ?_, ?_⟩
        · rw [List.zip_cons_cons, putF, if_pos c, putN, if_pos c]; rfl
        · rw [putN, if_pos c, putD, if_pos c]; exact l
        · rw [putD, if_pos c]; exact .cons r b
      · obtain ⟨us, e1, e2, e3⟩ := put_zip (f := f) r b (Nat.succ.inj l)
        refine ⟨w :: us, ?_, ?_, ?_⟩
        · rw [List.zip_cons_cons, putF, if_neg c, putN, if_neg c, e1]; rfl
        · rw [putN, if_neg c, putD, if_neg c, List.length_cons, List.length_cons, e2]
        · rw [putD, if_neg c]; exact .cons a e3
/-- an object: data, or a cell -/
inductive IsO (ρ : En) : AV → Addr → List Str → List D → Prop
  | dat {C : Addr} {ns : List Str} {ds : List D} : IsO ρ (.dat (.obj C ns ds)) C ns ds
  | cel {j : Nat} {C : Addr} {ns : List Str} {ds : List D} : ρ.ce[j]? = some (.ins C ns ds) → IsO ρ (.cel j) C ns ds
  | tag {j : Nat} {g C : Addr} {ns : List Str} {ds : List D} : ρ.ce[j]? = some (.oth (insX g C ns ds)) → IsO ρ (.dat (.cls g)) C ns ds
def En.addO (ρ : En) (C : Addr) : En := ⟨ρ.sl, ρ.ce ++ [.ins C [] []]⟩
section
variable {K : PySem.W.Frag} {F : Fx} {ρ : En} {k : AV → En → Prop} {ks : KS} {ta tv te : TE} {t : TA}
theorem IsO.rep {as : List Addr} {σ : L2.St} {H G : Hp} {x : AV} {C : Addr} {ns : List Str} {ds : List D} {v : V} (e : EnvOk K F ρ as σ H G) (h : IsO ρ x C ns ds) (r : RepA K G as x v) : ∃ a dx vs, v = .ref a ∧ H a = some (.ins C dx (ns.zip vs)) ∧ ns.length = ds.length ∧ Reps K G ds vs := by
  cases h with
  | dat => obtain ⟨a, dx, vs, rfl, ho, hl, hr⟩ := Rep.objE r; exact ⟨a, dx, vs, rfl, e.gh _ _ ho, hl, hr⟩
  | cel hc =>
    obtain ⟨a, ha, rfl⟩ := r
    obtain ⟨_, _, _, dx, vs, hv, hl, hr⟩ := e.ce _ _ a hc ha
    exact ⟨a, dx, vs, rfl, hv, hl, hr⟩
  | @tag j g C ns ds hc =>
    cases (show Rep K G (.cls g) v from r)
    obtain ⟨a, ha⟩ : ∃ a, as[j]? = some a := ⟨_, List.getElem?_eq_getElem (by rw [e.ln]; exact (List.getElem?_eq_some_iff.mp hc).1)⟩
    obtain ⟨_, _, _, o, ho, rfl, dx, vs, rfl, hl, hr⟩ := e.ce _ _ a hc ha
    exact ⟨a, dx, vs, rfl, ho, hl, hr K G⟩
theorem we_fld {f : Str} (h : WpE K F ta ρ fun x ρ1 => ∃ C ns ds d, IsO ρ1 x C ns ds ∧ Cls K C ∧ NoAttr K C f ∧ lookD ns ds f = some d ∧ k (.dat d) ρ1) : WpE K F (tFld K ta f) ρ k := fun as σ H G e Q q =>
  h as σ H G e _ fun x ρ1 vx as1 H1 G1 ⟨C, ns, ds, d, ho, cl, na, hl, hk⟩ e1 g1 r1 => by
    obtain ⟨a, dx, vs, rfl, hv, _, hr⟩ := ho.rep e1 r1
    obtain ⟨v, hlv, rv⟩ := look_rep hr hl
    exact ⟨a, C, dx, _, v, rfl, hv, cl, na, hlv, q _ _ _ _ _ _ hk e1 g1 rv⟩
theorem ws_fset {f : Str} (h : WpE K F tv ρ fun y ρ1 => WpE K F ta ρ1 fun x ρ2 => ∃ j C ns ds d ρ3, x = .cel j ∧ Frz [y] ρ2 [d] ρ3 ∧ ρ3.ce[j]? = some (.ins C ns ds) ∧ Cls K C ∧ NoAttr K C f ∧ Nat.ble ns.length 900 = true ∧ ks.nx (ρ3.cell j (.ins C (putN f ns) (putD f d ns ds)))) : WpS K F (sFld K ta tv f) ρ ks := fun as σ H G e D q =>
  h as σ H G e _ fun y ρ1 vy as1 H1 G1 h1 e1 g1 r1 => h1 as1 σ H1 G1 e1 _ fun x ρ2 vx as2 H2 G2 ⟨j, C, ns, ds, d, ρ3, ex, fz, hc, cl, na, hl, hk⟩ e2 g2 r2 => by
    subst ex
    obtain ⟨G3, e3, g3, r3⟩ := fz.run e2 (.cons (r1.mono g2) .nil)
    cases r3 with
    | cons ry rn =>
      cases rn
      obtain ⟨a, ha, rfl⟩ := r2
      obtain ⟨_, _, gn, dx, vs, hv, ln, hr⟩ := e3.ce j _ a hc ha
      obtain ⟨ws, ez, ln2, hr2⟩ := put_zip (f := f) ry hr ln
      have hl := Nat.le_of_ble_eq_true hl
      refine ⟨a, C, dx, ns.zip vs, rfl, hv, cl, na, by rw [List.length_zip]; omega, ?_⟩
      rw [ez]
      exact q.nx _ as2 σ _ G3 hk (e3.setO hc ha gn ⟨gn, dx, ws, upd_same, ln2, hr2⟩) (g1.trans (g2.trans g3))
theorem we_meth {C : Addr} {m : Str} {sp : Sp} {E : XK} (h : WpE K F ta ρ fun x ρ1 => ∃ ns ds, IsO ρ1 x C ns ds ∧ hasN m ns = false ∧ WpA K F t ρ1 fun xs ρ2 => WpSp K F sp (fun _ => E) (x :: xs) ρ2 k) : WpE K F (tMeth C m sp [] E ta t) ρ k := fun as σ H G e Q q =>
  h as σ H G e _ fun x ρ1 vx as1 H1 G1 ⟨ns, ds, ho, hn, h1⟩ e1 g1 r1 => by
    obtain ⟨a, dx, vs, rfl, hv, _, hr⟩ := ho.rep e1 r1
    refine ⟨a, dx, _, rfl, hv, look_none hn, h1 as1 σ H1 G1 e1 _ fun xs ρ2 ws as2 H2 G2 h2 e2 g2 r2 => ?_⟩
    rw [List.append_nil]
    exact h2 as2 σ H2 G2 _ e2 (.cons (r1.mono g2) r2) Q (q.imp (g1.trans g2) fun _ _ z => z)
def tMethS (C : Addr) (m : Str) (sp : Sp) (E : L2.St → XK) (ta : TE) (t : TA) : TE := fun u G Q => ta u G fun x G1 => ∃ a dx fs, x = .ref a ∧ G1 a = some (.ins C dx fs) ∧ fs.lookup m = none ∧ t u G1 fun vs G2 => sp (x :: vs) G2 Q (E u)
theorem we_methS {C : Addr} {m : Str} {sp : Sp} {E : L2.St → XK} (h : WpE K F ta ρ fun x ρ1 => ∃ ns ds, IsO ρ1 x C ns ds ∧ hasN m ns = false ∧ WpA K F t ρ1 fun xs ρ2 => WpSp K F sp E (x :: xs) ρ2 k) : WpE K F (tMethS C m sp E ta t) ρ k := fun as σ H G e Q q =>
  h as σ H G e _ fun x ρ1 vx as1 H1 G1 ⟨ns, ds, ho, hn, h1⟩ e1 g1 r1 => by
    obtain ⟨a, dx, vs, rfl, hv, _, hr⟩ := ho.rep e1 r1
    exact ⟨a, dx, _, rfl, hv, look_none hn, h1 as1 σ H1 G1 e1 _ fun xs ρ2 ws as2 H2 G2 h2 e2 g2 r2 => h2 as2 σ H2 G2 _ e2 (.cons (r1.mono g2) r2) Q (q.imp (g1.trans g2) fun _ _ z => z)⟩
/-- a method's call in a try -/
theorem pe_methT {X : Cx} {CT : CXT} {n : Nat} {C f : Addr} {fd : FuncData} {ps : List Str} {m : Str} {sp : Sp} {E : L2.St → XK} {o x : Expr} {es : List Expr} {p pos : Pos} {pl : Sem Bool} (he : PE X o ta) (c : Cls X.K C) (hm : Meth X.K C m f) (F0 : FnOk X.prog X.w X.K X.mg X.base CT n f fd ps sp) (hr : Room n X.A) (hb : Binds X.K fd ps []) (hx : ∀ u, PassesAt CT X u (E u)) (ha : PA X (x :: es) t)
    (s1 : starEach (x :: es) X.env = (false, eval x X.env) :: starEach es X.env := by rfl) (s2 : (backTo pos (starEach es X.env)).any (·.1) = false := by rfl)
    (s3 : eval (.Call (.Attribute o m p) (x :: es) [] pos) X.env = (do
      let r ← eval o X.env
      standAt p.atName
      let (g, a0) ← holding [r] (getMethod r m pl)
      callWith pos g a0 (backTo pos (starEach (x :: es) X.env)) (backToKw pos (keywordEach [] X.env))) := by rfl) : PE X (.Call (.Attribute o m p) (x :: es) [] pos) (tMethS C m sp E ta t) := by
  constructor
  intro pins s u G Q I h
  refine PySem.W.methodCall_KW (pl := pl) (thn (he.run pins s u G _ I h) ?_) s3
  rintro w s' ⟨v, G1, I1, r1, a, dx, fs, rfl, ho, hl, hq⟩
  obtain rfl : w = Value.ref a := r1
  refine getmeth_ok I1 ho c hm hl ?_
  refine PySem.W.callWith_K (first := [.ref a]) (h₀ := X.base) I.ok.mod.kin hm.kp (thn (ha.run pos pins s' u G1 _ I1 hq) ?_) s1 s2
  rintro us s4 ⟨vs, G2, I2, r2, q2⟩
  exact ⟨I2.kIn, run_fnS (us := .ref a :: us) (vs := .ref a :: vs) F0 hr hb (hx u) I2 (.cons rfl r2) q2⟩
/-- C(..) -/
theorem new_obj {as : List Addr} {σ : L2.St} {H G : Hp} {C x dx : Addr} (e : EnvOk K F ρ as σ H G) (hx : H x = none) (hd : H dx = none) (ne : dx ≠ x) : ∃ G', EnvOk K F (ρ.addO C) (as ++ [x]) σ (upd (upd H dx (.own x)) x (.ins C dx [])) G' ∧ Gr G as G' (as ++ [x]) ∧ as.length = ρ.ce.length := by
  obtain ⟨e1, g1⟩ := e.newG (o := .own x) hd
  have hx1 : upd H dx (.own x) x = none := by rw [upd_ne fun z => ne z.symm]; exact hx
  obtain ⟨e2, g2⟩ := e1.newO (o := .ins C dx []) (c0 := .ins C [] []) hx1 (fun gp => ⟨gp, dx, [], by rw [upd_same]; rfl, rfl, .nil⟩)
  exact ⟨_, e2, g1.trans g2, e.ln⟩
theorem we_make {C : Addr} {sp : Sp} {E : XK} (h : WpA K F t ρ fun xs ρ1 => ∃ ds ρ2, Frz xs ρ1 ds ρ2 ∧ WpSp K F sp (fun _ => E) (.cel ρ2.ce.length :: ds.map .dat) (ρ2.addO C) fun r ρ3 => r = .dat .non ∧ k (.cel ρ2.ce.length) ρ3) : WpE K F (tMake C sp [] E t) ρ k := fun as σ H G e Q q =>
  h as σ H G e _ fun xs ρ1 vs as1 H1 G1 ⟨ds, ρ2, fz, h1⟩ e1 g1 r1 x dx hx hd ne => by
    obtain ⟨G2, e2, g2, r2⟩ := fz.run e1 r1
    obtain ⟨G3, e3, g3, ln⟩ := new_obj (C := C) e2 hx hd ne
    have rl : RepA K G3 (as1 ++ [x]) (.cel ρ2.ce.length) (.ref x) := RepA.last ln
    rw [List.append_nil]
    refine h1 _ σ _ G3 _ e3 (.cons rl ((Reps.as (as := as1) r2).mono g3)) _ ?_
    rintro av ρ3 v as4 H4 G4 ⟨rfl, hk⟩ e4 g4 r4
    exact ⟨Rep.nonE r4, q _ _ _ _ _ _ hk e4 (g1.trans (g2.trans (g3.trans g4))) (rl.mono g4)⟩
/-- C(*xs) -/
theorem we_makeS {C : Addr} {sp : Sp} {E : XK} (h : WpE K F te ρ fun y ρ1 => ∃ ds, (IsL ρ1 y ds ∨ y = .dat (.tup ds)) ∧ WpSp K F sp (fun _ => E) (.cel ρ1.ce.length :: ds.map .dat) (ρ1.addO C) fun r ρ3 => r = .dat .non ∧ k (.cel ρ1.ce.length) ρ3) : WpE K F (tMakeS K C sp E te) ρ k := fun as σ H G e Q q =>
  h as σ H G e _ fun y ρ1 vy as1 H1 G1 ⟨ds, hy, h1⟩ e1 g1 r1 => by
    obtain ⟨a, vs, rfl, hs, hr⟩ : ∃ a vs, vy = .ref a ∧ (SqT K H1 a vs ∨ SqL K H1 a vs) ∧ Reps K G1 ds vs := by
      rcases hy with hy | rfl
      · obtain ⟨a, vs, e0, hs, hr⟩ := hy.rep e1 r1
        exact ⟨a, vs, e0, .inr hs, hr⟩
      · obtain ⟨a, vs, e0, hs, hr⟩ := Rep.tupE r1
        exact ⟨a, vs, e0, .inl (Same.seqT e1.gh hs), hr⟩
    refine ⟨a, vs, rfl, hs, fun x dx hx hd ne => ?_⟩
    obtain ⟨G3, e3, g3, ln⟩ := new_obj (C := C) e1 hx hd ne
    have rl : RepA K G3 (as1 ++ [x]) (.cel ρ1.ce.length) (.ref x) := RepA.last ln
    refine h1 _ σ _ G3 _ e3 (.cons rl ((Reps.as (as := as1) hr).mono g3)) _ ?_
    rintro av ρ3 v as4 H4 G4 ⟨rfl, hk⟩ e4 g4 r4
    exact ⟨Rep.nonE r4, q _ _ _ _ _ _ hk e4 (g1.trans (g3.trans g4)) (rl.mono g4)⟩
/-- a, *b = .. -/
theorem wg_star {g0 g1 : TG} {d : D} {ds : List D} {kn : En → Prop} (h : WpG K F g0 (.dat d) (ρ.add ds) fun ρ1 => WpG K F g1 (.cel ρ.ce.length) ρ1 kn) : WpG K F (gStar K g0 g1) (.dat (.tup (d :: ds))) ρ kn := fun as σ H G v e r Q q => by
  obtain ⟨a, vs, rfl, hs, hr⟩ := Rep.tupE r
  cases hr with
  | cons rx rs =>
    refine ⟨a, _, _, rfl, Same.seqT e.gh hs, fun l hl => ?_⟩
    obtain ⟨e2, g2⟩ := e.newC hl rs
    have rl : RepA K G (as ++ [l]) (.cel ρ.ce.length) (.ref l) := RepA.last e.ln
    exact h _ σ _ G _ e2 (Rep.mono (Same.refl _) _ _ rx) _ fun ρ1 as1 σ1 H1 G1 h1 e1 g1 => h1 as1 σ1 H1 G1 _ e1 (rl.mono g1) Q fun ρ2 as2 σ2 H2 G2 h2 e2 gg => q _ _ _ _ _ h2 e2 (g2.trans (g1.trans gg))
/-- a new thing that nobody writes to is data at once -/
def frzO (k : AV → En → Prop) : AV → En → Prop := fun av ρ' => ∃ j c d, av = .cel j ∧ ρ'.ce[j]? = some c ∧ celD c = some d ∧ k (.dat d) (ρ'.frzD j d)
theorem got_frzO {as : List Addr} {σ : L2.St} {G : Hp} {Q : VK} (q : Got K F ρ as σ G k Q) : Got K F ρ as σ G (frzO k) Q := fun av ρ' v as' H' G' ⟨j, c, d, ea, hc, hd, hk⟩ e' g' ra => by
  subst ea
  obtain ⟨a, ha, rfl⟩ := ra
  obtain ⟨o, e2, g2, rr⟩ := e'.frzD hc ha hd
  exact q _ _ _ as' H' _ hk e2 (g'.trans g2) rr
theorem we_frzO (h : WpE K F te ρ (frzO k)) : WpE K F te ρ k := fun as σ H G e Q q => h as σ H G e Q (got_frzO q)
theorem ws_frzO {t : TS} {j : Nat} {c : Cell} {d : D} (hj : ρ.ce[j]? = some c) (hd : celD c = some d) (h : WpS K F t (ρ.frzD j d) ks) : WpS K F t ρ ks := fun as σ H G e D q => by
  have hl : j < as.length := by rw [e.ln]; exact (List.getElem?_eq_some_iff.mp hj).1
  obtain ⟨o, e2, g2, _⟩ := e.frzD hj (List.getElem?_eq_getElem hl) hd
  exact h as σ H _ e2 D (EndsOk.grow K F q g2)
/-- isinstance of an own class -/
theorem wc_isO {x : AV} {C Y : Addr} {ns : List Str} {ds : List D} {b : Bool} (ho : IsO ρ x C ns ds) (ty : ∀ {H : Hp} {a dx : Addr} {fs : List (Str × V)}, H a = some (.ins C dx fs) → TyX K H (.ref a) (.ref C)) (hb : PySem.W.kitOne K (.ref C) (.ref Y) = some b) (hk : k (.dat (.bl b)) ρ) : WpC K F (rIsi K) [x, .dat (.cls Y)] ρ k := fun as σ H G vs e r Q q => by
  cases r with
  | cons r1 r2 =>
    cases r2 with
    | cons r2 r3 =>
      cases r3
      cases (show Rep K G (.cls Y) _ from r2)
      obtain ⟨a, dx, vs, rfl, hv, _, _⟩ := ho.rep e r1
      exact ⟨_, _, _, _, b, rfl, .own Y, ty hv, hb, q _ ρ _ as H G hk e .refl (Rep.bl _)⟩
/-- all of truths -/
theorem Reps.bls {G : Hp} : ∀ {bs : List Bool} {vs : List V}, Reps K G (bs.map D.bl) vs → vs = bs.map V.bl
  | [], _, h => by cases h; rfl
  | b :: bs, _, h => by
    cases h with
    | cons a c => cases a; rw [Reps.bls c]; rfl
theorem wc_all {x : AV} {bs : List Bool} (hx : IsL ρ x (bs.map D.bl)) (hk : k (.dat (.bl (bs.all id))) ρ) : WpC K F (rAll K) [x] ρ k := fun as σ H G vs e r Q q => by
  cases r with
  | cons r1 r2 =>
    cases r2
    obtain ⟨a, vs, rfl, hs, hr⟩ := hx.rep e r1
    rw [Reps.bls hr] at hs
    exact ⟨a, bs, rfl, hs, q _ ρ _ as H G hk e .refl (Rep.bl _)⟩
end
/-- a reading that is one of two -/
theorem we_or1 {K : PySem.W.Frag} {F : Fx} {ρ : En} {k : AV → En → Prop} {t1 t2 : TE} (h : WpE K F t1 ρ k) : WpE K F (fun σ H Q => t1 σ H Q ∨ t2 σ H Q) ρ k := fun as σ H G e Q q => .inl (h as σ H G e Q q)
theorem we_or2 {K : PySem.W.Frag} {F : Fx} {ρ : En} {k : AV → En → Prop} {t1 t2 : TE} (h : WpE K F t2 ρ k) : WpE K F (fun σ H Q => t1 σ H Q ∨ t2 σ H Q) ρ k := fun as σ H G e Q q => .inr (h as σ H G e Q q)
/-! ### a method's call with keywords alone -/
def tMethK (C : Addr) (m : Str) (sp : Sp) (n : Nat) (gV : List V → List V → List V) (E : XK) (ta : TE) (tk : TA) : TE := fun u G Q => ta u G fun x G1 => ∃ a dx fs, x = .ref a ∧ G1 a = some (.ins C dx fs) ∧ fs.lookup m = none ∧ tk u G1 fun zs G2 => zs.length = n ∧ sp (gV [x] zs) G2 Q E
theorem pe_methK0 {X : Cx} {CT : CXT} {n : Nat} {C f : Addr} {fd : FuncData} {ps ks : List Str} {m : Str} {sp : Sp} {E : XK} {o : Expr} {kws : List Keyword} {p pos : Pos} {pl : Sem Bool} {ta : TE} {tk : TA} {g : List Value → List Value → List Value} {gV : List V → List V → List V} (he : PE X o ta) (c : Cls X.K C) (hm : Meth X.K C m f) (F0 : FnOk X.prog X.w X.K X.mg X.base CT n f fd ps sp) (hr : Room n X.A) (hb : KBn X.K fd ps 1 ks g gV) (hx : Passes CT X E) (hkw : PK X kws tk)
    (hall : (backToKw pos (keywordEach kws X.env)).all (·.1.isSome) = true := by rfl) (hks : (backToKw pos (keywordEach kws X.env)).filterMap (·.1) = ks := by rfl)
    (hpl : ((backTo pos (starEach [] X.env)).any (·.1) || (backToKw pos (keywordEach kws X.env)).any (·.1.isNone)) = false := by rfl)
    (s3 : eval (.Call (.Attribute o m p) [] kws pos) X.env = (do
      let r ← eval o X.env
      standAt p.atName
      let (h, a0) ← holding [r] (getMethod r m pl)
      callWith pos h a0 (backTo pos (starEach [] X.env)) (backToKw pos (keywordEach kws X.env))) := by rfl) : PE X (.Call (.Attribute o m p) [] kws pos) (tMethK C m sp ks.length gV E ta tk) := by
  constructor
  intro pins s u G Q I h
  refine PySem.W.methodCall_KW (pl := pl) (thn (he.run pins s u G _ I h) ?_) s3
  rintro w s' ⟨v, G1, I1, r1, a, dx, fs, rfl, ho, hl, hq⟩
  obtain rfl : w = Value.ref a := r1
  refine getmeth_ok I1 ho c hm hl ?_
  refine PySem.W.callWith_KW0 (first := [.ref a]) (h₀ := X.base) I.ok.mod.kin hm.kp hall (thn (hkw.run pos pins s' u G1 _ I1 hq) ?_) hpl
  rintro ws s4 ⟨zs, G2, I2, rz, l2, q2⟩
  refine ⟨I2.kIn, ?_⟩
  rw [hks]
  exact run_fnN (us := [.ref a]) (vs := [.ref a]) F0 hr hb hx I2 (.cons rfl .nil) rz rfl l2 q2
section
variable {K : PySem.W.Frag} {F : Fx} {ρ : En} {k : AV → En → Prop} {ta tb tc : TE} {t tk : TA}
theorem we_methK {C : Addr} {m : Str} {sp : Sp} {n : Nat} {gV : List V → List V → List V} {E : XK} (h : WpE K F ta ρ fun x ρ1 => ∃ ns ds, IsO ρ1 x C ns ds ∧ hasN m ns = false ∧ WpA K F tk ρ1 fun ys ρ2 => ∃ zs, ys.length = n ∧ (∀ G as v ws, RepA K G as x v → RepAs K G as ys ws → RepAs K G as zs (gV [v] ws)) ∧ WpSp K F sp (fun _ => E) zs ρ2 k) : WpE K F (tMethK C m sp n gV E ta tk) ρ k := fun as σ H G e Q q =>
  h as σ H G e _ fun x ρ1 vx as1 H1 G1 ⟨ns, ds, ho, hn, h1⟩ e1 g1 r1 => by
    obtain ⟨a, dx, vs, rfl, hv, _, hr⟩ := ho.rep e1 r1
    exact ⟨a, dx, _, rfl, hv, look_none hn, h1 as1 σ H1 G1 e1 _ fun ys ρ2 ws as2 H2 G2 ⟨zs, hl, hg, h2⟩ e2 g2 r2 => ⟨by rw [r2.length]; exact hl, h2 as2 σ H2 G2 _ e2 (hg _ _ _ _ (r1.mono g2) r2) Q (q.imp (g1.trans g2) fun _ _ z => z)⟩⟩
/-- C(.., k=..) -/
theorem we_makeK {C : Addr} {n m : Nat} {sp : Sp} {gV : List V → List V → List V} {E : XK} (h : WpA K F t ρ fun xs ρ1 => WpA K F tk ρ1 fun ys ρ2 => ∃ ds es fs : List D, xs = ds.map .dat ∧ ys = es.map .dat ∧ ds.length = n ∧ es.length = m ∧ (∀ G as x vs ws, RepAs K G as xs vs → RepAs K G as ys ws → RepAs K G as (fs.map .dat) (gV (x :: vs) ws).tail ∧ (gV (x :: vs) ws).head? = some x) ∧ WpSp K F sp (fun _ => E) (.cel ρ2.ce.length :: fs.map .dat) (ρ2.addO C) fun r ρ3 => r = .dat .non ∧ k (.cel ρ2.ce.length) ρ3) : WpE K F (tMakeK C n m sp gV E t tk) ρ k := fun as σ H G e Q q =>
  h as σ H G e _ fun xs ρ1 vs as1 H1 G1 h1 e1 g1 r1 => h1 as1 σ H1 G1 e1 _ fun ys ρ2 ws as2 H2 G2 ⟨ds, es, fs, ex, ey, l1, l2, hg, h2⟩ e2 g2 r2 => by
    refine ⟨by rw [r1.length, ex, List.length_map]; exact l1, by rw [r2.length, ey, List.length_map]; exact l2, fun x dx hx hd ne => ?_⟩
    obtain ⟨G3, e3, g3, ln⟩ := new_obj (C := C) e2 hx hd ne
    have rl : RepA K G3 (as2 ++ [x]) (.cel ρ2.ce.length) (.ref x) := RepA.last ln
    obtain ⟨h3, h4⟩ := hg G3 (as2 ++ [x]) (.ref x) vs ws (r1.mono (g2.trans g3)) (r2.mono g3)
    obtain ⟨v0, us, eg⟩ : ∃ v0 us, gV (.ref x :: vs) ws = v0 :: us := by
      cases hh : gV (.ref x :: vs) ws with
      | nil => rw [hh] at h4; cases h4
      | cons v0 us => exact ⟨v0, us, rfl⟩
    rw [eg] at h3 h4 ⊢
    cases h4
    refine h2 _ σ _ G3 _ e3 (.cons rl h3) _ ?_
    rintro av ρ3 v as4 H4 G4 ⟨rfl, hk⟩ e4 g4 r4
    exact ⟨Rep.nonE r4, q _ _ _ _ _ _ hk e4 (g1.trans (g2.trans (g3.trans g4))) (rl.mono g4)⟩
theorem ch_var {i : Nat} {l : Int} {as : List Addr} {σ : L2.St} {H G : Hp} {Q : VK} (e : EnvOk K F ρ as σ H G) (h : ρ.sl[i]? = some (some (.dat (.int l)))) : Q (.int l) H → tVar i σ H Q := fun q => by
  obtain ⟨v, hv, r⟩ := e.sl i _ h
  exact ⟨v, hv, by rw [Rep.intE r]; exact q⟩
/-- .. where the last one is a name or a number that is written -/
theorem we_chV {g g' : Int → Int → Bool} {i : Nat} (h : WpE K F ta ρ fun x ρ1 => WpE K F tb ρ1 fun y ρ2 => ∃ a b l, x = .dat (.int a) ∧ y = .dat (.int b) ∧ ρ2.sl[i]? = some (some (.dat (.int l))) ∧ k (.dat (.bl (g a b && g' b l))) ρ2) : WpE K F (tChI g g' ta tb (tVar i)) ρ k := fun as σ H G e Q q =>
  h as σ H G e _ fun x ρ1 vx as1 H1 G1 h1 e1 g1 r1 => h1 as1 σ H1 G1 e1 _ fun y ρ2 vy as2 H2 G2 ⟨a, b, l, ex, ey, hs, hk⟩ e2 g2 r2 => by
    subst ex ey
    exact ch_var e2 hs ⟨a, b, l, Rep.intE (r1.mono g2), Rep.intE r2, rfl, rfl, q _ _ _ _ _ _ hk e2 (g1.trans g2) (Rep.bl _)⟩
theorem we_chC {g g' : Int → Int → Bool} {l : Int} (h : WpE K F ta ρ fun x ρ1 => WpE K F tb ρ1 fun y ρ2 => ∃ a b, x = .dat (.int a) ∧ y = .dat (.int b) ∧ k (.dat (.bl (g a b && g' b l))) ρ2) : WpE K F (tChI g g' ta tb (tC (.int l))) ρ k := fun as σ H G e Q q =>
  h as σ H G e _ fun x ρ1 vx as1 H1 G1 h1 e1 g1 r1 => h1 as1 σ H1 G1 e1 _ fun y ρ2 vy as2 H2 G2 ⟨a, b, ex, ey, hk⟩ e2 g2 r2 => by
    subst ex ey
    exact ⟨a, b, l, Rep.intE (r1.mono g2), Rep.intE r2, rfl, rfl, q _ _ _ _ _ _ hk e2 (g1.trans g2) (Rep.bl _)⟩
end
section
variable {K : PySem.W.Frag} {F : Fx} {ρ : En} {k : AV → En → Prop} {ta tb tc : TE}
/-- a < b < c, the second step only where the first is true -/
theorem we_chain {r r' : R2} (h : WpE K F ta ρ fun x ρ1 => WpE K F tb ρ1 fun y ρ2 => WpR K F r x y ρ2 fun z ρ3 => ∃ b, z = .dat (.bl b) ∧ if b = true then WpE K F tc ρ3 fun w ρ4 => WpR K F r' y w ρ4 k else k (.dat (.bl false)) ρ3) : WpE K F (tChain r r' ta tb tc) ρ k := fun as σ H G e Q q =>
  h as σ H G e _ fun x ρ1 vx as1 H1 G1 h1 e1 g1 r1 => h1 as1 σ H1 G1 e1 _ fun y ρ2 vy as2 H2 G2 h2 e2 g2 r2 => by
    refine h2 as2 σ H2 G2 vx vy e2 (r1.mono g2) r2 _ ?_
    rintro z ρ3 vz as3 H3 G3 ⟨b, rfl, h3⟩ e3 g3 r3
    refine ⟨b, Rep.blE r3, ?_⟩
    cases b with
    | true =>
      refine (show WpE K F tc ρ3 _ from h3) as3 σ H3 G3 e3 _ ?_
      exact fun w ρ4 vw as4 H4 G4 h4 e4 g4 r4 => h4 as4 σ H4 G4 vy vw e4 ((r2.mono g3).mono g4) r4 Q (q.imp (g1.trans (g2.trans (g3.trans g4))) fun _ _ z => z)
    | false => exact q _ ρ3 _ as3 H3 G3 h3 e3 (g1.trans (g2.trans g3)) (Rep.bl _)
end
/-! ### a well: a list of three whole numbers from which is drawn -/
def IsW (s : List D) : Prop := ∃ x y z : Int, s = [.int x, .int y, .int z]
/-! ### x.f += a number, of an object still written to -/
section
variable {K : PySem.W.Frag} {F : Fx} {ρ : En} {ks : KS} {ta : TE}
theorem ws_fldaug {f : Str} {m : Int} (h : WpE K F ta ρ fun x ρ1 => ∃ j C ns ds n, x = .cel j ∧ ρ1.ce[j]? = some (.ins C ns ds) ∧ Cls K C ∧ NoAttr K C f ∧ lookD ns ds f = some (.int n) ∧ Nat.ble ns.length 900 = true ∧ ks.nx (ρ1.cell j (.ins C (putN f ns) (putD f (.int (n + m)) ns ds)))) : WpS K F (sFldAug K ta (tC (.int m)) rAdd f) ρ ks := fun as σ H G e D q =>
  h as σ H G e _ fun x ρ1 vx as1 H1 G1 ⟨j, C, ns, ds, n, ex, hc, cl, na, lk, hl, hk⟩ e1 g1 r1 => by
    subst ex
    obtain ⟨a, ha, rfl⟩ := r1
    obtain ⟨_, _, gn, dx, vs, hv, ln, hr⟩ := e1.ce j _ a hc ha
    obtain ⟨v, hvl, rv⟩ := look_rep hr lk
    have ev : v = .int n := Rep.intE rv
    subst ev
    obtain ⟨ws, ez, ln2, hr2⟩ := put_zip (f := f) (Rep.int (n + m)) hr ln
    have hl := Nat.le_of_ble_eq_true hl
    refine ⟨a, C, dx, ns.zip vs, _, rfl, hv, cl, na, hvl, n, m, rfl, rfl, dx, ns.zip vs, hv, by rw [List.length_zip]; omega, ?_⟩
    rw [ez]
    exact q.nx _ as1 σ _ G1 hk (e1.setO hc ha gn ⟨gn, dx, ws, upd_same, ln2, hr2⟩) g1
end
/-! ### a state to draw from, opened and shut; extend, [::-1]; a state and another cell lent at once -/
section
variable {K : PySem.W.Frag} {F : Fx} {ρ : En} {k : AV → En → Prop} {ks : KS} {te : TE}
theorem EnvOk.recell {as : List Addr} {σ : L2.St} {H G : Hp} {j : Nat} {c c' : Cell} (e : EnvOk K F ρ as σ H G) (hj : ρ.ce[j]? = some c) (h : ∀ a, as[j]? = some a → CellOk K G H a c → CellOk K G H a c') (nr : ∀ t X, c' ≠ Cell.reg t X := by intro t X z; cases z) : EnvOk K F (ρ.cell j c') as σ H G := by
  have hl : j < ρ.ce.length := (List.getElem?_eq_some_iff.mp hj).1
  refine ⟨e.gh, e.fh, e.fg, e.g0, e.nd, e.pr, by rw [e.ln]; exact (List.length_set).symm, fun i c2 a hc ha => ?_, e.sn, e.sl, by
    obtain ⟨Ts, r⟩ := e.rg
    exact r.setC (List.getElem?_eq_getElem (by rw [e.ln]; exact hl)) nr (fun _ _ _ h => h) (fun _ _ _ _ g => g) (Same.refl _)⟩
  have hc' : (ρ.ce.set j c')[i]? = some c2 := hc
  by_cases hij : j = i
  · subst hij
    rw [List.getElem?_set_self hl] at hc'
    cases hc'
    obtain ⟨fa, ho, ok⟩ := e.ce j _ a hj ha
    exact ⟨fa, ho, h a ha ok⟩
  · rw [List.getElem?_set_ne hij] at hc'
    exact e.ce i c2 a hc' ha
theorem ws_drwO {t : TS} {j : Nat} (hj : ρ.ce[j]? = some .drw) (h1 : ∀ x : Int, WpS K F t (ρ.cell j (.lst [.int x])) ks) (h3 : ∀ x y z : Int, WpS K F t (ρ.cell j (.lst [.int x, .int y, .int z])) ks) : WpS K F t ρ ks := fun as σ H G e D q => by
  obtain ⟨a, ha⟩ : ∃ a, as[j]? = some a := ⟨_, List.getElem?_eq_getElem (by rw [e.ln]; exact (List.getElem?_eq_some_iff.mp hj).1)⟩
  obtain ⟨_, _, g, xs, hx, st⟩ := e.ce j _ a hj ha
  rcases st with ⟨x, rfl⟩ | ⟨x, y, z, rfl⟩
  · refine h1 x as σ H G (e.recell hj fun b hb _ => ?_) D q
    rw [ha] at hb
    cases hb
    exact ⟨g, _, hx, .cons (.int x) .nil⟩
  · refine h3 x y z as σ H G (e.recell hj fun b hb _ => ?_) D q
    rw [ha] at hb
    cases hb
    exact ⟨g, _, hx, .cons (.int x) (.cons (.int y) (.cons (.int z) .nil))⟩
theorem ws_drw3 {t : TS} {j : Nat} {x y z : Int} (hj : ρ.ce[j]? = some (.lst [.int x, .int y, .int z])) (h : WpS K F t (ρ.cell j .drw) ks) : WpS K F t ρ ks := fun as σ H G e D q => by
  refine h as σ H G (e.recell hj fun b hb ok => ?_) D q
  obtain ⟨g, ws, hw, hr⟩ := ok
  refine ⟨g, ws, hw, ?_⟩
  cases hr with
  | cons a r =>
    cases r with
    | cons b r =>
      cases r with
      | cons c r =>
        cases r
        rw [Rep.intE a, Rep.intE b, Rep.intE c]
        exact .inr ⟨_, _, _, rfl⟩
theorem we_revL (h : WpE K F te ρ fun x ρ1 => ∃ ds, IsL ρ1 x ds ∧ k (.cel ρ1.ce.length) (ρ1.add ds.reverse)) : WpE K F (tRevL K te) ρ k := fun as σ H G e Q q =>
  h as σ H G e _ fun x ρ1 vx as1 H1 G1 ⟨ds, hd, h1⟩ e1 g1 r1 => by
    obtain ⟨a, vs, rfl, hs, hr⟩ := hd.rep e1 r1
    exact ⟨a, vs, rfl, hs, fun p hp => new_list e1 (q.imp g1 fun _ _ z => z) hr.reverse h1 hp⟩
/-- a state to draw from and another cell, both lent, both come back as they are -/
theorem wspO {W : PW0} {E : L2.St → XK} {xs : List AV} {j t : Nat} {X : CellX} (hj : ρ.ce[j]? = some .drw) (ht : ρ.ce[t]? = some (.oth X)) (ho : onlyC j xs = true) (hw : W (xs.map lend) [.drw, .oth X] (fun r cs => cs = [.drw, .oth X] ∧ ∃ d, r = .dat d ∧ k (.dat d) ρ) (fun _ => False)) : WpSp K F (spG K W) E xs ρ k := by
  intro as σ H G vs e rx Q q
  obtain ⟨a, ha⟩ : ∃ a, as[j]? = some a := ⟨_, List.getElem?_eq_getElem (by rw [e.ln]; exact (List.getElem?_eq_some_iff.mp hj).1)⟩
  obtain ⟨b, hb⟩ : ∃ b, as[t]? = some b := ⟨_, List.getElem?_eq_getElem (by rw [e.ln]; exact (List.getElem?_eq_some_iff.mp ht).1)⟩
  have jt : j ≠ t := fun z => by subst z; rw [hj] at ht; cases ht
  have inj : ∀ {i l : Nat} {c : Addr}, as[i]? = some c → as[l]? = some c → i = l := fun h1 h2 => (List.getElem?_inj (List.getElem?_eq_some_iff.mp h1).1 e.nd).mp (h1.trans h2.symm)
  have ab : a ≠ b := fun z => by subst z; exact jt (inj ha hb)
  obtain ⟨fa, hxa, oka⟩ := e.ce j _ a hj ha
  obtain ⟨fb, hxb, okb⟩ := e.ce t _ b ht hb
  have rl : RepAs K G [a, b] (xs.map lend) vs := by
    have main : ∀ (ys : List AV) (ws : List V), onlyC j ys = true → RepAs K G as ys ws → RepAs K G [a, b] (ys.map lend) ws := by
      intro ys
      induction ys with
      | nil => intro ws _ r; cases r; exact .nil
      | cons y ys ih =>
        intro ws ho r
        cases r with
        | cons r1 r2 =>
          cases y with
          | tup xs => rw [onlyC] at ho; cases ho
          | dat d => exact .cons (Rep.mono (Same.refl _) _ _ r1) (ih _ ho r2)
          | cel i =>
            rw [onlyC, Bool.and_eq_true] at ho
            have ei := of_decide_eq_true ho.1
            subst ei
            obtain ⟨p, hp, rfl⟩ := r1
            rw [ha] at hp
            cases hp
            exact .cons ⟨a, rfl, rfl⟩ (ih _ ho.2 r2)
    exact main xs vs ho rx
  obtain ⟨Ts0, r0⟩ := e.rg
  refine ⟨G, [a, b], fun _ _ => none, xs.map lend, [.drw, .oth X], _, _, e.gh, ⟨rfl, by simp [ab], fun i c2 d hc hd => ?_⟩, RegsAt.no (fun i t Y z => ?_), rl, hw, ?_, fun _ _ z => z.elim⟩
  · cases i with
    | zero => simp at hc hd; subst hc hd; exact ⟨hxa, oka⟩
    | succ i =>
      cases i with
      | zero => simp at hc hd; subst hc hd; exact ⟨hxb, okb⟩
      | succ i => simp at hc
  · cases i with
    | zero => cases z
    | succ i =>
      cases i with
      | zero => cases z
      | succ i => simp at z
  · rintro r cs' v H' G' Ts' ⟨rfl, d, rfl, hk⟩ fr sG gh' nw ck _ _ rr
    have fr' : ∀ c o, c ≠ a → c ≠ b → H c = some o → H' c = some o := fun c o n1 n2 h => fr c o (by simp [n1, n2]) (fun _ => rfl) h
    have gn : ∀ {c : Addr} {o : HO}, H c = some o → G c = none → G' c = none := fun {c o} hco g => by
      cases z : G' c with
      | none => rfl
      | some o2 =>
        rcases nw c o2 z with y | y | ⟨_, y⟩
        · rw [g] at y; cases y
        · rw [hco] at y; cases y
        · exact absurd rfl y
    have rN : RegsAt Ts0 F.Fr G' H' as ρ.ce := r0.same (fun i c o h hc => fr' c o
      (fun z => by
        subst z
        have := (r0.pl i c o h).2.2.2 j ha
        subst this
        obtain ⟨t, X, y⟩ := r0.is h
        rw [hj] at y; cases y)
      (fun z => by
        subst z
        have := (r0.pl i c o h).2.2.2 t hb
        subst this
        obtain ⟨_, X, y⟩ := r0.is h
        rw [ht] at y; cases y) hc) (fun c o ho g => gn ho g) (fun _ z => z) fun _ _ z => .inl (sG _ _ z)
    refine q _ _ v as H' G' hk ⟨gh', fun c o h => fr' c o (ne_of_none h fa) (ne_of_none h fb) (e.fh _ _ h), fun c o h => ?_, Same.trans e.g0 sG, e.nd, e.pr, e.ln, fun i c2 c hc hcc => ?_, e.sn, fun i av hi => ?_, ⟨_, rN⟩⟩ ⟨sG, [], by simp⟩ rr
    · rcases nw c o h with y | y | ⟨_, y⟩
      · exact e.fg _ _ y
      · exact .inr (Same.none e.fh y)
      · exact absurd rfl y
    · by_cases hij : i = j
      · subst hij
        rw [hj] at hc
        rw [ha] at hcc
        cases hc
        cases hcc
        obtain ⟨h1, h2⟩ := ck.ok 0 .drw a rfl rfl
        exact ⟨fa, h1, h2⟩
      · by_cases hit : i = t
        · subst hit
          rw [ht] at hc
          rw [hb] at hcc
          cases hc
          cases hcc
          obtain ⟨h1, h2⟩ := ck.ok 1 (.oth X) b rfl rfl
          exact ⟨fb, h1, h2⟩
        · obtain ⟨fc, ⟨o, hco⟩, okc⟩ := e.ce i c2 c hc hcc
          have na : c ≠ a := fun z => by subst z; exact hij (inj hcc ha)
          have nb : c ≠ b := fun z => by subst z; exact hit (inj hcc hb)
          refine ⟨fc, ⟨o, fr' _ _ na nb hco⟩, ?_⟩
          cases c2 with
          | gone => trivial
          | reg t X => exact gn hco okc
          | lst es => obtain ⟨g, ws, hw, r⟩ := okc; exact ⟨gn hco g, ws, fr' _ _ na nb hw, Reps.mono sG _ _ r⟩
          | ins C9 ns9 es => obtain ⟨g, dx9, ws, hw, ln9, r⟩ := okc; exact ⟨gn hco g, dx9, ws, fr' _ _ na nb hw, ln9, Reps.mono sG _ _ r⟩
          | drw => obtain ⟨g, ws, hw, r⟩ := okc; exact ⟨gn hco g, ws, fr' _ _ na nb hw, r⟩
          | oth X => obtain ⟨g, o9, hw, r⟩ := okc; exact ⟨gn hco g, o9, fr' _ _ na nb hw, X.mono (fun _ _ z => .inl (sG _ _ z)) r⟩
    · obtain ⟨v, hv, r⟩ := e.sl i av hi
      exact ⟨v, hv, r.mono ⟨sG, [], by simp⟩⟩
end
theorem wm_extT {K : PySem.W.Frag} {F : Fx} {ρ : En} {k : AV → En → Prop} {j : Nat} {ds es : List D} (hc : ρ.ce[j]? = some (.lst ds)) (hl : ds.length + es.length ≤ 16000000) (hk : k (.dat .non) (ρ.cell j (.lst (ds ++ es)))) : WpM K F (rExtT K) (.cel j) [.dat (.tup es)] ρ k := fun as σ H G v vs e r1 r2 Q q => by
  obtain ⟨a, ha, rfl⟩ := r1
  cases r2 with
  | cons rb rn =>
    cases rn
    obtain ⟨b, us, rfl, hs, hr2⟩ := Rep.tupE rb
    obtain ⟨_, _, g, ws, hw, hr⟩ := e.ce j _ a hc ha
    refine ⟨a, b, ws, us, rfl, rfl, hw, Same.seqT e.gh hs, szb (by rw [hr.length, hr2.length]; omega), ?_⟩
    exact q _ _ _ as _ G hk (e.setC hc ha g ⟨g, _, upd_same, hr.append hr2⟩) .refl Rep.non
/-! a function that a slot holds, called in a try -/
theorem we_callLS {K : PySem.W.Frag} {F : Fx} {ρ : En} {k : AV → En → Prop} {W : WX} {i : Nat} {f : Addr} {sp : Sp} {t : TA} (hs : ρ.sl[i]? = some (some (.dat (.cls f)))) (h : WpA K F t ρ fun xs ρ1 => WpSp K F sp (L2.WE W) xs ρ1 k) : WpE K F (tCallLS W i f sp t) ρ k := fun as σ H G e Q q => by
  obtain ⟨v, hv, r⟩ := e.sl i _ hs
  cases (show Rep K G (.cls f) v from r)
  exact ⟨hv, h as σ H G e _ fun xs ρ1 vs as1 H1 G1 h1 e1 g1 r1 => h1 as1 σ H1 G1 vs e1 r1 Q (q.imp g1 fun _ _ z => z)⟩
/-! ### a list's insert -/
section
variable {K : PySem.W.Frag} {F : Fx} {ρ : En} {k : AV → En → Prop}
theorem wm_insert {j : Nat} {x : AV} {ds : List D} {d : D} {i : Int} {ρ2 : En} (fz : Frz [x] ρ [d] ρ2) (hc : ρ2.ce[j]? = some (.lst ds)) (hl : ds.length < 16000000) (i0 : 0 ≤ i) (i1 : i < 16000000) (hk : k (.dat .non) (ρ2.cell j (.lst (ds.take i.toNat ++ [d] ++ ds.drop i.toNat)))) : WpM K F (fun x vs H Q => ∃ (l : Addr) (xs : List V) (i : Int) (y : V), x = .ref l ∧ vs = [.int i, y] ∧ H l = some (.lst xs) ∧ xs.length < sizeLine ∧ 0 ≤ i ∧ i < 2 ^ 63 ∧ Q .non (upd H l (.lst (xs.take i.toNat ++ [y] ++ xs.drop i.toNat)))) (.cel j) [.dat (.int i), x] ρ k := fun as σ H G v vs e r1 r2 Q q => by
  cases r2 with
  | cons ri r2 =>
    have ri := Rep.intE ri
    subst ri
    obtain ⟨G2, e2, g2, r3⟩ := fz.run e r2
    obtain ⟨a, ha, rfl⟩ := r1
    cases r3 with
    | cons y z =>
      cases z
      obtain ⟨_, _, g, ws, hw, hr⟩ := e2.ce j _ a hc ha
      refine ⟨a, ws, i, _, rfl, rfl, hw, szbl (by rw [hr.length]; omega), i0, by omega, q _ _ _ as _ G2 hk (e2.setC hc ha g ⟨g, _, upd_same, ?_⟩) g2 Rep.non⟩
      exact ((hr.take _).append (.cons y .nil)).append (hr.drop _)
def frzK (k : AV → En → Prop) : AV → En → Prop := fun av ρ' => ∃ j ds, av = .cel j ∧ ρ'.ce[j]? = some (.lst ds) ∧ k (.dat (.lst ds)) (ρ'.frz j ds)
theorem got_frz {as : List Addr} {σ : L2.St} {G : Hp} {Q : VK} (q : Got K F ρ as σ G k Q) : Got K F ρ as σ G (frzK k) Q := fun av ρ' v as' H' G' ⟨j, ds, ea, hc, hk⟩ e' g' ra => by
  subst ea
  obtain ⟨a, ha, rfl⟩ := ra
  obtain ⟨vs, e2, g2, rr⟩ := e'.frz hc ha
  exact q _ _ _ as' H' _ hk e2 (g'.trans g2) rr
/-- a new list that nobody writes to is data at once -/
theorem wr_frz {r : R2} {x y : AV} (h : WpR K F r x y ρ (frzK k)) : WpR K F r x y ρ k := fun as σ H G vx vy e r1 r2 Q q => h as σ H G vx vy e r1 r2 Q (got_frz q)
/-- a cell that nobody writes to any more is data -/
theorem ws_frz {t : TS} {ks : KS} {j : Nat} {ds : List D} (hj : ρ.ce[j]? = some (.lst ds)) (h : WpS K F t (ρ.frz j ds) ks) : WpS K F t ρ ks := fun as σ H G e D q => by
  have hl : j < as.length := by rw [e.ln]; exact (List.getElem?_eq_some_iff.mp hj).1
  obtain ⟨vs, e2, g2, _⟩ := e.frz hj (List.getElem?_eq_getElem hl)
  exact h as σ H _ e2 D (EndsOk.grow K F q g2)
end
/-! ### things of which the address is known: pointers to them are data -/
section
variable {K : PySem.W.Frag} {F : Fx} {ρ : En} {k : AV → En → Prop} {ks : KS} {te ta tv : TE} {t : TA}
/-- the tagged cell of a list or an object of scalars and pointers -/
def tagC (p : Addr) : Cell → Option CellX
  | .lst ds => if atoms ds = true then some (lstX p ds) else none
  | .ins C ns ds => if atoms ds = true then some (insX p C ns ds) else none
  | _ => none
theorem tagC_ok {G H : Hp} {p : Addr} {c : Cell} {X : CellX} (h : tagC p c = some X) (ok : CellOk K G H p c) : CellOk K G H p (.oth X) := by
  cases c with
  | lst ds =>
    have h : (if atoms ds = true then some (lstX p ds) else none) = some X := h
    by_cases q : atoms ds = true
    · rw [if_pos q] at h
      cases h
      obtain ⟨g, vs, hv, hr⟩ := ok
      exact ⟨g, _, hv, rfl, vs, rfl, fun K' G' => Reps.atoms q hr⟩
    · rw [if_neg q] at h; cases h
  | ins C ns ds =>
    have h : (if atoms ds = true then some (insX p C ns ds) else none) = some X := h
    by_cases q : atoms ds = true
    · rw [if_pos q] at h
      cases h
      obtain ⟨g, dx, vs, hv, ln, hr⟩ := ok
      exact ⟨g, _, hv, rfl, dx, vs, rfl, ln, fun K' G' => Reps.atoms q hr⟩
    · rw [if_neg q] at h; cases h
  | _ => cases h
/-- a cell is told by its address -/
theorem we_ptr (h : WpE K F te ρ fun y ρ1 => ∃ (m : Nat) (c0 : Cell), y = .cel m ∧ ρ1.ce[m]? = some c0 ∧ (tagC 0 c0).isSome = true ∧ ∀ p X, tagC p c0 = some X → k (.dat (.cls p)) (ρ1.cell m (.oth X))) : WpE K F te ρ k := fun as σ H G e Q q =>
  h as σ H G e Q fun y ρ1 v as1 H1 G1 ⟨m, c0, ey, hc, hs, hk⟩ e1 g1 r1 => by
    subst ey
    obtain ⟨a, ha, rfl⟩ := r1
    obtain ⟨X, hX⟩ : ∃ X, tagC a c0 = some X := by
      cases c0 with
      | lst ds =>
        have hs : (if atoms ds = true then some (lstX 0 ds) else none).isSome = true := hs
        by_cases q : atoms ds = true
        · exact ⟨_, if_pos q⟩
        · rw [if_neg q] at hs; cases hs
      | ins C ns ds =>
        have hs : (if atoms ds = true then some (insX 0 C ns ds) else none).isSome = true := hs
        by_cases q : atoms ds = true
        · exact ⟨_, if_pos q⟩
        · rw [if_neg q] at hs; cases hs
      | _ => cases hs
    refine q _ _ _ as1 H1 G1 (hk a X hX) (e1.recell hc fun b hb ok => ?_) g1 (Rep.cls a)
    rw [ha] at hb
    cases hb
    exact tagC_ok hX ok
/-- an append through a pointer -/
theorem we_bmT {r : V → List V → Hp → VK → Prop} (h : WpE K F ta ρ fun x ρ1 => (∃ (j : Nat) (c : Addr) (ds : List D), x = .dat (.cls c) ∧ ρ1.ce[j]? = some (Cell.oth (lstX c ds))) ∧ WpA K F t ρ1 fun xs ρ2 => WpM K F r x xs ρ2 k) : WpE K F (tBM K "list" r ta t) ρ k := fun as σ H G e Q q =>
  h as σ H G e _ fun x ρ1 vx as1 H1 G1 ⟨⟨j, c, ds, ex, hc⟩, h1⟩ e1 g1 r1 => by
    subst ex
    obtain ⟨a, vs, rfl, hs, _⟩ := (IsL.tag hc).rep e1 r1
    exact ⟨.inl ⟨rfl, vs, hs⟩, h1 as1 σ H1 G1 e1 _ fun xs ρ2 vs as2 H2 G2 h2 e2 g2 r2 => h2 as2 σ H2 G2 _ vs e2 (r1.mono g2) r2 Q (q.imp (g1.trans g2) fun _ _ z => z)⟩
theorem wm_appendT {j : Nat} {c : Addr} {ds : List D} {d : D} (hc : ρ.ce[j]? = some (.oth (lstX c ds))) (hd : atom d = true) (hl : ds.length < 16000000) (hk : k (.dat .non) (ρ.cell j (.oth (lstX c (ds ++ [d]))))) : WpM K F rAppend (.dat (.cls c)) [.dat d] ρ k := fun as σ H G v vs e r1 r2 Q q => by
  cases (show Rep K G (.cls c) v from r1)
  cases r2 with
  | cons ra rb =>
    cases rb
    obtain ⟨a, ha⟩ : ∃ a, as[j]? = some a := ⟨_, List.getElem?_eq_getElem (by rw [e.ln]; exact (List.getElem?_eq_some_iff.mp hc).1)⟩
    obtain ⟨_, _, g, o, ho, rfl, ws, rfl, hr⟩ := e.ce _ _ a hc ha
    have ra' : Rep K G d _ := ra
    exact ⟨a, ws, _, rfl, rfl, ho, szbl (by rw [(hr K G).length]; omega), q _ _ _ as _ G hk (e.setC hc ha g ⟨g, _, upd_same, rfl, _, rfl, fun K' G' => (hr K' G').append (.cons (Rep.atom hd ra') .nil)⟩) .refl Rep.non⟩
/-- a field is set through a pointer -/
theorem ws_fsetT {f : Str} (h : WpE K F tv ρ fun y ρ1 => WpE K F ta ρ1 fun x ρ2 => ∃ (j : Nat) (g C : Addr) (ns : List Str) (ds : List D) (d : D), x = .dat (.cls g) ∧ y = .dat d ∧ atom d = true ∧ ρ2.ce[j]? = some (Cell.oth (insX g C ns ds)) ∧ Cls K C ∧ NoAttr K C f ∧ Nat.ble ns.length 900 = true ∧ ks.nx (ρ2.cell j (.oth (insX g C (putN f ns) (putD f d ns ds))))) : WpS K F (sFld K ta tv f) ρ ks := fun as σ H G e D q =>
  h as σ H G e _ fun y ρ1 vy as1 H1 G1 h1 e1 g1 r1 => h1 as1 σ H1 G1 e1 _ fun x ρ2 vx as2 H2 G2 ⟨j, g, C, ns, ds, d, ex, ey, hd, hc, cl, na, hl, hk⟩ e2 g2 r2 => by
    subst ex ey
    cases (show Rep K G2 (.cls g) vx from r2)
    have ry : Rep K G1 d vy := r1
    obtain ⟨a, ha⟩ : ∃ a, as2[j]? = some a := ⟨_, List.getElem?_eq_getElem (by rw [e2.ln]; exact (List.getElem?_eq_some_iff.mp hc).1)⟩
    obtain ⟨_, _, gn, o, ho, rfl, dx, vs, rfl, ln, hr⟩ := e2.ce _ _ a hc ha
    obtain ⟨ws, ez, ln2, hr2⟩ := put_zip (f := f) ry (hr K G1) ln
    have hl := Nat.le_of_ble_eq_true hl
    refine ⟨a, C, dx, ns.zip vs, rfl, ho, cl, na, by rw [List.length_zip]; omega, ?_⟩
    rw [ez]
    refine q.nx _ as2 σ _ G2 hk (e2.setO hc ha gn ⟨gn, _, upd_same, rfl, dx, ws, rfl, ln2, fun K' G' => ?_⟩) (g1.trans g2)
    obtain ⟨ws', ez', _, hr2'⟩ := put_zip (f := f) (Rep.atom (K' := K') (G' := G') hd ry) (hr K' G') ln
    have : ws' = ws := by
      have e3 : (putN f ns).zip ws' = (putN f ns).zip ws := ez'.symm.trans ez
      have l1 := hr2'.length
      have l2 := hr2.length
      have := congrArg (List.map Prod.snd) e3
      rw [List.map_snd_zip (by omega), List.map_snd_zip (by omega)] at this
      exact this
    subst this
    exact hr2'
/-- x.f += a number, through a pointer -/
theorem ws_fldaugT {f : Str} {m : Int} (h : WpE K F ta ρ fun x ρ1 => ∃ (j : Nat) (g C : Addr) (ns : List Str) (ds : List D) (n : Int), x = .dat (.cls g) ∧ ρ1.ce[j]? = some (Cell.oth (insX g C ns ds)) ∧ Cls K C ∧ NoAttr K C f ∧ lookD ns ds f = some (.int n) ∧ Nat.ble ns.length 900 = true ∧ ks.nx (ρ1.cell j (.oth (insX g C (putN f ns) (putD f (.int (n + m)) ns ds))))) : WpS K F (sFldAug K ta (tC (.int m)) rAdd f) ρ ks := fun as σ H G e D q =>
  h as σ H G e _ fun x ρ1 vx as1 H1 G1 ⟨j, g, C, ns, ds, n, ex, hc, cl, na, lk, hl, hk⟩ e1 g1 r1 => by
    subst ex
    cases (show Rep K G1 (.cls g) vx from r1)
    obtain ⟨a, ha⟩ : ∃ a, as1[j]? = some a := ⟨_, List.getElem?_eq_getElem (by rw [e1.ln]; exact (List.getElem?_eq_some_iff.mp hc).1)⟩
    obtain ⟨_, _, gn, o, ho, rfl, dx, vs, rfl, ln, hr⟩ := e1.ce _ _ a hc ha
    obtain ⟨v, hvl, rv⟩ := look_rep (hr K G1) lk
    have ev : v = .int n := Rep.intE rv
    subst ev
    obtain ⟨ws, ez, ln2, hr2⟩ := put_zip (f := f) (K := K) (G := G1) (Rep.int (n + m)) (hr K G1) ln
    have hl := Nat.le_of_ble_eq_true hl
    refine ⟨a, C, dx, ns.zip vs, _, rfl, ho, cl, na, hvl, n, m, rfl, rfl, dx, ns.zip vs, ho, by rw [List.length_zip]; omega, ?_⟩
    rw [ez]
    refine q.nx _ as1 σ _ G1 hk (e1.setO hc ha gn ⟨gn, _, upd_same, rfl, dx, ws, rfl, ln2, fun K' G' => ?_⟩) g1
    obtain ⟨ws', ez', _, hr2'⟩ := put_zip (f := f) (Rep.int (K := K') (G := G') (n + m)) (hr K' G') ln
    have : ws' = ws := by
      have e3 : (putN f ns).zip ws' = (putN f ns).zip ws := ez'.symm.trans ez
      have l1 := hr2'.length
      have l2 := hr2.length
      have := congrArg (List.map Prod.snd) e3
      rw [List.map_snd_zip (by omega), List.map_snd_zip (by omega)] at this
      exact this
    subst this
    exact hr2'
/-! calls: cells are lent, pointers to them are handed in as data -/
def setAll : List Cell → List Nat → List Cell → List Cell
  | ce, j :: js, c :: cs => setAll (ce.set j c) js cs
  | ce, _, _ => ce
def En.cells (ρ : En) (js : List Nat) (cs : List Cell) : En := ⟨ρ.sl, setAll ρ.ce js cs⟩
theorem setAll_len : ∀ (ce : List Cell) (js : List Nat) (cs : List Cell), (setAll ce js cs).length = ce.length
  | _, [], _ => by unfold setAll; rfl
  | _, _ :: _, [] => rfl
  | ce, j :: js, c :: cs => by rw [setAll, setAll_len, List.length_set]
theorem setAll_out : ∀ (ce : List Cell) (js : List Nat) (cs : List Cell) (i : Nat), i ∉ js → (setAll ce js cs)[i]? = ce[i]?
  | _, [], _, _, _ => by unfold setAll; rfl
  | _, _ :: _, [], _, _ => rfl
  | ce, j :: js, c :: cs, i, h => by
    rw [List.mem_cons, not_or] at h
    rw [setAll, setAll_out _ js cs i h.2, List.getElem?_set_ne (fun z => h.1 z.symm)]
theorem setAll_in : ∀ (ce : List Cell) (js : List Nat) (cs : List Cell) (m i : Nat) (c : Cell), js.Nodup → i < ce.length → js[m]? = some i → cs[m]? = some c → (setAll ce js cs)[i]? = some c
  | _, [], _, _, _, _, _, _, h, _ => by simp at h
  | _, _ :: _, [], _, _, _, _, _, _, h => by simp at h
  | ce, j :: js, c :: cs, 0, i, c2, nd, hl, h1, h2 => by
    simp at h1 h2
    subst h1 h2
    rw [setAll, setAll_out _ _ _ _ (List.nodup_cons.mp nd).1, List.getElem?_set_self hl]
  | ce, j :: js, c :: cs, m + 1, i, c2, nd, hl, h1, h2 => by
    rw [setAll]
    exact setAll_in _ js cs m i c2 (List.nodup_cons.mp nd).2 (by rw [List.length_set]; exact hl) (by simpa using h1) (by simpa using h2)
def isRegC : Cell → Bool
  | .reg _ _ => true
  | _ => false
def aftP (ρ : En) (js : List Nat) (k : AV → En → Prop) (r : RV) (cs : List Cell) : Prop := noGone cs = true ∧ cs.all (fun c => !isRegC c) = true ∧ match r with
  | .dat d => k (.dat d) (ρ.cells js cs)
  | .new es => k (.cel ρ.ce.length) ((ρ.cells js cs).add es)
  | .prt as1 es bs1 => k (.tup (as1.map .dat ++ .cel ρ.ce.length :: bs1.map .dat)) ((ρ.cells js cs).add es)
  | .ext d X => k (.dat d) ((ρ.cells js cs).addT X)
  | .reg X => k (.cel ρ.ce.length) ((ρ.cells js cs).addX X)
theorem isRegC_no {c : Cell} (h : (!isRegC c) = true) : ∀ t X, c ≠ .reg t X := fun t X z => by subst z; cases h
theorem wspP {W : PW0} {E : L2.St → XK} {ds : List D} {js : List Nat} {cs : List Cell} {exc : Addr → Prop} (hX : ∀ C σ H, exc C → Same F.Fr H → E σ (.ref C) none H) (hj : js.map (fun j => ρ.ce[j]?) = cs.map some) (nd : js.Nodup) (nr : cs.all (fun c => !isRegC c) = true) (hw : W (ds.map .dat) cs (fun r cs' => aftP ρ js k r cs') exc) : WpSp K F (spG K W) E (ds.map .dat) ρ k := by
  intro as σ H G vs e rx Q q
  have ln : js.length = cs.length := by have := congrArg List.length hj; simpa using this
  have cat : ∀ (m : Nat) (j : Nat), js[m]? = some j → ∃ c, cs[m]? = some c ∧ ρ.ce[j]? = some c := fun m j h => by
    have h1 : (js.map (fun j => ρ.ce[j]?))[m]? = some ρ.ce[j]? := by rw [List.getElem?_map, h]; rfl
    rw [hj, List.getElem?_map] at h1
    obtain ⟨c, hc, ec⟩ := Option.map_eq_some_iff.mp h1
    exact ⟨c, hc, ec.symm⟩
  have inb : ∀ j ∈ js, j < as.length := fun j h => by
    obtain ⟨m, hm⟩ := List.getElem?_of_mem h
    obtain ⟨c, _, h2⟩ := cat m j hm
    rw [e.ln]
    exact (List.getElem?_eq_some_iff.mp h2).1
  -- their places
  let bs : List Addr := js.map fun j => as.getD j 0
  have bat : ∀ (m j : Nat), js[m]? = some j → ∃ a, bs[m]? = some a ∧ as[j]? = some a := fun m j h => by
    have hl := inb j (List.mem_of_getElem? h)
    refine ⟨as[j], ?_, List.getElem?_eq_getElem hl⟩
    show (js.map fun j => as.getD j 0)[m]? = _
    rw [List.getElem?_map, h]
    show some (as.getD j 0) = _
    rw [List.getD_eq_getElem?_getD, List.getElem?_eq_getElem hl]
    rfl
  have bof : ∀ (m : Nat) (a : Addr), bs[m]? = some a → ∃ j, js[m]? = some j ∧ as[j]? = some a := fun m a h => by
    have h : (js.map fun j => as.getD j 0)[m]? = some a := h
    rw [List.getElem?_map] at h
    obtain ⟨j, hm, ej⟩ := Option.map_eq_some_iff.mp h
    obtain ⟨a2, x, y⟩ := bat m j hm
    have x : (js.map fun j => as.getD j 0)[m]? = some a2 := x
    rw [List.getElem?_map, hm] at x
    have : as.getD j 0 = a2 := Option.some.inj x
    rw [ej] at this
    exact ⟨j, hm, by rw [this]; exact y⟩
  have inj : ∀ {i l : Nat} {c : Addr}, as[i]? = some c → as[l]? = some c → i = l := fun h1 h2 => (List.getElem?_inj (List.getElem?_eq_some_iff.mp h1).1 e.nd).mp (h1.trans h2.symm)
  have bmem : ∀ {i : Nat} {a : Addr}, as[i]? = some a → a ∈ bs → i ∈ js := fun {i a} h m => by
    obtain ⟨l, hl⟩ := List.getElem?_of_mem m
    obtain ⟨j, h1, h2⟩ := bof l a hl
    rw [inj h h2]
    exact List.mem_of_getElem? h1
  have bnd : bs.Nodup := by
    refine List.pairwise_iff_getElem.mpr fun m n hm hn hmn z => ?_
    have hn' : n < js.length := by have : bs.length = js.length := List.length_map ..; omega
    have z : bs[m]? = bs[n]? := by rw [List.getElem?_eq_getElem hm, List.getElem?_eq_getElem hn, z]
    obtain ⟨j1, h1⟩ : ∃ j, js[m]? = some j := ⟨_, List.getElem?_eq_getElem (by omega)⟩
    obtain ⟨j2, h2⟩ : ∃ j, js[n]? = some j := ⟨_, List.getElem?_eq_getElem hn'⟩
    obtain ⟨a1, x1, y1⟩ := bat m j1 h1
    obtain ⟨a2, x2, y2⟩ := bat n j2 h2
    rw [x1, x2] at z
    have := Option.some.inj z
    subst this
    have := inj y1 y2
    subst this
    have := (List.getElem?_inj (by omega) nd).mp (h1.trans h2.symm)
    omega
  have frF : ∀ {b : Addr} {o : HO}, F.Fr b = some o → b ∉ bs := fun {b o} h m => by
    obtain ⟨l, hl⟩ := List.getElem?_of_mem m
    obtain ⟨j, h1, h2⟩ := bof l b hl
    obtain ⟨c, h3, h4⟩ := cat l j h1
    rw [(e.ce j c b h4 h2).1] at h
    cases h
  have rl : RepAs K G bs (ds.map .dat) vs := by
    have main : ∀ (es : List D) (ws : List V), RepAs K G as (es.map .dat) ws → RepAs K G bs (es.map .dat) ws := by
      intro es
      induction es with
      | nil => intro ws r; cases r; exact .nil
      | cons d es ih => intro ws r; cases r with | cons a b => exact .cons a (ih _ b)
    exact main ds vs rx
  have nrc : ∀ (m : Nat) t X, cs[m]? ≠ some (Cell.reg t X) := fun m t X z => isRegC_no (List.all_eq_true.mp nr _ (List.mem_of_getElem? z)) t X rfl
  obtain ⟨Ts0, r0⟩ := e.rg
  refine ⟨G, bs, fun _ _ => none, ds.map .dat, cs, _, exc, e.gh, ⟨by rw [← ln]; exact List.length_map .., bnd, fun m c a hc ha => ?_⟩, RegsAt.no nrc, rl, hw, ?_, fun C H' hc fr => hX C σ H' hc fun b o h => fr b o (frF h) (fun _ => rfl) (e.fh _ _ h)⟩
  · obtain ⟨j, h1, h2⟩ := bof m a ha
    obtain ⟨c2, h3, h4⟩ := cat m j h1
    rw [hc] at h3
    cases h3
    exact (e.ce j c a h4 h2).2
  rintro r cs' v H' G' Ts' ⟨ng, nr', hp⟩ fr sG gh' nw ck rg' nwT rr
  have fr' : ∀ b o, b ∉ bs → H b = some o → H' b = some o := fun b o n h => fr b o n (fun _ => rfl) h
  have gn : ∀ {b : Addr} {o : HO}, H b = some o → G b = none → G' b = none := fun {b o} ho g => by
    cases z : G' b with
    | none => rfl
    | some o2 =>
      rcases nw b o2 z with y | y | ⟨_, y⟩
      · rw [g] at y; cases y
      · rw [ho] at y; cases y
      · exact absurd rfl y
  have ln' : bs.length = cs'.length := ck.ln
  have blen : bs.length = js.length := List.length_map ..
  have regI : ∀ {i : Nat} {b : Addr} {o : HO}, Ts0 i b = some o → b ∉ bs := fun {i b o} h m => by
    obtain ⟨l, hl⟩ := List.getElem?_of_mem m
    obtain ⟨j, h1, h2⟩ := bof l b hl
    have := (r0.pl i b o h).2.2.2 j h2
    subst this
    obtain ⟨t, X, z⟩ := r0.is h
    obtain ⟨c, h3, h4⟩ := cat l j h1
    rw [h4] at z
    cases z
    exact nrc l t X h3
  have rN : RegsAt Ts0 F.Fr G' H' as (setAll ρ.ce js cs') := by
    have r1 := r0.same (Fr' := F.Fr) (G' := G') (H' := H') (fun i b o h hb => fr' b o (regI h) hb) (fun b o ho g => gn ho g) (fun _ z => z) fun _ _ z => .inl (sG _ _ z)
    have same : ∀ (i : Nat) t X, (setAll ρ.ce js cs')[i]? = some (Cell.reg t X) ↔ ρ.ce[i]? = some (Cell.reg t X) := fun i t X => by
      by_cases m : i ∈ js
      · obtain ⟨l, hl⟩ := List.getElem?_of_mem m
        obtain ⟨c, h3, h4⟩ := cat l i hl
        have ll : l < cs'.length := by rw [← ln', blen]; exact (List.getElem?_eq_some_iff.mp hl).1
        rw [setAll_in ρ.ce js cs' l i cs'[l] nd (by rw [← e.ln]; exact inb i m) hl (List.getElem?_eq_getElem ll), h4]
        refine ⟨fun z => ?_, fun z => ?_⟩
        · exact absurd (Option.some.inj z) (isRegC_no (List.all_eq_true.mp nr' _ (List.getElem_mem ll)) t X)
        · cases z; exact absurd h3 (nrc l t X)
      · rw [setAll_out _ _ _ _ m]
    exact ⟨fun i h b => r1.em i (fun t X z => h t X ((same i t X).mpr z)) b, r1.dj, r1.pl, fun i t X a hc ha => r1.ok i t X a ((same i t X).mp hc) ha⟩
  have e' : EnvOk K F (ρ.cells js cs') as σ H' G' := by
    refine ⟨gh', fun b o h => fr' b o (frF h) (e.fh _ _ h), fun b o h => ?_, Same.trans e.g0 sG, e.nd, e.pr, by rw [e.ln]; exact (setAll_len ..).symm, fun i c2 b hc hb => ?_, e.sn, fun i av hi => ?_, ⟨_, rN⟩⟩
    · rcases nw b o h with y | y | ⟨_, y⟩
      · exact e.fg _ _ y
      · exact .inr (Same.none e.fh y)
      · exact absurd rfl y
    · have hc' : (setAll ρ.ce js cs')[i]? = some c2 := hc
      by_cases m : i ∈ js
      · obtain ⟨l, hl⟩ := List.getElem?_of_mem m
        obtain ⟨c, h3, h4⟩ := cat l i hl
        obtain ⟨a, x1, x2⟩ := bat l i hl
        rw [hb] at x2
        cases x2
        have ll : l < cs'.length := by rw [← ln', blen]; exact (List.getElem?_eq_some_iff.mp hl).1
        rw [setAll_in ρ.ce js cs' l i cs'[l] nd (by rw [← e.ln]; exact inb i m) hl (List.getElem?_eq_getElem ll)] at hc'
        cases hc'
        obtain ⟨h5, h6⟩ := ck.ok l _ b (List.getElem?_eq_getElem ll) x1
        exact ⟨(e.ce i c b h4 hb).1, h5, h6⟩
      · rw [setAll_out _ _ _ _ m] at hc'
        obtain ⟨fb, ⟨o, ho⟩, okb⟩ := e.ce i c2 b hc' hb
        have nb : b ∉ bs := fun z => m (bmem hb z)
        refine ⟨fb, ⟨o, fr' _ _ nb ho⟩, ?_⟩
        cases c2 with
        | gone => trivial
        | reg t X => exact gn ho okb
        | lst es => obtain ⟨g, ws, hw, r⟩ := okb; exact ⟨gn ho g, ws, fr' _ _ nb hw, Reps.mono sG _ _ r⟩
        | ins C9 ns9 es => obtain ⟨g, dx9, ws, hw, ln9, r⟩ := okb; exact ⟨gn ho g, dx9, ws, fr' _ _ nb hw, ln9, Reps.mono sG _ _ r⟩
        | drw => obtain ⟨g, ws, hw, r⟩ := okb; exact ⟨gn ho g, ws, fr' _ _ nb hw, r⟩
        | oth X => obtain ⟨g, o9, hw, r⟩ := okb; exact ⟨gn ho g, o9, fr' _ _ nb hw, X.mono (fun _ _ z => .inl (sG _ _ z)) r⟩
    · obtain ⟨v, hv, r⟩ := e.sl i av hi
      exact ⟨v, hv, r.mono ⟨sG, [], by simp⟩⟩
  have eln : as.length = (ρ.cells js cs').ce.length := e'.ln
  have eln2 : as.length = ρ.ce.length := e.ln
  have newF : ∀ {p : Addr}, NewA H bs (fun _ _ => none) p → F.Fr p = none ∧ p ∉ as ∧ ∀ i, Ts0 i p = none := fun {p} ⟨h1, _⟩ => by
    have h1 : H p = none := h1.elim id fun ⟨_, z⟩ => absurd rfl z
    refine ⟨Same.none e.fh h1, fun m => ?_, fun i => ?_⟩
    · obtain ⟨i, hi⟩ := List.getElem?_of_mem m
      have hil : i < ρ.ce.length := by rw [← e.ln]; exact (List.getElem?_eq_some_iff.mp hi).1
      obtain ⟨_, ⟨o, ho⟩, _⟩ := e.ce i _ p (List.getElem?_eq_getElem hil) hi
      rw [ho] at h1
      cases h1
    · cases z : Ts0 i p with
      | none => rfl
      | some o => rw [(r0.pl i p o z).1] at h1; cases h1
  cases r with
  | dat d => exact q _ _ v as H' G' hp e' ⟨sG, [], by simp⟩ rr
  | ext d X =>
    obtain ⟨rd2, p, o, hp0, tz0, gp, ho, okX⟩ := rr
    obtain ⟨f1, f2, f3⟩ := newF hp0
    exact q _ _ _ _ H' G' hp (e'.ownT ho gp f1 f2 ⟨_, rN, f3⟩ okX) ⟨sG, [p], rfl⟩ rd2
  | reg X =>
    obtain ⟨p, T, rfl, hp0, tz0, gp, ho, okX, ht⟩ := rr
    obtain ⟨f1, f2, f3⟩ := newF hp0
    exact q _ _ _ _ H' G' hp (e'.ownX rN ho gp f1 f2 f3 okX fun b o hb => by
      obtain ⟨h1, h2, h3, h4⟩ := ht b o hb
      obtain ⟨x1, x2, x3⟩ := newF h3
      exact ⟨h1, h2, x1, x2, x3⟩) ⟨sG, [p], rfl⟩ (RepA.last eln2)
  | prt as1 es bs1 =>
    obtain ⟨t, p, w1, w2, ws, rfl, sq, ra1, ra2, hp0, tz0, gp, hp1, hr⟩ := rr
    obtain ⟨f1, f2, f3⟩ := newF hp0
    refine q _ _ _ _ H' G' hp (e'.ownC hp1 gp f1 f2 ⟨_, rN, f3⟩ hr) ⟨sG, [p], rfl⟩ ⟨t, _, rfl, sq, ?_⟩
    exact TNs.append (TNs.of ra1) (.cons (.cel (by rw [List.getElem?_append_right (by rw [e.ln]; exact Nat.le_refl _), e.ln, Nat.sub_self]; rfl)) (TNs.of ra2))
  | new es =>
    obtain ⟨p, ws, rfl, hp0, tz0, gp, hp1, hr⟩ := rr
    obtain ⟨f1, f2, f3⟩ := newF hp0
    exact q _ _ _ _ H' G' hp (e'.ownC hp1 gp f1 f2 ⟨_, rN, f3⟩ hr) ⟨sG, [p], rfl⟩ (RepA.last e.ln)
/-- .. its errors are let out; .. it lets none out -/
theorem wspPX {W : PW0} {ds : List D} {js : List Nat} {cs : List Cell} (hj : js.map (fun j => ρ.ce[j]?) = cs.map some) (nd : js.Nodup) (nr : cs.all (fun c => !isRegC c) = true) (hw : W (ds.map .dat) cs (fun r cs' => aftP ρ js k r cs') F.ex) : WpSp K F (spG K W) (fun _ => F.E) (ds.map .dat) ρ k := wspP (fun C _ H hc s => F.hE C H hc s) hj nd nr hw
theorem wspP0 {W : PW0} {E : L2.St → XK} {ds : List D} {js : List Nat} {cs : List Cell} (hj : js.map (fun j => ρ.ce[j]?) = cs.map some) (nd : js.Nodup) (nr : cs.all (fun c => !isRegC c) = true) (hw : W (ds.map .dat) cs (fun r cs' => aftP ρ js k r cs') (fun _ => False)) : WpSp K F (spG K W) E (ds.map .dat) ρ k := wspP (fun _ _ _ z _ => z.elim) hj nd nr hw
/-- a pointer is lent to be read -/
inductive Ptr (j : Nat) (c : Addr) : List AV → List AV → Prop
  | nil : Ptr j c [] []
  | same {x : AV} {xs ys : List AV} : Ptr j c xs ys → Ptr j c (x :: xs) (x :: ys)
  | ptr {xs ys : List AV} : Ptr j c xs ys → Ptr j c (.dat (.cls c) :: xs) (.cel j :: ys)
theorem atoms_int (ns : List Int) : atoms (ns.map D.int) = true := by
  induction ns with
  | nil => rfl
  | cons x ns ih => exact ih
theorem wsp_untag {sp : Sp} {E : L2.St → XK} {xs ys : List AV} {j : Nat} {c : Addr} {ds : List D} (hc : ρ.ce[j]? = some (.oth (lstX c ds))) (hd : atoms ds = true) (hp : Ptr j c xs ys) (h : WpSp K F sp E ys (ρ.cell j (.lst ds)) fun av ρ2 => ρ2.ce[j]? = some (.lst ds) ∧ k av (ρ2.cell j (.oth (lstX c ds)))) : WpSp K F sp E xs ρ k := fun as σ H G vs e r Q q => by
  obtain ⟨a, ha⟩ : ∃ a, as[j]? = some a := ⟨_, List.getElem?_eq_getElem (by rw [e.ln]; exact (List.getElem?_eq_some_iff.mp hc).1)⟩
  obtain ⟨_, _, _, o, ho, ea, us, eo, hr⟩ := e.ce j _ a hc ha
  subst ea eo
  have e1 : EnvOk K F (ρ.cell j (.lst ds)) as σ H G := e.recell hc fun b hb ok => by
    rw [ha] at hb
    cases hb
    exact ⟨ok.1, us, ho, hr K G⟩
  have r1 : ∀ {xs ys : List AV}, Ptr j a xs ys → ∀ {vs : List V}, RepAs K G as xs vs → RepAs K G as ys vs := fun hq => by
    induction hq with
    | nil => exact fun r => r
    | same _ ih => exact fun r => by cases r with | cons x y => exact .cons x (ih y)
    | ptr _ ih =>
      exact fun r => by
        cases r with
        | cons x y =>
          cases (show Rep K G (.cls a) _ from x)
          exact .cons ⟨a, ha, rfl⟩ (ih y)
  refine h as σ H G vs e1 (r1 hp r) Q fun av ρ2 v as2 H2 G2 ⟨h1, h2⟩ e2 g2 r2 => ?_
  have ha2 : as2[j]? = some a := by
    obtain ⟨_, rr, rfl⟩ := g2
    rw [List.getElem?_append_left (List.getElem?_eq_some_iff.mp ha).1]
    exact ha
  refine q av _ v as2 H2 G2 h2 (e2.recell h1 fun b hb ok => ?_) g2 r2
  rw [ha2] at hb
  cases hb
  exact tagC_ok (show tagC a (.lst ds) = some (lstX a ds) from if_pos hd) ok
end
/-- what follows begins with the cells that were there before; a new list may have become data -/
inductive Fz (n : Nat) (ρ : En) : En → Prop
  | tr {ρ' : En} : Tr n ρ ρ' → Fz n ρ ρ'
  | fz {ρ' : En} (j : Nat) (ds : List D) : ρ.ce[j]? = some (.lst ds) → Tr n (ρ.frz j ds) ρ' → Fz n ρ ρ'
theorem ws_seqZ {K : PySem.W.Frag} {F : Fx} {ρ : En} {ks : KS} {a b : TS} (h : ∀ R, R = b → WpS K F a ρ { nx := fun ρ1 => ∃ ρ3, Fz ρ.ce.length ρ1 ρ3 ∧ WpS K F R ρ3 ks, rt := ks.rt, bk := ks.bk, ct := ks.ct }) : WpS K F (tSeq a b) ρ ks := fun as σ H G e D q =>
  h b rfl as σ H G e { D with nx := b D } ⟨fun ρ1 as1 σ1 H1 G1 ⟨ρ3, t, hk⟩ e1 g1 => by
    cases t with
    | tr t =>
      obtain ⟨as', e', _, g'⟩ := t.run2 e1 e1 g1 (Nat.le_of_eq e.ln) (by have := e.pr.length_le; rw [e.ln] at this; exact this)
      exact hk as' σ1 H1 G1 e' D (q.grow K F g')
    | fz j ds hj t =>
      have hl : j < as1.length := by rw [e1.ln]; exact (List.getElem?_eq_some_iff.mp hj).1
      obtain ⟨vs, e2, g2, _⟩ := e1.frz hj (List.getElem?_eq_getElem hl)
      obtain ⟨as', e', _, g'⟩ := t.run2 e2 e2 (g1.trans g2) (Nat.le_of_eq e.ln) (by have := e.pr.length_le; rw [e.ln] at this; exact this)
      exact hk as' σ1 H1 _ e' D (q.grow K F g'), q.rt, q.bk, q.ct, q.fr⟩
/-- a statement whose ends are told by P, then the rest for each of them -/
theorem ws_seqP {α : Type} {K : PySem.W.Frag} {F : Fx} {ρ : En} {ks : KS} {a b : TS} (P : α → Prop) (env : α → En) (h1 : ∀ x, P x → WpS K F b (env x) ks) (h2 : WpS K F a ρ { nx := fun ρ1 => ∃ x, P x ∧ Fz ρ.ce.length ρ1 (env x), rt := ks.rt, bk := ks.bk, ct := ks.ct }) : WpS K F (tSeq a b) ρ ks :=
  ws_seqZ fun R hR => WpS.imp h2 (fun ρ1 ⟨x, px, f⟩ => ⟨_, f, hR ▸ h1 x px⟩) (fun _ _ z => z) (fun _ z => z) (fun _ z => z)
/-- arguments as data -/
local macro_rules | `(tactic| walk_at "as") => `(tactic| first
  | exact AsD.nil
  | (apply AsD.dat; walk_at "as")
  | (apply AsD.cel rfl; walk_at "as")
  | fail)
local macro_rules | `(tactic| walk_at "fz") => `(tactic| first
  | exact Frz.nil
  | (apply Frz.dat; walk_at "fz")
  | (apply Frz.cel rfl; walk_at "fz")
  | (apply Frz.ins rfl; walk_at "fz")
  | fail)
local macro_rules | `(tactic| walk_at "il") => `(tactic| first
  | exact IsL.dat _
  | exact IsL.cel rfl
  | exact IsL.scr _
  | fail)
local macro_rules | `(tactic| walk_at "od") => `(tactic| first
  | exact OfD.dat _
  | exact OfD.cel rfl
  | fail)
local macro_rules | `(tactic| walk_at "on") => `(tactic| first
  | exact only_name (by simp)
  | (refine only_tup ?_; repeat first | exact onlys_nil | refine onlys_cons (by simp) ?_)
  | fail)
/-- a call: its arguments as data -/
local macro_rules | `(tactic| walk_at "c") => `(tactic| (refine' wspE ?q1 ?z9; (case q1 => walk_at "as")))
local macro_rules | `(tactic| walk_at "cx") => `(tactic| (refine' wspX ?q1 ?z9; (case q1 => walk_at "as")))
local macro_rules | `(tactic| walk_at "al") => `(tactic| first
  | exact AsL.nil
  | (apply AsL.dat; walk_at "al")
  | (apply AsL.own; walk_at "al")
  | (apply AsL.cel (Nat.ne_of_beq_eq_false rfl) rfl; walk_at "al")
  | fail)
/-- a call that is lent a cell -/
local macro_rules | `(tactic| walk_at "c1") => `(tactic| (refine' wsp1 ?q1 ?q2 ?q3 ?z9; (case q1 => rfl); (case q2 => rfl); (case q3 => rfl)))
local macro_rules | `(tactic| walk_at "c2") => `(tactic| (refine' wsp2 ?q1 ?q2 ?q3 ?z9; (case q1 => rfl); (case q2 => rfl); (case q3 => walk_at "al")))
local macro_rules | `(tactic| walk_at "cd") => `(tactic| (refine' wspD ?q1 ?q2 ?z9; (case q2 => walk_at "al"); (case q1 => rfl)))
/-- one step by data -/
local macro_rules | `(tactic| walk_at "d") => `(tactic| first
  | with_reducible refine ws_seq ?_
  | with_reducible refine ws_asg ?_
  | with_reducible refine ws_ret ?_
  | with_reducible refine ws_if ?_
  | with_reducible refine ws_drop ?_
  | with_reducible refine ws_par ?_
  | with_reducible refine ws_next ?_
  | with_reducible refine ws_retN ?_
  | with_reducible refine ws_break ?_
  | with_reducible refine ws_cont ?_
  | with_reducible refine ws_for ?_
  | ((with_reducible refine' we_var ?v1 ?z9); (case v1 => exact rfl))
  | with_reducible refine we_ci ?_
  | with_reducible refine we_cs ?_
  | with_reducible refine we_cn ?_
  | with_reducible refine we_cb ?_
  | with_reducible refine we_ct ?_
  | with_reducible refine we_op ?_
  | with_reducible refine we_un ?_
  | with_reducible refine we_tCB ?_
  | with_reducible refine wa_nil ?_
  | with_reducible refine wa_cons ?_
  | with_reducible refine we_andV ?_
  | with_reducible refine we_orV ?_
  | with_reducible refine we_notV ?_
  | with_reducible refine we_if ?_
  | with_reducible refine wt_test ?_
  | with_reducible refine wt_B ?_
  | with_reducible refine wt_and ?_
  | with_reducible refine wt_or ?_
  | with_reducible refine wt_not ?_
  | with_reducible refine wt_yes ?_
  | with_reducible refine wt_tru ?_
  | with_reducible refine we_tup ?_
  | with_reducible refine we_lst ?_
  | with_reducible refine we_call ?_
  | with_reducible refine we_callS ?_
  | with_reducible refine wo_none ?_
  | with_reducible refine wo_some ?_
  | with_reducible refine wi_rng1 ?_
  | with_reducible refine wi_rng2 ?_
  | with_reducible refine wg_name ?_
  | with_reducible refine wg_sub ?_
  | with_reducible refine wgs_nil ?_
  | with_reducible refine wgs_cons ?_
  | with_reducible refine wgs_consM ?_
  | with_reducible refine wgs_nilM ?_
  | with_reducible refine wr_I0i ?_
  | with_reducible refine wr_I0b ?_
  | with_reducible refine wr_isN ?_
  | with_reducible refine wr_notN ?_
  | with_reducible refine wr_isB ?_
  | with_reducible refine wr_isnotB ?_
  | (with_reducible refine wu_neg ?_)
  | with_reducible refine wc_abs ?_
  | ((with_reducible refine' wr_eq ?v1 ?z9); (case v1 => exact rfl))
  | ((with_reducible refine' wr_ne ?v1 ?z9); (case v1 => exact rfl))
  | ((with_reducible refine' we_lc ?v0 ?z9); (case v0 => walk_at "on"))
  | ((with_reducible refine' wm_append ?v0 ?v1 ?v2 ?z9); (case v0 => walk_at "fz"); (case v1 => exact rfl))
  | refine we_bm ?_
  | refine we_bm0 ?_
  | refine we_slL ?_
  | refine wi_list ?_
  | refine wi_tup ?_
  | ((refine' wg_tup ?v1 ?z9); (case v1 => exact rfl))
  | ((refine' wr_ixT ?v1 ?z9); (case v1 => exact rfl))
  | ((refine' wr_ixL ?v0 ?v1 ?z9); (case v0 => walk_at "il"); (case v1 => exact rfl))
  | refine wc_lenT ?_
  | ((refine' wc_lenL ?v0 ?z9); (case v0 => walk_at "il"))
  | ((refine' wc_isi ?v0 ?v1 ?z9); (case v0 => simp); (case v1 => exact rfl))
  | ((refine' wc_isiC ?v0 ?v1 ?z9); (case v0 => simp); (case v1 => exact rfl))
  | ((refine' wc_list ?v0 ?z9); (case v0 => walk_at "il"))
  | refine wc_listT ?_
  | ((refine' wc_tuple ?v0 ?z9); (case v0 => walk_at "il"))
  | (first | refine ⟨⟨_, _, rfl, rfl, rfl⟩, ?_⟩ | refine ⟨⟨_, _, rfl, rfl, fun z => by cases z⟩, ?_⟩ | fail)
  | ((with_reducible refine' frz_in ?v0 ?v1 ?z9); (case v0 => walk_at "fz"); (case v1 => exact rfl))
  | ((with_reducible refine' il_in ?v0 ?z9); (case v0 => walk_at "il"))
  | ((with_reducible refine' lc_in ?v0 ?v1 ?v2 ?z9); (case v0 => walk_at "fz"); (case v1 => exact rfl))
  | (refine ⟨_, rfl, ?_⟩)
  | (refine ⟨_, _, rfl, ?_⟩)
  | fail)
/-- steps, and ifs whose test is told -/
local macro_rules | `(tactic| walk_at "D") => `(tactic| repeat (first
  | walk_at "d"
  | refine ifT rfl ?_
  | refine ifF rfl ?_))
/-- the environment written out -/
local macro_rules | `(tactic| walk_at "nrm") => `(tactic| first | (dsimp only [En.put, En.add, En.cell, List.set_cons_zero, List.set_cons_succ, List.cons_append, List.nil_append, List.length_cons, List.length_nil, Nat.zero_add, Nat.reduceAdd]) | skip)

/-- .. with what was frozen and forgotten -/
local macro_rules | `(tactic| walk_at "nr2") => `(tactic| first | (dsimp only [En.start, En.put, En.add, En.cell, En.frz, En.frzD, En.clr, frzA_d, frzA_c, mapC, mapN, Option.map_some, Option.map_none, List.set_cons_zero, List.set_cons_succ, List.cons_append, List.nil_append, List.length_cons, List.length_nil, Nat.zero_add, Nat.reduceAdd, Nat.reduceSub, List.replicate_succ, List.replicate_zero, ↓reduceIte, Nat.reduceEqDiff, reduceCtorEq]) | skip)

local macro_rules | `(tactic| walk_at "nr4") => `(tactic| first | (simp only [En.start, En.put, En.add, En.cell, En.frz, En.frzD, En.clr, frzA_d, frzA_c, mapC, mapN, Option.map_some, Option.map_none, List.set_cons_zero, List.set_cons_succ, List.cons_append, List.nil_append, List.length_cons, List.length_nil, Nat.zero_add, Nat.reduceAdd, Nat.reduceSub, List.replicate_succ, List.replicate_zero, ↓reduceIte, Nat.reduceEqDiff, reduceCtorEq, Nat.succ_ne_self]) | skip)
/-! ### sizes of whole numbers -/
def Sm (n : Nat) (x : Int) : Prop := x.natAbs < 2 ^ n
theorem Sm.mono {a b : Nat} {x : Int} (h : Sm a x) (l : a ≤ b) : Sm b x := Nat.lt_of_lt_of_le h (Nat.pow_le_pow_right (by decide) l)
theorem Sm.mul {a b : Nat} {x y : Int} (h : Sm a x) (k : Sm b y) : Sm (a + b) (x * y) := wide_lt h k
theorem Sm.add {a b : Nat} {x y : Int} (h : Sm a x) (k : Sm b y) : Sm (a + b + 1) (x + y) := by
  have h1 := Sm.mono h (Nat.le_add_right a b)
  have h2 := Sm.mono k (Nat.le_add_left b a)
  unfold Sm at *
  rw [Nat.pow_succ]
  omega
theorem Sm.sub {a b : Nat} {x y : Int} (h : Sm a x) (k : Sm b y) : Sm (a + b + 1) (x - y) := by
  have h1 := Sm.mono h (Nat.le_add_right a b)
  have h2 := Sm.mono k (Nat.le_add_left b a)
  unfold Sm at *
  rw [Nat.pow_succ]
  omega
theorem Sm.neg {a : Nat} {x : Int} (h : Sm a x) : Sm a (-x) := by
  unfold Sm at *
  omega
theorem Sm.le {a : Nat} {x y : Int} (h : Sm a x) (l : y.natAbs ≤ x.natAbs) : Sm a y := Nat.lt_of_le_of_lt l h
theorem Sm.mulok {a b : Nat} {x y : Int} (h : Sm a x) (k : Sm b y) (ha : a ≤ 400000) (hb : b ≤ 400000) : CMulW x y := by
  refine wide_mul (a := a + 1) (b := b + 1) (Sm.mono h (Nat.le_succ a)) (Sm.mono k (Nat.le_succ b)) (Nat.succ_pos _) (Nat.succ_pos _) (by omega)
def CDivZ (_ j : Int) : Prop := j ≠ 0 ∧ Sm 8000 j
theorem op_fdivZ {X : Cx} : OpR X (binaryOp .FloorDiv) (rI CDivZ fun i j => .int (i.fdiv j)) := opI fun i j _ _ _ _ _ hc q => by
  have h : j.natAbs.log2 < 9000 := Nat.lt_of_lt_of_le (PySem.Flt.log2_lt_of (by decide) hc.2) (by decide)
  exact floordiv_int hc.1 q (.inl (PyProof.noPylong_of_log2 h))
/-! ### fractions -/
theorem gcd_turn {x y : Int} (hx : 0 ≤ x) (hy : 0 < y) : Int.gcd y (x % y) = Int.gcd x y := by
  obtain ⟨m, rfl⟩ := Int.eq_ofNat_of_zero_le hx
  obtain ⟨n, rfl⟩ := Int.eq_ofNat_of_zero_le (Int.le_of_lt hy)
  show Nat.gcd _ _ = Nat.gcd _ _
  rw [← Int.natCast_emod]
  simp only [Int.natAbs_natCast]
  rw [Nat.gcd_comm m n, Nat.gcd_rec n m, Nat.gcd_comm]
theorem gcd_abs (x y : Int) : Int.gcd (if x < 0 then -x else x) (if y < 0 then -y else y) = Int.gcd x y := by
  split <;> split <;> simp [Int.gcd]
theorem gcd_pos {t b : Int} (h : b ≠ 0) : (0 : Int) < (Int.gcd t b : Nat) := by
  have := Int.gcd_pos_of_ne_zero_right t h
  omega
/-- the divisor with the bottom's sign -/
def dvs (t b : Int) : Int := if b < 0 then -((Int.gcd t b : Nat) : Int) else ((Int.gcd t b : Nat) : Int)
theorem frac_num {t b : Int} (h : b ≠ 0) : t.fdiv (dvs t b) = (Rat.divInt t b).num := by
  have g0 := gcd_pos (t := t) h
  have gt : ((Int.gcd t b : Nat) : Int) ∣ t := Int.gcd_dvd_left t b
  rw [Rat.num_divInt, Int.gcd_comm b t]
  unfold dvs
  by_cases hb : b < 0
  · rw [if_pos hb, Int.sign_eq_neg_one_of_neg hb, Int.fdiv_neg (by omega), if_pos gt, Int.fdiv_eq_ediv_of_dvd gt]
    rw [Int.neg_mul, Int.one_mul, Int.neg_ediv_of_dvd gt]
  · rw [if_neg hb, Int.sign_eq_one_of_pos (by omega), Int.one_mul, Int.fdiv_eq_ediv_of_dvd gt]
theorem frac_den {t b : Int} (h : b ≠ 0) : b.fdiv (dvs t b) = ((Rat.divInt t b).den : Int) := by
  have g0 := gcd_pos (t := t) h
  have gb : ((Int.gcd t b : Nat) : Int) ∣ b := Int.gcd_dvd_right t b
  rw [Rat.den_divInt, if_neg h, Int.gcd_comm b t, Int.natCast_ediv]
  unfold dvs
  by_cases hb : b < 0
  · rw [if_pos hb, Int.fdiv_neg (by omega), if_pos gb, Int.fdiv_eq_ediv_of_dvd gb]
    rw [show ((b.natAbs : Nat) : Int) = -b by omega, Int.neg_ediv_of_dvd gb]
  · rw [if_neg hb, Int.fdiv_eq_ediv_of_dvd gb]
    rw [show ((b.natAbs : Nat) : Int) = b by omega]
theorem dvs_ne {t b : Int} (h : b ≠ 0) : dvs t b ≠ 0 := by
  have g0 := gcd_pos (t := t) h
  unfold dvs
  split <;> omega
theorem dvs_sm {t b : Int} {n : Nat} (h : b ≠ 0) (s : Sm n b) : Sm n (dvs t b) := by
  refine s.le ?_
  have hd : Int.gcd t b ∣ b.natAbs := Int.gcd_dvd_natAbs_right t b
  have hl := Nat.le_of_dvd (by omega) hd
  unfold dvs
  split <;> omega
theorem num_sm {t b : Int} {n : Nat} (h : b ≠ 0) (s : Sm n t) : Sm n (Rat.divInt t b).num := by
  refine s.le ?_
  have g0 : 0 < Int.gcd t b := Int.gcd_pos_of_ne_zero_right t h
  have gt : ((Int.gcd t b : Nat) : Int) ∣ t := Int.gcd_dvd_left t b
  rw [← frac_num h]
  have e : t.fdiv (dvs t b) * dvs t b = t := by
    rw [Int.mul_comm]
    refine Int.mul_fdiv_cancel_of_dvd ?_
    unfold dvs
    split
    · exact Int.neg_dvd.mpr gt
    · exact gt
  have e2 : t.natAbs = (t.fdiv (dvs t b)).natAbs * (dvs t b).natAbs := by
    rw [← Int.natAbs_mul, e]
  rw [e2]
  have : 0 < (dvs t b).natAbs := by
    have := dvs_ne (t := t) h
    omega
  exact Nat.le_mul_of_pos_right _ this
theorem den_sm {t b : Int} {n : Nat} (h : b ≠ 0) (s : Sm n b) : Sm n ((Rat.divInt t b).den : Int) := by
  refine s.le ?_
  rw [Rat.den_divInt, if_neg h]
  exact Nat.div_le_self _ _
/-- a fraction as it stands in a tuple -/
def pr (q : Rat) : List V := [.int q.num, .int (q.den : Int)]
theorem pr_ints (q : Rat) : pr q = [q.num, (q.den : Int)].map V.int := rfl
theorem den_pos (q : Rat) : (0 : Int) < (q.den : Int) := by
  have := q.den_nz
  omega
theorem num_gcd (q : Rat) : Int.gcd q.num (q.den : Int) = 1 := by
  have := q.reduced
  show Nat.gcd _ _ = 1
  simpa using this
theorem rat_inj {p q : Rat} : ([p.num, (p.den : Int)] = [q.num, (q.den : Int)]) ↔ p = q := by
  constructor
  · intro h
    simp only [List.cons.injEq, and_true] at h
    obtain ⟨h1, h2⟩ := h
    exact Rat.ext h1 (by omega)
  · rintro rfl
    rfl
theorem divInt_self (q : Rat) : Rat.divInt q.num (q.den : Int) = q := Rat.num_divInt_den q
theorem divInt_cross {t b : Int} (h : b ≠ 0) : (Rat.divInt t b).num * b = t * ((Rat.divInt t b).den : Int) := by
  have e : Rat.divInt (Rat.divInt t b).num ((Rat.divInt t b).den : Int) = Rat.divInt t b := divInt_self _
  exact (Rat.divInt_eq_divInt_iff (by have := den_pos (Rat.divInt t b); omega) h).mp e
theorem log_small {n : Int} (h0 : 0 ≤ n) (h1 : n < 1000) : n.natAbs.log2 < 1920 := by
  have h : n.natAbs < 2 ^ 10 := by omega
  exact Nat.lt_of_lt_of_le (PySem.Flt.log2_lt_of (by decide) h) (by decide)
theorem den_ne (a : Rat) : (a.den : Int) ≠ 0 := by
  have := den_pos a
  omega
theorem add_is (a b : Rat) : Rat.divInt (a.num * (b.den : Int) + b.num * (a.den : Int)) ((a.den : Int) * (b.den : Int)) = a + b := by
  rw [← Rat.divInt_add_divInt _ _ (den_ne a) (den_ne b), divInt_self, divInt_self]
theorem sub_is (a b : Rat) : Rat.divInt (a.num * (b.den : Int) - b.num * (a.den : Int)) ((a.den : Int) * (b.den : Int)) = a - b := by
  rw [← Rat.divInt_sub_divInt _ _ (den_ne a) (den_ne b), divInt_self, divInt_self]
theorem mul_is (a b : Rat) : Rat.divInt (a.num * b.num) ((a.den : Int) * (b.den : Int)) = a * b := by
  rw [← Rat.divInt_mul_divInt, divInt_self, divInt_self]
theorem mul_ne {a b : Int} (h : a ≠ 0) (k : b ≠ 0) : a * b ≠ 0 := Int.mul_ne_zero h k
/-! ### sums and products shortened crosswise -/
theorem mul_num (a b : Rat) : a.num.fdiv ((a.num.natAbs.gcd b.den : Nat) : Int) * b.num.fdiv ((b.num.natAbs.gcd a.den : Nat) : Int) = (a * b).num := by
  have e : (a * b).num = a.num / ((a.num.natAbs.gcd b.den : Nat) : Int) * (b.num / ((b.num.natAbs.gcd a.den : Nat) : Int)) := by
    show (Rat.mul a b).num = _
    unfold Rat.mul
    simp only [Int.divExact_eq_ediv]
  rw [e, Int.fdiv_eq_ediv_of_nonneg _ (Int.natCast_nonneg _), Int.fdiv_eq_ediv_of_nonneg _ (Int.natCast_nonneg _)]
theorem mul_den (a b : Rat) : (a.den : Int).fdiv ((b.num.natAbs.gcd a.den : Nat) : Int) * (b.den : Int).fdiv ((a.num.natAbs.gcd b.den : Nat) : Int) = ((a * b).den : Int) := by
  have e : (a * b).den = a.den / (b.num.natAbs.gcd a.den) * (b.den / (a.num.natAbs.gcd b.den)) := by
    show (Rat.mul a b).den = _
    unfold Rat.mul
    simp only [Nat.divExact_eq_div]
  rw [e, Int.fdiv_eq_ediv_of_nonneg _ (Int.natCast_nonneg _), Int.fdiv_eq_ediv_of_nonneg _ (Int.natCast_nonneg _)]
  rw [Int.natCast_mul, Int.natCast_ediv, Int.natCast_ediv]
/-- the sum's top before it is shortened -/
def sumTop (a c : Rat) : Int := a.num * ((c.den / a.den.gcd c.den : Nat) : Int) + c.num * ((a.den / a.den.gcd c.den : Nat) : Int)
def sumRest (a c : Rat) : Nat := (sumTop a c).natAbs.gcd (a.den.gcd c.den)
theorem sum_facts (a c : Rat) : (sumTop a c).fdiv (sumRest a c : Int) = (a + c).num ∧ ((c.den / a.den.gcd c.den : Nat) : Int) * ((a.den / sumRest a c : Nat) : Int) = ((a + c).den : Int) := by
  have d0 : 0 < a.den.gcd c.den := Nat.gcd_pos_of_pos_left _ a.den_pos
  have aux := Rat.add.aux a c (g := a.den.gcd c.den) rfl rfl rfl
  obtain ⟨x, hx⟩ := Nat.gcd_dvd_left a.den c.den
  obtain ⟨y, hy⟩ := Nat.gcd_dvd_right a.den c.den
  have ex : a.den / a.den.gcd c.den = x := by conv => lhs; lhs; rw [hx]
                                              exact Nat.mul_div_cancel_left _ d0
  have ey : c.den / a.den.gcd c.den = y := by conv => lhs; lhs; rw [hy]
                                              exact Nat.mul_div_cancel_left _ d0
  have er : sumRest a c = (sumTop a c).natAbs.gcd (x * c.den) := by
    unfold sumRest
    rw [← ex]
    exact aux
  have hz : (x * c.den : Nat) ≠ 0 := by
    have h1 := a.den_pos
    have h2 := c.den_pos
    intro z
    rcases Nat.mul_eq_zero.mp z with z | z
    · rw [z, Nat.mul_zero] at hx; omega
    · omega
  have hv : Rat.divInt (sumTop a c) ((x * c.den : Nat) : Int) = a + c := by
    rw [← add_is a c]
    have d1 : ((a.den.gcd c.den : Nat) : Int) ≠ 0 := by omega
    rw [← Rat.divInt_mul_right d1]
    have hx' : (a.den : Int) = ((a.den.gcd c.den : Nat) : Int) * (x : Int) := by exact_mod_cast hx
    have hy' : (c.den : Int) = ((a.den.gcd c.den : Nat) : Int) * (y : Int) := by exact_mod_cast hy
    have e1 : sumTop a c * ((a.den.gcd c.den : Nat) : Int) = a.num * (c.den : Int) + c.num * (a.den : Int) := by
      unfold sumTop
      rw [ex, ey]
      generalize ((a.den.gcd c.den : Nat) : Int) = g at hx' hy'
      rw [hx', hy']
      grind
    have e2 : ((x * c.den : Nat) : Int) * ((a.den.gcd c.den : Nat) : Int) = (a.den : Int) * (c.den : Int) := by
      rw [Int.natCast_mul]
      generalize ((a.den.gcd c.den : Nat) : Int) = g at hx' hy'
      rw [hx']
      grind
    rw [e1, e2]
  have hzi : ((x * c.den : Nat) : Int) ≠ 0 := by omega
  have ed : dvs (sumTop a c) ((x * c.den : Nat) : Int) = (sumRest a c : Int) := by
    unfold dvs
    rw [if_neg (by omega), er]; rfl
  have n1 := frac_num (t := sumTop a c) hzi
  have n2 := frac_den (t := sumTop a c) hzi
  rw [hv, ed] at n1 n2
  refine ⟨n1, ?_⟩
  rw [← n2, Int.fdiv_eq_ediv_of_nonneg _ (Int.natCast_nonneg _), ← Int.natCast_ediv, ← Int.natCast_mul, ey]
  congr 1
  obtain ⟨z, hz2⟩ : sumRest a c ∣ a.den.gcd c.den := Nat.gcd_dvd_right _ _
  have r0 : 0 < sumRest a c := Nat.gcd_pos_of_pos_right _ d0
  have e3 : a.den / sumRest a c = z * x := by
    conv => lhs; lhs; rw [hx, hz2, Nat.mul_assoc]
    exact Nat.mul_div_cancel_left _ r0
  have e4 : x * c.den / sumRest a c = x * z * y := by
    have : x * c.den = sumRest a c * (x * z * y) := by
      conv => lhs; rw [hy, hz2]
      simp only [Nat.mul_assoc, Nat.mul_comm, Nat.mul_left_comm]
    rw [this]
    exact Nat.mul_div_cancel_left _ r0
  rw [e3, e4]
  simp only [Nat.mul_assoc, Nat.mul_comm, Nat.mul_left_comm]
theorem inv_pos {b : Rat} (h : 0 < b.num) : (b⁻¹).num = (b.den : Int) ∧ ((b⁻¹).den : Int) = b.num := by
  show (Rat.inv b).num = _ ∧ ((Rat.inv b).den : Int) = _
  unfold Rat.inv
  rw [dif_neg (by omega), dif_pos h]
  exact ⟨rfl, by show ((b.num.natAbs : Nat) : Int) = b.num; omega⟩
theorem inv_neg {b : Rat} (h : b.num < 0) : (b⁻¹).num = -(b.den : Int) ∧ ((b⁻¹).den : Int) = -b.num := by
  show (Rat.inv b).num = _ ∧ ((Rat.inv b).den : Int) = _
  unfold Rat.inv
  rw [dif_pos h]
  exact ⟨rfl, by show ((b.num.natAbs : Nat) : Int) = -b.num; omega⟩
theorem fdiv_nat (m n : Nat) : (m : Int).fdiv (n : Int) = ((m / n : Nat) : Int) := by
  rw [Int.fdiv_eq_ediv_of_nonneg _ (Int.natCast_nonneg _), ← Int.natCast_ediv]
theorem gcd_absN (x : Int) (n : Nat) : Int.gcd (if x < 0 then -x else x) (n : Int) = x.natAbs.gcd n := by
  split <;> simp [Int.gcd]
def spSummed : Sp := fun vs H Q _ => ∃ (p : Addr) (a c : Rat), vs = [.ref p, .int c.num, .int (c.den : Int)] ∧ H p = some (.tup (pr a)) ∧ Sm 1900 a.num ∧ Sm 1900 (a.den : Int) ∧ Sm 1900 c.num ∧ Sm 1900 (c.den : Int) ∧ ∀ n, H n = none → Q (.ref n) (upd H n (.tup (pr (a + c))))
theorem Sm.div {n m k : Nat} (h : Sm n (m : Int)) : Sm n ((m / k : Nat) : Int) := h.le (show m / k ≤ m from Nat.div_le_self m k)
theorem Sm.ediv {n k : Nat} {x : Int} (h : Sm n x) : Sm n (x / (k : Int)) := h.le (Int.natAbs_ediv_le_natAbs x k)
theorem Sm.fdiv {n k : Nat} {x : Int} (h : Sm n x) : Sm n (x.fdiv (k : Int)) := by
  rw [Int.fdiv_eq_ediv_of_nonneg _ (Int.natCast_nonneg _)]
  exact Sm.ediv h
section
variable {P : Program} {w : World} {K : PySem.W.Frag} {mg : Str → Option Value} {base : Heap}
/-! ### fractions by data -/
def fD (q : Rat) : D := .tup [.int q.num, .int (q.den : Int)]
/-- small enough to be reckoned with -/
def Sz (n : Nat) (q : Rat) : Prop := Sm n q.num ∧ Sm n (q.den : Int)
def wGcd : PW0 := fun xs cs post _ => ∃ a b : Int, xs = [.dat (.int a), .dat (.int b)] ∧ cs = [] ∧ 0 ≤ a ∧ 0 ≤ b ∧ post (.dat (.int ((Int.gcd a b : Nat) : Int))) []
theorem ok_common_divisor (T : Txt K mg) : FnOk P w K mg base CX0 1 T.a_common_divisor T.d_common_divisor ["one", "other"] (spG K wGcd) := by
  refine T.F_common_divisor.ok sc_common_divisor (fun vs H Q E h => spG_len h fun xs cs post exc ⟨a, b, e, _⟩ => by rw [e]; rfl) (fun cdv A outer s H vs Q E hr h => ⟨_, (pss_cons (ps_while PassesOwn.never (pt_cmpR op_gt (pv 1) pe_int (nomark _)) (pss_one (ps_par (i := 0) (j := 1) (by rfl) sc_common_divisor.nd rfl rfl (by decide) rfl rfl (pa_cons (pv 1) (pa_cons (pe_op op_mod (pv 0) (pv 1)) pa_nil)) (by rfl))))
      (pss_one (ps_ret (pv 0)))), enter h fun F xs cs post hE hw => ?_⟩)
  obtain ⟨a, b, rfl, rfl, a0, b0, q⟩ := hw
  walk_at "D"
  refine ws_while (fun m ρ1 => ∃ x y : Int, ρ1 = ⟨[some (.dat (.int x)), some (.dat (.int y))], []⟩ ∧ 0 ≤ x ∧ 0 ≤ y ∧ Int.gcd x y = Int.gcd a b ∧ m = y.toNat) b.toNat ⟨a, b, rfl, a0, b0, rfl, rfl⟩ ?_
  rintro m ρ1 ⟨x, y, rfl, x0, y0, e, rfl⟩
  walk_at "D"
  refine ifC (fun c => ?_) (fun c => ?_)
  · have c := of_decide_eq_true c
    walk_at "D"
    refine wr_Ii c ?_
    walk_at "D"
    have := Int.emod_lt_of_pos x c
    have := Int.emod_nonneg x (show y ≠ 0 by omega)
    exact ⟨_, by omega, y, x % y, rfl, y0, by omega, (gcd_turn x0 c).trans e, rfl⟩
  · have c := of_decide_eq_false c
    have y1 : y = 0 := by omega
    subst y1
    rw [← e] at q
    walk_at "D"
    have e2 : ((Int.gcd x 0 : Nat) : Int) = x := by
      rw [Int.gcd_zero_right]
      omega
    rw [e2] at q
    exact ⟨_, .dat _, rfl, q⟩
/-- what ends a def's body -/
theorem fin_dat {n : Nat} {post : RV → List Cell → Prop} {ρ : En} {d : D} (ng : noGone (ρ.ce.take n) = true) (q : post (.dat d) (ρ.ce.take n)) : (KS.fin n post).rt (.dat d) ρ := ⟨_, .dat d, ng, q⟩
def wSummed : PW0 := fun xs cs post _ => ∃ a c : Rat, xs = [.dat (fD a), .dat (.int c.num), .dat (.int (c.den : Int))] ∧ cs = [] ∧ Sz 4000 a ∧ Sz 4000 c ∧ post (.dat (fD (a + c))) []
def wBin (f : Rat → Rat → Rat) : PW0 := fun xs cs post _ => ∃ a c : Rat, xs = [.dat (fD a), .dat (fD c)] ∧ cs = [] ∧ Sz 4000 a ∧ Sz 4000 c ∧ post (.dat (fD (f a c))) []
theorem lt_cross (a b : Rat) : (a.num * (b.den : Int) < b.num * (a.den : Int)) ↔ a < b := (Rat.lt_iff a b).symm
def wLess : PW0 := fun xs cs post _ => ∃ a c : Rat, xs = [.dat (fD a), .dat (fD c)] ∧ cs = [] ∧ Sz 40000 a ∧ Sz 40000 c ∧ post (.dat (.bl (decide (a < c)))) []
/-! ### sizes of fractions -/
theorem Sz.mono {a b : Nat} {q : Rat} (h : Sz a q) (l : a ≤ b) : Sz b q := ⟨h.1.mono l, h.2.mono l⟩
theorem Sz.div {n m : Nat} {t b : Int} (h : b ≠ 0) (s1 : Sm n t) (s2 : Sm n b) : Sz n (Rat.divInt t b) := ⟨num_sm h s1, den_sm h s2⟩
theorem Sz.add {a b : Nat} {p q : Rat} (h : Sz a p) (k : Sz b q) : Sz (a + b + 1) (p + q) := by
  rw [← add_is p q]
  have h1 : Sm (a + b) (p.num * (q.den : Int)) := h.1.mul k.2
  have h2 : Sm (a + b) (q.num * (p.den : Int)) := by rw [Nat.add_comm]; exact k.1.mul h.2
  have h3 : Sm (a + b) ((p.den : Int) * (q.den : Int)) := h.2.mul k.2
  refine ⟨num_sm (mul_ne (den_ne p) (den_ne q)) ?_, den_sm (mul_ne (den_ne p) (den_ne q)) (h3.mono (by omega))⟩
  unfold Sm at *
  rw [Nat.pow_succ]
  omega
theorem Sz.neg {a : Nat} {p : Rat} (h : Sz a p) : Sz a (-p) := ⟨by rw [Rat.neg_num]; exact h.1.neg, by rw [Rat.neg_den]; exact h.2⟩
theorem Sz.sub {a b : Nat} {p q : Rat} (h : Sz a p) (k : Sz b q) : Sz (a + b + 1) (p - q) := by rw [Rat.sub_eq_add_neg]; exact h.add k.neg
theorem Sz.mul {a b : Nat} {p q : Rat} (h : Sz a p) (k : Sz b q) : Sz (a + b) (p * q) := by
  rw [← mul_is p q]
  exact ⟨num_sm (mul_ne (den_ne p) (den_ne q)) (h.1.mul k.1), den_sm (mul_ne (den_ne p) (den_ne q)) (h.2.mul k.2)⟩
end

section
variable {P : Program} {w : World} {K : PySem.W.Frag} {mg : Str → Option Value} {base : Heap}
/-! ### what is a number, a fraction, a moment: of any plain data -/
mutual
def pl : D → Bool
  | .tup ds => pls ds
  | .lst ds => pls ds
  | .scr _ => false
  | .obj _ _ _ => false
  | .ty _ => false
  | .cls _ => false
  | _ => true
def pls : List D → Bool
  | [] => true
  | d :: ds => pl d && pls ds
end
theorem pl_ty {d : D} (h : pl d = true) : (tyD d).isSome = true := by cases d <;> first | rfl | (simp [pl] at h)
theorem pls_cons {d : D} {ds : List D} (h : pls (d :: ds) = true) : pl d = true ∧ pls ds = true := by rw [pls, Bool.and_eq_true] at h; exact h
theorem pls_mem {ds : List D} (h : pls ds = true) : ∀ d ∈ ds, pl d = true := by
  induction ds with
  | nil => intro d m; cases m
  | cons e ds ih =>
    intro d m
    obtain ⟨a, b⟩ := pls_cons h
    rcases List.mem_cons.mp m with rfl | m
    · exact a
    · exact ih b d m
def isInt : D → Bool
  | .int _ => true
  | _ => false
def isFr : D → Bool
  | .tup [.int t, .int b] => decide (1 ≤ b) && decide (Int.gcd t b = 1)
  | _ => false
def isMo : D → Bool
  | .tup [.int t, .int b] => decide (1 ≤ b) && decide (Int.gcd t b = 1) && decide (0 ≤ t)
  | _ => false
theorem isFr_of {d : D} (h : isFr d = true) : ∃ q : Rat, d = fD q := by
  unfold isFr at h
  split at h
  · rename_i t b
    rw [Bool.and_eq_true, decide_eq_true_eq, decide_eq_true_eq] at h
    obtain ⟨h1, h2⟩ := h
    have hb : ((b.toNat : Nat) : Int) = b := by omega
    refine ⟨⟨t, b.toNat, by omega, ?_⟩, ?_⟩
    · show Nat.Coprime t.natAbs b.toNat
      unfold Nat.Coprime
      have : b.toNat = b.natAbs := by omega
      rw [this]
      exact h2
    · show D.tup [.int t, .int b] = .tup [.int t, .int ((b.toNat : Nat) : Int)]
      rw [hb]
  · cases h
theorem isFr_fD (q : Rat) : isFr (fD q) = true := by
  have h1 := den_pos q
  have h2 := num_gcd q
  show (decide (1 ≤ (q.den : Int)) && decide (Int.gcd q.num (q.den : Int) = 1)) = true
  rw [h2, decide_eq_true (by omega : 1 ≤ (q.den : Int))]
  rfl
theorem isMo_fD (q : Rat) : isMo (fD q) = decide (0 ≤ q.num) := by
  have h1 := den_pos q
  have h2 := num_gcd q
  show (decide (1 ≤ (q.den : Int)) && decide (Int.gcd q.num (q.den : Int) = 1) && decide (0 ≤ q.num)) = _
  rw [h2, decide_eq_true (by omega : 1 ≤ (q.den : Int))]
  rfl
def wNumber : PW0 := fun xs cs post _ => ∃ d, xs = [.dat d] ∧ cs = [] ∧ pl d = true ∧ post (.dat (.bl (isInt d))) []
theorem ok_is_number (T : Txt K mg) : FnOk P w K mg base CX0 1 T.a_is_number T.d_is_number ["thing"] (spG K wNumber) := by
  refine T.F_is_number.ok sc_is_number (fun vs H Q E h => spG_len h fun xs cs post exc ⟨a, e, _⟩ => by rw [e]; rfl) (fun cdv A outer s H vs Q E hr h => ⟨_, (pss_one (ps_ret (pe_and (pe_callB call_isi (by rfl) T.m_isinstance (by decide +kernel) (pa_cons (pv 0) (pa_cons (pe_bltn (v := .ty "int") (by rfl) T.m_int (by decide +kernel) rfl) pa_nil))) (pe_one (pe_not (pe_callB call_isi (by rfl) T.m_isinstance (by decide +kernel) (pa_cons (pv 0) (pa_cons (pe_bltn (v := .ty "bool") (by rfl) T.m_bool (by decide +kernel) rfl) pa_nil)))))))), enter h fun F xs cs post hE hw => ?_⟩)
  obtain ⟨d, rfl, rfl, hp, q⟩ := hw
  cases d <;> first
    | (exact Bool.noConfusion (show false = true by simpa [pl] using hp))
    | (walk_at "D"; exact fin_dat rfl q)
def wThing (f : D → Bool) : PW0 := fun xs cs post _ => ∃ d, xs = [.dat d] ∧ cs = [] ∧ pl d = true ∧ post (.dat (.bl (f d))) []
theorem ok_is_fraction (T : Txt K mg) : FnOk P w K mg base CX0 2 T.a_is_fraction T.d_is_fraction ["thing"] (spG K (wThing isFr)) := by
  refine T.F_is_fraction.ok sc_is_fraction (fun vs H Q E h => spG_len h fun xs cs post exc ⟨a, e, _⟩ => by rw [e]; rfl) (fun cdv A outer s H vs Q E hr h => ⟨_, (pss_cons (ps_if (PW.pt (pw_or (pt_not (pt_val (pe_callB call_isi (by rfl) T.m_isinstance (by decide +kernel) (pa_cons (pv 0) (pa_cons (pe_bltn (v := .ty "tuple") (by rfl) T.m_tuple (by decide +kernel) rfl) pa_nil))))) (pw_or1 (pt_cmpR op_ne (pe_callB call_len_seq (by rfl) T.m_len (by decide +kernel) (pa_cons (pv 0) pa_nil)) pe_int (nomark _))))) (pss_one (ps_ret pe_bl)) pss_nil)
      (pss_cons (ps_asg (pv 0) (pg_tup rfl (pgs_cons (pg_name (i := 1) sc_is_fraction.nd rfl (Or.inl rfl)) (pgs_cons (pg_name (i := 2) sc_is_fraction.nd rfl (Or.inl rfl)) pgs_nil))))
      (pss_cons (ps_if (PW.pt (pw_or (pt_not (pt_val (pe_call (ok_is_number T) (hr.mono (by decide)) (by rfl) T.g_is_number T.F_is_number.kp T.b_is_number .nil pass0 (pa_cons (pv 1) pa_nil)))) (pw_or (pt_not (pt_val (pe_call (ok_is_number T) (hr.mono (by decide)) (by rfl) T.g_is_number T.F_is_number.kp T.b_is_number .nil pass0 (pa_cons (pv 2) pa_nil)))) (pw_or1 (pt_cmpR op_lt (pv 2) pe_int (nomark _)))))) (pss_one (ps_ret pe_bl)) pss_nil)
      (pss_one (ps_ret (pe_cmpR op_eq (pe_call (ok_common_divisor T) (hr.mono (by decide)) (by rfl) T.g_common_divisor T.F_common_divisor.kp T.b_common_divisor .nil pass0 (pa_cons (pe_callB call_abs (by rfl) T.m_abs (by decide +kernel) (pa_cons (pv 1) pa_nil)) (pa_cons (pv 2) pa_nil))) pe_int (nomark _))))))), enter h fun F xs cs post hE hw => ?_⟩)
  obtain ⟨d, rfl, rfl, hp, q⟩ := hw
  cases d with
  | tup ds =>
    match ds, hp, q with
    | [], hp, q => walk_at "D"; exact fin_dat rfl q
    | [a], hp, q =>
      rw [show isFr (.tup [a]) = false from by cases a <;> rfl] at q
      walk_at "D"; exact fin_dat rfl q
    | a :: b :: c :: r, hp, q =>
      rw [show isFr (.tup (a :: b :: c :: r)) = false from by cases a <;> first | rfl | (cases b <;> rfl)] at q
      walk_at "D"
      exact fin_dat rfl q
    | [a, b], hp, q =>
      obtain ⟨pa, hp⟩ := pls_cons (show pls [a, b] = true by rw [pl] at hp; exact hp)
      obtain ⟨pb, _⟩ := pls_cons hp
      walk_at "D"
      walk_at "c"
      refine ⟨a, rfl, rfl, pa, rfl, ?_⟩
      cases ha : isInt a with
      | false =>
        walk_at "D"
        rw [show isFr (.tup [a, b]) = false from by cases a <;> first | rfl | cases ha] at q
        exact fin_dat rfl q
      | true =>
        obtain ⟨t, rfl⟩ : ∃ t, a = .int t := by cases a <;> first | exact ⟨_, rfl⟩ | cases ha
        walk_at "D"
        walk_at "c"
        refine ⟨b, rfl, rfl, pb, rfl, ?_⟩
        cases hb : isInt b with
        | false =>
          walk_at "D"
          rw [show isFr (.tup [.int t, b]) = false from by cases b <;> first | rfl | cases hb] at q
          exact fin_dat rfl q
        | true =>
          obtain ⟨n, rfl⟩ : ∃ t, b = .int t := by cases b <;> first | exact ⟨_, rfl⟩ | cases hb
          walk_at "D"
          have e : isFr (.tup [.int t, .int n]) = (decide (1 ≤ n) && decide (Int.gcd t n = 1)) := rfl
          refine ifC (fun c => ?_) (fun c => ?_)
          · have c := of_decide_eq_true c
            rw [e, decide_eq_false (by omega : ¬ 1 ≤ n)] at q
            walk_at "D"
            exact fin_dat rfl q
          · have c := of_decide_eq_false c
            walk_at "D"
            walk_at "c"
            refine ⟨_, _, rfl, rfl, by split <;> omega, by omega, rfl, ?_⟩
            walk_at "D"
            rw [e, decide_eq_true (by omega : 1 ≤ n)] at q
            have g : Int.gcd (if t < 0 then -t else t) n = Int.gcd t n := by split <;> simp [Int.gcd]
            rw [g]
            have e2 : eqS (.int ((Int.gcd t n : Nat) : Int)) (.int 1) = decide (Int.gcd t n = 1) := by
              simp only [eqS]
              exact decide_eq_decide.mpr ⟨fun h => by omega, fun h => by omega⟩
            rw [e2]
            exact fin_dat rfl q
  | obj => rw [pl] at hp; cases hp
  | scr => rw [pl] at hp; cases hp
  | ty => rw [pl] at hp; cases hp
  | cls => rw [pl] at hp; cases hp
  | _ => walk_at "D"; exact fin_dat rfl q
theorem ok_is_moment (T : Txt K mg) : FnOk P w K mg base CX0 3 T.a_is_moment T.d_is_moment ["thing"] (spG K (wThing isMo)) := by
  refine T.F_is_moment.ok sc_is_moment (fun vs H Q E h => spG_len h fun xs cs post exc ⟨a, e, _⟩ => by rw [e]; rfl) (fun cdv A outer s H vs Q E hr h => ⟨_, (pss_one (ps_ret (pe_and (pe_call (ok_is_fraction T) (hr.mono (by decide)) (by rfl) T.g_is_fraction T.F_is_fraction.kp T.b_is_fraction .nil pass0 (pa_cons (pv 0) pa_nil)) (pe_one (pe_cmpR op_ge (pe_ix ix_tup (pv 0) pe_int (fun _ _ => rfl)) pe_int (nomark _)))))), enter h fun F xs cs post hE hw => ?_⟩)
  obtain ⟨d, rfl, rfl, hp, q⟩ := hw
  walk_at "D"
  walk_at "c"
  refine ⟨d, rfl, rfl, hp, rfl, ?_⟩
  cases hf : isFr d with
  | false =>
    walk_at "D"
    rw [show isMo d = false from by
      unfold isFr at hf
      unfold isMo
      split at hf
      · rw [hf]; rfl
      · first | rfl | (split <;> first | rfl | (rename_i h1 _ _; exact absurd rfl (h1 _ _)))] at q
    exact fin_dat rfl q
  | true =>
    obtain ⟨r, rfl⟩ := isFr_of hf
    walk_at "D"
    rw [isMo_fD] at q
    exact fin_dat rfl q
end

section
variable {P : Program} {w : World} {K : PySem.W.Frag} {mg : Str → Option Value} {base : Heap}
/-! ### edits by data -/
structure Ed where
  span : Rat
  start : Option Rat
  rate : Rat
def oD : Option Rat → D
  | none => .non
  | some q => fD q
def eD (e : Ed) : D := .tup [fD e.span, oD e.start, fD e.rate]
def isZero : D → Bool
  | .tup [.int t, .int b] => decide (t = 0) && decide (b = 1)
  | _ => false
def isEd : D → Bool
  | .tup [s, st, r] => isMo s && !isZero s && (if isNon (.dat st) = true then isZero r else isMo st && isMo r)
  | _ => false
/-- edits as the document asks for them -/
def Ed.ok (e : Ed) : Prop := 0 < e.span ∧ (∀ q, e.start = some q → 0 ≤ q) ∧ 0 ≤ e.rate ∧ (e.start = none → e.rate = 0)
theorem hard_fD (q : Rat) : hard (fD q) = true := rfl
theorem hard_oD (q : Option Rat) : hard (oD q) = true := by cases q <;> rfl
theorem hard_eD (e : Ed) : hard (eD e) = true := by
  show (hard (fD e.span) && (hard (oD e.start) && (hard (fD e.rate) && true))) = true
  rw [hard_fD, hard_oD, hard_fD]; rfl
theorem hards_eD (es : List Ed) : hards (es.map eD) = true := by
  induction es with
  | nil => rfl
  | cons e es ih => show (hard (eD e) && hards (es.map eD)) = true; rw [hard_eD, ih]; rfl
theorem pl_fD (q : Rat) : pl (fD q) = true := rfl
theorem pl_oD (q : Option Rat) : pl (oD q) = true := by cases q <;> rfl
theorem pl_eD (e : Ed) : pl (eD e) = true := by
  show (pl (fD e.span) && (pl (oD e.start) && (pl (fD e.rate) && true))) = true
  rw [pl_fD, pl_oD, pl_fD]; rfl
theorem pls_eD (es : List Ed) : pls (es.map eD) = true := by
  induction es with
  | nil => rfl
  | cons e es ih => show (pl (eD e) && pls (es.map eD)) = true; rw [pl_eD, ih]; rfl
theorem fine_fD (q : Rat) : fine 1 (fD q) = true := rfl
theorem fine_oD (q : Option Rat) : fine 1 (oD q) = true := by cases q <;> rfl
theorem fine_eD (e : Ed) : fine 2 (eD e) = true := by
  show (fine 1 (fD e.span) && (fine 1 (oD e.start) && (fine 1 (fD e.rate) && true))) = true
  rw [fine_fD, fine_oD, fine_fD]; rfl
theorem fines_eD (es : List Ed) : fines 2 (es.map eD) = true := by
  induction es with
  | nil => rfl
  | cons e es ih => show (fine 2 (eD e) && fines 2 (es.map eD)) = true; rw [fine_eD, ih]; rfl
theorem noB_fD (q : Rat) : noB (fD q) = true := rfl
theorem noB_oD (q : Option Rat) : noB (oD q) = true := by cases q <;> rfl
theorem noB_eD (e : Ed) : noB (eD e) = true := by
  show (noB (fD e.span) && (noB (oD e.start) && (noB (fD e.rate) && true))) = true
  rw [noB_fD, noB_oD, noB_fD]; rfl
theorem noBs_eD (es : List Ed) : noBs (es.map eD) = true := by
  induction es with
  | nil => rfl
  | cons e es ih => show (noB (eD e) && noBs (es.map eD)) = true; rw [noB_eD, ih]; rfl
theorem fD_inj {p q : Rat} : fD p = fD q ↔ p = q := by
  constructor
  · intro h
    unfold fD at h
    simp only [D.tup.injEq, List.cons.injEq, D.int.injEq, and_true] at h
    exact Rat.ext h.1 (by omega)
  · rintro rfl; rfl
theorem oD_inj {p q : Option Rat} : oD p = oD q ↔ p = q := by
  cases p with
  | none => cases q with
    | none => exact ⟨fun _ => rfl, fun _ => rfl⟩
    | some q => exact ⟨(fun h => nomatch (show D.non = D.tup _ from h)), (fun h => nomatch h)⟩
  | some p => cases q with
    | none => exact ⟨(fun h => nomatch (show D.tup _ = D.non from h)), (fun h => nomatch h)⟩
    | some q => exact ⟨fun h => by rw [fD_inj.mp h], fun h => by cases h; rfl⟩
theorem eD_inj {d e : Ed} : eD d = eD e ↔ d = e := by
  constructor
  · intro h
    unfold eD at h
    simp only [D.tup.injEq, List.cons.injEq, and_true] at h
    obtain ⟨h1, h2, h3⟩ := h
    obtain ⟨a, b, c⟩ := d
    obtain ⟨a', b', c'⟩ := e
    rw [fD_inj] at h1 h3
    rw [oD_inj] at h2
    simp only at h1 h2 h3
    subst h1 h2 h3
    rfl
  · rintro rfl; rfl
theorem eDs_inj {ds es : List Ed} : ds.map eD = es.map eD ↔ ds = es := by
  constructor
  · intro h
    induction ds generalizing es with
    | nil => cases es with | nil => rfl | cons => cases h
    | cons d ds ih =>
      cases es with
      | nil => cases h
      | cons e es =>
        simp only [List.map_cons, List.cons.injEq] at h
        rw [eD_inj.mp h.1, ih h.2]
  · rintro rfl; rfl
theorem eqD_fD (p q : Rat) : eqD (fD p) (fD q) = decide (p = q) := by
  have h := (eqD_iff (fD p) (fD q) rfl rfl).trans fD_inj
  by_cases e : p = q
  · rw [decide_eq_true e]; exact h.mpr e
  · rw [decide_eq_false e]
    cases z : eqD (fD p) (fD q) with
    | false => rfl
    | true => exact absurd (h.mp z) e
theorem eqD_oD (p q : Option Rat) : eqD (oD p) (oD q) = decide (p = q) := by
  have h := (eqD_iff (oD p) (oD q) (noB_oD p) (noB_oD q)).trans oD_inj
  by_cases e : p = q
  · rw [decide_eq_true e]; exact h.mpr e
  · rw [decide_eq_false e]
    cases z : eqD (oD p) (oD q) with
    | false => rfl
    | true => exact absurd (h.mp z) e
theorem eqD_eDs (ds es : List Ed) : eqD (.lst (ds.map eD)) (.lst (es.map eD)) = true ↔ ds = es := by
  rw [eqD_iff _ _ (by rw [noB]; exact noBs_eD ds) (by rw [noB]; exact noBs_eD es), D.lst.injEq]
  exact eDs_inj
theorem isZero_fD (q : Rat) : isZero (fD q) = decide (q = 0) := by
  show (decide (q.num = 0) && decide ((q.den : Int) = 1)) = decide (q = 0)
  by_cases e : q = 0
  · subst e; rfl
  · rw [decide_eq_false e]
    by_cases z : q.num = 0
    · exact absurd (Rat.num_eq_zero.mp z) e
    · rw [decide_eq_false z]; rfl
theorem num_nonneg {q : Rat} : 0 ≤ q.num ↔ 0 ≤ q := Rat.num_nonneg
theorem isEd_eD {e : Ed} (h : e.ok) : isEd (eD e) = true := by
  obtain ⟨h1, h2, h3, h4⟩ := h
  obtain ⟨s, st, r⟩ := e
  show (isMo (fD s) && !isZero (fD s) && (if isNon (.dat (oD st)) = true then isZero (fD r) else isMo (oD st) && isMo (fD r))) = true
  simp only at h1 h2 h3 h4
  rw [isMo_fD, isZero_fD, decide_eq_false (fun z : s = 0 => by subst z; exact absurd h1 (by decide)), decide_eq_true (num_nonneg.mpr (Rat.le_of_lt h1))]
  cases st with
  | none =>
    rw [h4 rfl]
    rfl
  | some q =>
    show (true && !false && (isMo (fD q) && isMo (fD r))) = true
    rw [isMo_fD, isMo_fD, decide_eq_true (num_nonneg.mpr (h2 q rfl)), decide_eq_true (num_nonneg.mpr h3)]
    rfl
theorem isZero_fr {d : D} (h : isZero d = true) : isFr d = true := by
  unfold isZero at h
  split at h
  · rw [Bool.and_eq_true] at h
    rw [of_decide_eq_true h.1, of_decide_eq_true h.2]
    rfl
  · cases h
theorem rep_NOUGHT (T : Txt K mg) : ∀ G, Rep K G (fD 0) (.ref T.ca_NOUGHT) := fun G => by
  obtain ⟨o, n, its, h1, h2, h3, h4⟩ := T.cs_NOUGHT
  have hl := h4.length
  refine .tup (vs := [.int 0, .int 1]) (.inr ⟨o, its, n, h1, h2, h3, ?_, h4⟩) (.cons (.int 0) (.cons (.int 1) .nil))
  rw [← Array.length_toList, ← hl]
  exact sz rfl
theorem ok_is_edit (T : Txt K mg) : FnOk P w K mg base CX0 4 T.a_is_edit T.d_is_edit ["thing"] (spG K (wThing isEd)) := by
  refine T.F_is_edit.ok sc_is_edit (fun vs H Q E h => spG_len h fun xs cs post exc ⟨a, e, _⟩ => by rw [e]; rfl) (fun cdv A outer s H vs Q E hr h => ⟨_, (pss_cons (ps_if (PW.pt (pw_or (pt_not (pt_val (pe_callB call_isi (by rfl) T.m_isinstance (by decide +kernel) (pa_cons (pv 0) (pa_cons (pe_bltn (v := .ty "tuple") (by rfl) T.m_tuple (by decide +kernel) rfl) pa_nil))))) (pw_or1 (pt_cmpR op_ne (pe_callB call_len_seq (by rfl) T.m_len (by decide +kernel) (pa_cons (pv 0) pa_nil)) pe_int (nomark _))))) (pss_one (ps_ret pe_bl)) pss_nil)
      (pss_cons (ps_asg (pv 0) (pg_tup rfl (pgs_cons (pg_name (i := 1) sc_is_edit.nd rfl (Or.inl rfl)) (pgs_cons (pg_name (i := 2) sc_is_edit.nd rfl (Or.inl rfl)) (pgs_cons (pg_name (i := 3) sc_is_edit.nd rfl (Or.inl rfl)) pgs_nil)))))
      (pss_cons (ps_if (PW.pt (pw_or (pt_not (pt_val (pe_call (ok_is_moment T) (hr.mono (by decide)) (by rfl) T.g_is_moment T.F_is_moment.kp T.b_is_moment .nil pass0 (pa_cons (pv 1) pa_nil)))) (pw_or1 (pt_cmpR (op_eqD hr.units) (pv 1) (pe_glob (v := .ref T.ca_NOUGHT) (by rfl) T.g_NOUGHT rfl) (nomark _))))) (pss_one (ps_ret pe_bl)) pss_nil)
      (pss_cons (ps_if (pt_cmpR op_isN (pv 2) pe_non (nomark _)) (pss_one (ps_ret (pe_and (pe_call (ok_is_fraction T) (hr.mono (by decide)) (by rfl) T.g_is_fraction T.F_is_fraction.kp T.b_is_fraction .nil pass0 (pa_cons (pv 3) pa_nil)) (pe_one (pe_cmpR (op_eqD hr.units) (pv 3) (pe_glob (v := .ref T.ca_NOUGHT) (by rfl) T.g_NOUGHT rfl) (nomark _)))))) pss_nil)
      (pss_one (ps_ret (pe_and (pe_call (ok_is_moment T) (hr.mono (by decide)) (by rfl) T.g_is_moment T.F_is_moment.kp T.b_is_moment .nil pass0 (pa_cons (pv 2) pa_nil)) (pe_one (pe_call (ok_is_moment T) (hr.mono (by decide)) (by rfl) T.g_is_moment T.F_is_moment.kp T.b_is_moment .nil pass0 (pa_cons (pv 3) pa_nil)))))))))), enter h fun F xs cs post hE hw => ?_⟩)
  obtain ⟨d, rfl, rfl, hp, q⟩ := hw
  have hN := rep_NOUGHT T
  cases d with
  | tup ds =>
    match ds, hp, q with
    | [], hp, q => walk_at "D"; exact fin_dat rfl q
    | [a], hp, q => walk_at "D"; exact fin_dat rfl q
    | [a, b], hp, q => walk_at "D"; exact fin_dat rfl q
    | a :: b :: c :: d :: r, hp, q => walk_at "D"; exact fin_dat rfl q
    | [a, b, c], hp, q =>
      obtain ⟨pa, hp⟩ := pls_cons (show pls [a, b, c] = true by rw [pl] at hp; exact hp)
      obtain ⟨pb, hp⟩ := pls_cons hp
      obtain ⟨pc, _⟩ := pls_cons hp
      have e0 : isEd (.tup [a, b, c]) = (isMo a && !isZero a && (if isNon (.dat b) = true then isZero c else isMo b && isMo c)) := rfl
      rw [e0] at q
      walk_at "D"
      walk_at "c"
      refine ⟨a, rfl, rfl, pa, rfl, ?_⟩
      cases ha : isMo a with
      | false =>
        rw [ha] at q
        walk_at "D"
        exact fin_dat rfl q
      | true =>
        rw [ha] at q
        obtain ⟨s, rfl⟩ : ∃ s, a = fD s := isFr_of (by
          unfold isMo at ha
          split at ha
          · rw [Bool.and_eq_true] at ha; exact ha.1
          · cases ha)
        rw [isZero_fD] at q
        walk_at "D"
        refine we_cr hN ?_
        refine wr_eqD 1 (.dat _) (.dat _) rfl rfl (by decide) ?_
        rw [eqD_fD]
        cases hz : decide (s = 0) with
        | true =>
          rw [hz] at q
          walk_at "D"
          exact fin_dat rfl q
        | false =>
          rw [hz] at q
          walk_at "D"
          cases hn : isNon (.dat b) with
          | true =>
            rw [hn] at q
            walk_at "D"
            walk_at "c"
            refine ⟨c, rfl, rfl, pc, rfl, ?_⟩
            cases hc : isFr c with
            | false =>
              walk_at "D"
              rw [show isZero c = false from by
                cases z : isZero c with
                | false => rfl
                | true => rw [isZero_fr z] at hc; cases hc] at q
              exact fin_dat rfl q
            | true =>
              obtain ⟨r, rfl⟩ := isFr_of hc
              walk_at "D"
              refine we_cr hN ?_
              refine wr_eqD 1 (.dat _) (.dat _) rfl rfl (by decide) ?_
              rw [eqD_fD, ← isZero_fD]
              exact fin_dat rfl q
          | false =>
            rw [hn] at q
            walk_at "D"
            walk_at "c"
            refine ⟨b, rfl, rfl, pb, rfl, ?_⟩
            cases hb : isMo b with
            | false =>
              rw [hb] at q
              walk_at "D"
              exact fin_dat rfl q
            | true =>
              rw [hb] at q
              walk_at "D"
              walk_at "c"
              exact ⟨c, rfl, rfl, pc, rfl, fin_dat rfl q⟩
  | obj => rw [pl] at hp; cases hp
  | scr => rw [pl] at hp; cases hp
  | ty => rw [pl] at hp; cases hp
  | cls => rw [pl] at hp; cases hp
  | _ => walk_at "D"; exact fin_dat rfl q
/-- what is_edits tells -/
def isEds : D → Bool
  | .lst ds => ds.all isEd
  | _ => false
theorem ok_is_edits (T : Txt K mg) : FnOk P w K mg base CX0 5 T.a_is_edits T.d_is_edits ["thing"] (spG K (wThing isEds)) := by
  refine T.F_is_edits.ok sc_is_edits (fun vs H Q E h => spG_len h fun xs cs post exc ⟨a, e, _⟩ => by rw [e]; rfl) (fun cdv A outer s H vs Q E hr h => ⟨_, (pss_cons (ps_if (pt_not (pt_val (pe_callB call_isi (by rfl) T.m_isinstance (by decide +kernel) (pa_cons (pv 0) (pa_cons (pe_bltn (v := .ty "list") (by rfl) T.m_list (by decide +kernel) rfl) pa_nil))))) (pss_one (ps_ret pe_bl)) pss_nil)
      (pss_cons (ps_for PassesOwn.never rfl (pi_list (pv 0)) (pg_name (i := 1) sc_is_edits.nd rfl (Or.inl rfl))
        (pss_one (ps_if (pt_not (pt_val (pe_call (ok_is_edit T) (hr.mono (by decide)) (by rfl) T.g_is_edit T.F_is_edit.kp T.b_is_edit .nil pass0 (pa_cons (pv 1) pa_nil)))) (pss_one (ps_ret pe_bl)) pss_nil)))
      (pss_one (ps_ret pe_bl)))), enter h fun F xs cs post hE hw => ?_⟩)
  obtain ⟨d, rfl, rfl, hp, q⟩ := hw
  cases d with
  | lst ds =>
    have hp : pls ds = true := by rw [pl] at hp; exact hp
    walk_at "D"
    refine loop_by (fun es ρ => ∃ x, ρ = ⟨[some (.dat (.lst ds)), x], []⟩ ∧ pls es = true ∧ post (.dat (.bl (es.all isEd))) []) ⟨none, rfl, hp, q⟩ ?_ ?_
    · rintro ρ ⟨x, rfl, _, q⟩
      refine ⟨.dat _, ?_⟩
      walk_at "D"
      exact fin_dat rfl q
    · rintro e es ρ ⟨x, rfl, hp, q⟩
      obtain ⟨pe, hp⟩ := pls_cons hp
      refine ⟨.dat _, ?_⟩
      walk_at "D"
      walk_at "c"
      refine ⟨e, rfl, rfl, pe, rfl, ?_⟩
      rw [List.all_cons] at q
      cases he : isEd e with
      | false =>
        rw [he] at q
        walk_at "D"
        exact fin_dat rfl q
      | true =>
        rw [he, Bool.true_and] at q
        walk_at "D"
        exact now ⟨_, rfl, hp, q⟩
  | obj => rw [pl] at hp; cases hp
  | scr => rw [pl] at hp; cases hp
  | ty => rw [pl] at hp; cases hp
  | cls => rw [pl] at hp; cases hp
  | _ => walk_at "D"; exact fin_dat rfl q
end

/-! ### what follows a call -/
section
variable {K : PySem.W.Frag} {F : Fx} {ρ : En} {k : AV → En → Prop} {x : AV}
theorem OfD.as {d : D} {xs : List AV} {ds : List D} (h : OfD ρ x d) (r : AsD ρ xs ds) : AsD ρ (x :: xs) (d :: ds) := by
  cases h with
  | dat => exact .dat r
  | cel hc => exact .cel hc r
theorem aft_hard {xs : List AV} {d : D} (h : hard d = true) (hk : k (.dat d) ρ) : aft ρ xs k (.dat d) := ⟨by rw [h, Bool.or_true], hk⟩
theorem aft_hards {xs : List AV} {ds : List D} (h : hards ds = true) (hk : k (.cel ρ.ce.length) (ρ.add ds)) : aft ρ xs k (.new ds) := ⟨by rw [h, Bool.or_true], hk⟩
theorem hards_fD (qs : List Rat) : hards (qs.map fD) = true := by
  induction qs with
  | nil => rfl
  | cons e es ih => show (hard (fD e) && hards (es.map fD)) = true; rw [hard_fD, ih]; rfl
end
/-! ### max of a tuple of whole numbers -/
def rMaxT (K : PySem.W.Frag) : List V → Hp → VK → Prop := fun vs H Q => ∃ (a : Addr) (n : Int) (ns : List Int), vs = [.ref a] ∧ SqT K H a ((n :: ns).map V.int) ∧ Q (.int (PySem.W.maxOf n ns)) H
theorem holds_ints {h : Heap} : ∀ {ns : List Int} {us : List Value}, Vals (ns.map V.int) us → PySem.W.HoldAll h us ns
  | [], _, r => by cases r; exact .nil
  | n :: ns, _, r => by
    cases r with
    | cons a b =>
      obtain ⟨t, rfl⟩ := a
      exact .cons (PySem.W.holds_int n t) (holds_ints b)
theorem call_maxT {X : Cx} (hc : X.calm = true) (hu : X.A.units + 64 < cLine) : CallR X (.builtin "max") (rMaxT X.K) := by
  intro pins s σ H vs us Q I r h
  obtain ⟨a, n, ns, rfl, hs, q⟩ := h
  obtain ⟨its, rv, hl, _⟩ := I.tuple hs
  rw [Vals.ref1 r]
  refine PySem.W.max_tuple_datum (x := n) (xs := ns) (I.ok.hd hc) hl (by simpa using holds_ints rv) (by show X.A.units + 1 + 0 < cLine; omega) fun i v h' tk hi hv hk => ?_
  have hm : ∃ t, v = .int (PySem.W.maxOf n ns) t := by
    obtain ⟨as, hr⟩ := hv
    cases hr with
    | int _ t => exact ⟨t, rfl⟩
  obtain ⟨t, rfl⟩ := hm
  exact ⟨.int _, H, I.kept hk, ⟨_, rfl⟩, q⟩
theorem Reps.ints {K : PySem.W.Frag} {G : Hp} : ∀ {ns : List Int} {vs : List V}, Reps K G (ns.map D.int) vs → vs = ns.map V.int
  | [], _, h => by cases h; rfl
  | n :: ns, _, h => by
    cases h with
    | cons a b => cases a; rw [Reps.ints b]; rfl
theorem wc_maxT {K : PySem.W.Frag} {F : Fx} {ρ : En} {k : AV → En → Prop} {n : Int} {ns : List Int} (hk : k (.dat (.int (PySem.W.maxOf n ns))) ρ) : WpC K F (rMaxT K) [.dat (.tup ((n :: ns).map D.int))] ρ k := fun as σ H G vs e r Q q => by
  cases r with
  | cons r1 r2 =>
    cases r2
    obtain ⟨a, ws, rfl, hs, hr⟩ := Rep.tupE r1
    rw [Reps.ints hr] at hs
    exact ⟨a, n, ns, rfl, Same.seqT e.gh hs, q _ ρ _ as H G hk e .refl (Rep.int _)⟩
section
variable {P : Program} {w : World} {K : PySem.W.Frag} {mg : Str → Option Value} {base : Heap}
/-! ### a drawn figure, of a base up to 10 ^ 33 -/
theorem lg_wide {b : Int} (b0 : 0 < b) (b1 : b < 1000000000000000000000000000000000) : b.natAbs.log2 < 9000 := by
  have h : b.natAbs.log2 < 110 := (Nat.log2_lt (by omega)).mpr (by omega)
  omega
def wDigit : PW0 := fun xs cs post _ => ∃ b : Int, xs = [.cel 0, .dat (.int b)] ∧ cs = [.drw] ∧ 0 < b ∧ b < 1000000000000000000000000000000000 ∧ ∀ d, 0 ≤ d → d < b → post (.dat (.int d)) [.drw]
def wDigit0 : PW0 := fun xs cs post _ => ∃ b : Int, xs = [.cel 0, .dat (.int b)] ∧ cs = [.drw] ∧ 0 < b ∧ b < 1000000000000000000000000000000000 ∧ ∀ d x y z, 0 ≤ d → d < b → post (.dat (.int d)) [.lst [.int x, .int y, .int z]]
theorem digit0_of {vs : List V} {H : Hp} {Q : VK} {E : XK} (h : spG K wDigit vs H Q E) : spG K wDigit0 vs H Q E := by
  obtain ⟨G, as, Ts, xs, cs, post, exc, gh, ok, rg, rx, ⟨b, rfl, rfl, b0, b1, hp⟩, hq, he⟩ := h
  refine ⟨G, as, Ts, _, _, fun r cs' => ∃ (d x y z : Int), r = .dat (.int d) ∧ cs' = [.lst [.int x, .int y, .int z]] ∧ 0 ≤ d ∧ d < b, exc, gh, ok, rg, rx, ⟨b, rfl, rfl, b0, b1, fun d x y z d0 d1 => ⟨d, x, y, z, rfl, rfl, d0, d1⟩⟩, ?_, he⟩
  rintro r cs' v H' G' Ts' ⟨d, x, y, z, rfl, rfl, d0, d1⟩ fr sG gh' nw ck rg' nwT rr
  refine hq _ _ v H' G' Ts' (hp d d0 d1) fr sG gh' nw ⟨ck.ln, ck.nd, fun j c a hc ha => ?_⟩ (rg'.noreg (fun j t X z => by cases j <;> simp at z) fun j t X z => by cases j <;> simp at z) nwT rr
  cases j with
  | zero =>
    cases hc
    obtain ⟨h1, g, ws, hw, hr⟩ := ck.ok 0 _ a rfl ha
    refine ⟨h1, g, ws, hw, ?_⟩
    obtain ⟨v1, w1, rfl, r1, hr⟩ := hr.consE
    obtain ⟨v2, w2, rfl, r2, hr⟩ := hr.consE
    obtain ⟨v3, w3, rfl, r3, hr⟩ := hr.consE
    rw [hr.nilE, r1.intE, r2.intE, r3.intE]
    exact .inr ⟨_, _, _, rfl⟩
  | succ j => simp at hc
theorem ok_l_digit (T : Txt K mg) : FnOk P w K mg base CX0 1 T.a_l_digit T.d_l_digit ["_law_state", "_law_base"] (spG K wDigit) := by
  refine FnOk.imp (sp := spG K wDigit0) ?_ (fun vs H Q E h => digit0_of h)
  refine T.F_l_digit.ok sc_l_digit (fun vs H Q E h => spG_len h fun xs cs post exc ⟨b, e, _⟩ => by rw [e]; rfl) (fun cdv A outer s H vs Q E hr h => ⟨_, (pss_cons (ps_if (pt_cmpR op_eq (pe_callB call_len_seq (by rfl) T.m_len (by decide +kernel) (pa_cons (pv 0) pa_nil)) pe_int (nomark _)) (pss_one (ps_expr (pe_bm PySem.F.plainAttrs_list PySem.F.slot_list_extend PySem.F.type_list_extend mt_extend (pv 0) (pa_cons (pe_lst (pa_cons (pe_op op_mod (pe_ix ix_list (pv 0) pe_int (fun _ _ => rfl)) pe_int) (pa_cons pe_int pa_nil))) pa_nil)))) pss_nil)
      (pss_cons (ps_if (pt_cmpR op_ge (pe_ix ix_list (pv 0) pe_int (fun _ _ => rfl)) (pv 1) (nomark _)) (pss_cons (ps_set (i := 2) sc_l_digit.nd rfl (Or.inl rfl) (pe_op op_mod (pe_ix ix_list (pv 0) pe_int (fun _ _ => rfl)) (pv 1)))
      (pss_cons (ps_asg (pe_op op_fdivW (pe_ix ix_list (pv 0) pe_int (fun _ _ => rfl)) (pv 1)) (pg_sub (pv 0) pe_int set_list))
      (pss_one (ps_ret (pv 2))))) pss_nil)
      (pss_cons (ps_asg (pe_op op_add (pe_ix ix_list (pv 0) pe_int (fun _ _ => rfl)) pe_int) (pg_sub (pv 0) pe_int set_list))
      (pss_cons (ps_set (i := 3) sc_l_digit.nd rfl (Or.inl rfl) (pe_op op_mod (pe_op op_mul (pe_op op_add (pe_op op_add (pe_ix ix_list (pv 0) pe_int (fun _ _ => rfl)) (pe_op op_mul pe_int (pe_ix ix_list (pv 0) pe_int (fun _ _ => rfl)))) pe_int) pe_int) pe_int))
      (pss_cons (ps_set (i := 3) sc_l_digit.nd rfl (Or.inl rfl) (pe_op op_mod (pe_op op_mul (pv 3) (pe_op op_add (pe_op op_fdivW (pv 3) pe_int) pe_int)) pe_int))
      (pss_one (ps_ret (pe_op op_mod (pe_op op_mod (pe_op op_mul (pv 3) (pe_op op_add (pe_op op_fdivW (pv 3) pe_int) pe_int)) pe_int) (pv 1))))))))), enter h fun F xs cs post hE hw => ?_⟩)
  obtain ⟨b, rfl, rfl, b0, b1, q⟩ := hw
  refine ws_seq ?_
  generalize hR : (tSeq _ _ : TS) = R
  have rest : ∀ (cc : List Cell) (x y z : Int), WpS K F R ⟨[some (.cel 0), some (.dat (.int b)), none, none], .lst [.int x, .int y, .int z] :: cc⟩ (KS.fin 1 post) := by
    intro cc x y z
    subst hR
    walk_at "D"
    refine ifC (fun c => ?_) (fun c => ?_)
    · walk_at "D"
      refine wr_Ii b0 ?_
      walk_at "D"
      refine wr_Ii ⟨b0, lg_wide b0 b1⟩ ?_
      walk_at "D"
      refine sub_in rfl rfl (by walk_at "fz") rfl (m := 0) rfl ?_
      walk_at "D"
      exact fin_dat rfl (q _ _ _ _ (Int.emod_nonneg _ (by omega)) (Int.emod_lt_of_pos _ b0))
    · walk_at "D"
      refine sub_in rfl rfl (by walk_at "fz") rfl (m := 2) rfl ?_
      walk_at "D"
      refine wr_Ii (.inl (by decide)) ?_
      walk_at "D"
      refine wr_Ii (.inr (by decide)) ?_
      walk_at "D"
      refine wr_Ii (by decide) ?_
      have n0 := Int.emod_nonneg ((y + 7919 * (z + 1) + 1) * 48271) (show (2147483647 : Int) ≠ 0 by decide)
      have n1 := Int.emod_lt_of_pos ((y + 7919 * (z + 1) + 1) * 48271) (show (0 : Int) < 2147483647 by decide)
      walk_at "D"
      generalize (y + 7919 * (z + 1) + 1) * 48271 % 2147483647 = n at *
      refine wr_Ii ⟨by decide, by decide⟩ ?_
      walk_at "D"
      refine wr_Ii (.inl ⟨by omega, by omega⟩) ?_
      walk_at "D"
      refine wr_Ii (by decide) ?_
      have m0 := Int.emod_nonneg (n * (n / 1009 + 69621)) (show (2147483647 : Int) ≠ 0 by decide)
      have m1 := Int.emod_lt_of_pos (n * (n / 1009 + 69621)) (show (0 : Int) < 2147483647 by decide)
      walk_at "D"
      generalize n * (n / 1009 + 69621) % 2147483647 = m at *
      walk_at "D"
      refine wr_Ii ⟨by decide, by decide⟩ ?_
      walk_at "D"
      refine wr_Ii (.inl ⟨by omega, by omega⟩) ?_
      walk_at "D"
      refine wr_Ii (by decide) ?_
      walk_at "D"
      refine wr_Ii b0 ?_
      exact fin_dat rfl (q _ _ _ _ (Int.emod_nonneg _ (by omega)) (Int.emod_lt_of_pos _ b0))
  refine ws_drwO (j := 0) rfl (fun x => ?_) (fun x y z => ?_)
  · walk_at "D"
    refine wr_Ii (by decide) ?_
    walk_at "D"
    refine wm_extend (.cel (j := 1) rfl) rfl (by simp) ?_
    walk_at "D"
    exact rest _ _ _ _
  · walk_at "D"
    exact rest _ _ _ _
theorem wsp_digit {K : PySem.W.Frag} {F : Fx} {ρ : En} {k : AV → En → Prop} {E : L2.St → XK} {j : Nat} {b : Int} (hj : ρ.ce[j]? = some .drw) (b0 : 0 < b) (b1 : b < 1000000000000000000000000000000000) (h : ∀ d, 0 ≤ d → d < b → k (.dat (.int d)) ρ) : WpSp K F (spG K wDigit) E [.cel j, .dat (.int b)] ρ k :=
  wspD hj (.own (.dat .nil)) ⟨b, rfl, rfl, b0, b1, fun d d0 d1 => ⟨rfl, by show (onlyC j [.cel j, .dat (.int b)] || hard (.int d)) = true; rw [show hard (.int d) = true from rfl, Bool.or_true], h d d0 d1⟩⟩
/-! ### whole numbers from low to high -/
def inR (lo hi : Int) : D → Bool
  | .int i => decide (lo ≤ i) && decide (i ≤ hi)
  | _ => false
theorem inR_of {lo hi : Int} {d : D} (h : inR lo hi d = true) : ∃ i, d = .int i ∧ lo ≤ i ∧ i ≤ hi := by
  cases d with
  | int i =>
    have h : (decide (lo ≤ i) && decide (i ≤ hi)) = true := h
    rw [Bool.and_eq_true, decide_eq_true_eq, decide_eq_true_eq] at h
    exact ⟨i, rfl, h.1, h.2⟩
  | _ => cases h
theorem inR_int {lo hi i : Int} (h1 : lo ≤ i) (h2 : i ≤ hi) : inR lo hi (.int i) = true := by
  show (decide (lo ≤ i) && decide (i ≤ hi)) = true
  rw [decide_eq_true h1, decide_eq_true h2]; rfl
def wWhole : PW0 := fun xs cs post _ => ∃ (d : D) (lo hi : Int), xs = [.dat d, .dat (.int lo), .dat (.int hi)] ∧ cs = [] ∧ pl d = true ∧ post (.dat (.bl (inR lo hi d))) []
theorem ok_is_whole (T : Txt K mg) : FnOk P w K mg base CX0 2 T.a_is_whole T.d_is_whole ["thing", "low", "high"] (spG K wWhole) := by
  refine T.F_is_whole.ok sc_is_whole (fun vs H Q E h => spG_len h fun xs cs post exc ⟨a, b, c, e, _⟩ => by rw [e]; rfl) (fun cdv A outer s H vs Q E hr h => ⟨_, (pss_one (ps_ret (pe_and (pe_call (ok_is_number T) (hr.mono (by decide)) (by rfl) T.g_is_number T.F_is_number.kp T.b_is_number .nil pass0 (pa_cons (pv 0) pa_nil)) (pe_one (pe_chainI op_le op_le (pv 1) (pv 0) (pv 2) mn_var mn_var mn_var sh_var))))), enter h fun F xs cs post hE hw => ?_⟩)
  obtain ⟨d, lo, hi, rfl, rfl, hp, q⟩ := hw
  walk_at "D"
  walk_at "c"
  refine ⟨d, rfl, rfl, hp, rfl, ?_⟩
  cases d with
  | int i =>
    walk_at "D"
    refine we_chV ?_
    walk_at "D"
    refine ⟨_, _, _, rfl, rfl, rfl, ?_⟩
    exact fin_dat rfl q
  | _ =>
    walk_at "D"
    exact fin_dat rfl q
def isRu : D → Bool
  | .tup [.str k, a] => decide (k = "plain") && inR 0 255 a
  | .tup [.str k, a, b, c] => decide (k = "moved") && (inR 1 200 a && (inR 0 15 b && inR 0 255 c))
  | .tup [.str k, a, b, c, d] => decide (k = "mixed") && (inR 1 200 a && (inR 0 15 b && (inR 1 200 c && inR 0 15 d)))
  | _ => false
theorem ok_is_wide (T : Txt K mg) : FnOk P w K mg base CX0 3 T.a_is_wide T.d_is_wide ["thing"] (spG K (wThing (inR 1 16))) := by
  refine T.F_is_wide.ok sc_is_wide (fun vs H Q E h => spG_len h fun xs cs post exc ⟨a, e, _⟩ => by rw [e]; rfl) (fun cdv A outer s H vs Q E hr h => ⟨_, (pss_one (ps_ret (pe_call (ok_is_whole T) (hr.mono (by decide)) (by rfl) T.g_is_whole T.F_is_whole.kp T.b_is_whole .nil pass0 (pa_cons (pv 0) (pa_cons pe_int (pa_cons (pe_glob (v := .int 16) (by rfl) T.g_GREATEST_WIDE ⟨_, rfl⟩) pa_nil)))))), enter h fun F xs cs post hE hw => ?_⟩)
  obtain ⟨d, rfl, rfl, hp, q⟩ := hw
  walk_at "D"
  walk_at "c"
  exact ⟨d, _, _, rfl, rfl, hp, rfl, fin_dat rfl q⟩
theorem ok_is_units (T : Txt K mg) : FnOk P w K mg base CX0 3 T.a_is_units T.d_is_units ["thing"] (spG K (wThing (inR 1 1000000))) := by
  refine T.F_is_units.ok sc_is_units (fun vs H Q E h => spG_len h fun xs cs post exc ⟨a, e, _⟩ => by rw [e]; rfl) (fun cdv A outer s H vs Q E hr h => ⟨_, (pss_one (ps_ret (pe_call (ok_is_whole T) (hr.mono (by decide)) (by rfl) T.g_is_whole T.F_is_whole.kp T.b_is_whole .nil pass0 (pa_cons (pv 0) (pa_cons pe_int (pa_cons (pe_glob (v := .int 1000000) (by rfl) T.g_GREATEST_UNITS ⟨_, rfl⟩) pa_nil)))))), enter h fun F xs cs post hE hw => ?_⟩)
  obtain ⟨d, rfl, rfl, hp, q⟩ := hw
  walk_at "D"
  walk_at "c"
  exact ⟨d, _, _, rfl, rfl, hp, rfl, fin_dat rfl q⟩
/-- a list of so many things -/
def isLs (lo hi : Nat) : D → Bool
  | .lst ds => decide (lo ≤ ds.length) && decide (ds.length ≤ hi)
  | _ => false
def wIsList : PW0 := fun xs cs post _ => ∃ (d : D) (lo hi : Nat), xs = [.dat d, .dat (.int lo), .dat (.int hi)] ∧ cs = [] ∧ pl d = true ∧ post (.dat (.bl (isLs lo hi d))) []
theorem ok_is_list (T : Txt K mg) : FnOk P w K mg base CX0 1 T.a_is_list T.d_is_list ["thing", "low", "high"] (spG K wIsList) := by
  refine T.F_is_list.ok sc_is_list (fun vs H Q E h => spG_len h fun xs cs post exc ⟨a, b, c, e, _⟩ => by rw [e]; rfl) (fun cdv A outer s H vs Q E hr h => ⟨_, (pss_one (ps_ret (pe_and (pe_callB call_isi (by rfl) T.m_isinstance (by decide +kernel) (pa_cons (pv 0) (pa_cons (pe_bltn (v := .ty "list") (by rfl) T.m_list (by decide +kernel) rfl) pa_nil))) (pe_one (pe_chain op_le op_le (pv 1) (pe_callB call_len_seq (by rfl) T.m_len (by decide +kernel) (pa_cons (pv 0) pa_nil)) (pv 2)))))), enter h fun F xs cs post hE hw => ?_⟩)
  obtain ⟨d, lo, hi, rfl, rfl, hp, q⟩ := hw
  cases d with
  | lst ds =>
    have e0 : isLs lo hi (.lst ds) = (decide (lo ≤ ds.length) && decide (ds.length ≤ hi)) := rfl
    rw [e0] at q
    walk_at "D"
    refine we_chain ?_
    walk_at "D"
    by_cases c1 : lo ≤ ds.length
    · rw [decide_eq_true c1] at q
      refine ifT (decide_eq_true (show (lo : Int) ≤ (ds.length : Int) by omega)) ?_
      walk_at "D"
      rw [show decide ((ds.length : Int) ≤ hi) = decide (ds.length ≤ hi) from decide_eq_decide.mpr (by omega)]
      exact fin_dat rfl q
    · rw [decide_eq_false c1] at q
      refine ifF (decide_eq_false (show ¬ (lo : Int) ≤ (ds.length : Int) by omega)) ?_
      exact fin_dat rfl q
  | obj => rw [pl] at hp; cases hp
  | scr => rw [pl] at hp; cases hp
  | ty => rw [pl] at hp; cases hp
  | cls => rw [pl] at hp; cases hp
  | _ => walk_at "D"; exact fin_dat rfl q
/-! ### edits refused, edits that lead -/
theorem isEd_of {d : D} (h : isEd d = true) : ∃ e : Ed, e.ok ∧ d = eD e := by
  unfold isEd at h
  split at h
  · rename_i s st r
    rw [Bool.and_eq_true, Bool.and_eq_true] at h
    obtain ⟨⟨h1, h2⟩, h3⟩ := h
    have mo : ∀ {x : D}, isMo x = true → ∃ q : Rat, 0 ≤ q ∧ x = fD q := fun {x} hx => by
      obtain ⟨q, rfl⟩ := isFr_of (d := x) (by
        unfold isMo at hx
        split at hx
        · rw [Bool.and_eq_true] at hx; exact hx.1
        · cases hx)
      rw [isMo_fD] at hx
      exact ⟨q, num_nonneg.mp (of_decide_eq_true hx), rfl⟩
    obtain ⟨sp, sp0, rfl⟩ := mo h1
    rw [isZero_fD] at h2
    have sn : sp ≠ 0 := fun z => by rw [decide_eq_true z] at h2; cases h2
    have s0 : 0 < sp := Rat.lt_of_le_of_ne sp0 (fun z => sn z.symm)
    cases hn : isNon (.dat st) with
    | true =>
      have es : st = .non := by cases st <;> first | rfl | cases hn
      subst es
      rw [hn] at h3
      obtain ⟨q, rfl⟩ := isFr_of (isZero_fr (show isZero r = true from h3))
      have q0 : q = 0 := of_decide_eq_true (by rw [← isZero_fD]; exact h3)
      exact ⟨⟨sp, none, q⟩, ⟨s0, (fun _ z => nomatch z), by rw [q0]; exact Rat.le_refl, fun _ => q0⟩, rfl⟩
    | false =>
      rw [hn] at h3
      have h3 : (isMo st && isMo r) = true := h3
      rw [Bool.and_eq_true] at h3
      obtain ⟨q, q0, rfl⟩ := mo h3.1
      obtain ⟨r, r0, rfl⟩ := mo h3.2
      exact ⟨⟨sp, some q, r⟩, ⟨s0, (fun _ z => by cases z; exact q0), r0, (fun z => nomatch z)⟩, rfl⟩
  · cases h
theorem isEds_of {d : D} (h : isEds d = true) : ∃ es : List Ed, (∀ e ∈ es, e.ok) ∧ d = .lst (es.map eD) := by
  cases d with
  | lst ds =>
    have h : ds.all isEd = true := h
    have main : ∀ ds : List D, ds.all isEd = true → ∃ es : List Ed, (∀ e ∈ es, e.ok) ∧ ds = es.map eD := by
      intro ds
      induction ds with
      | nil => intro _; exact ⟨[], (fun e m => nomatch m), rfl⟩
      | cons d ds ih =>
        intro h
        rw [List.all_cons, Bool.and_eq_true] at h
        obtain ⟨e, he, rfl⟩ := isEd_of h.1
        obtain ⟨es, hes, rfl⟩ := ih h.2
        refine ⟨e :: es, fun x m => ?_, rfl⟩
        rcases List.mem_cons.mp m with rfl | m
        · exact he
        · exact hes x m
    obtain ⟨es, hes, rfl⟩ := main ds h
    exact ⟨es, hes, rfl⟩
  | _ => cases h
theorem isEds_eD {es : List Ed} (h : ∀ e ∈ es, e.ok) : isEds (.lst (es.map eD)) = true := by
  show (es.map eD).all isEd = true
  rw [List.all_eq_true]
  intro d m
  obtain ⟨e, he, rfl⟩ := List.mem_map.mp m
  exact isEd_eD (h e he)
def wNoEdits (C : Addr) : PW0 := fun xs cs post exc => ∃ ds, xs = [.dat (.tup ds)] ∧ cs = [] ∧ pls ds = true ∧ (ds.all isEds = true → post (.dat .non) []) ∧ (ds.all isEds = false → exc C)
def wNoMoment (C : Addr) : PW0 := fun xs cs post exc => ∃ d, xs = [.dat d] ∧ cs = [] ∧ pl d = true ∧ (isMo d = true → post (.dat .non) []) ∧ (isMo d = false → exc C)
/-- the moment to which edits lead -/
def ledF : List Ed → Rat → Option Rat
  | [], _ => none
  | e :: es, t => if t < e.span then e.start.map (fun s => s + e.rate * t) else ledF es (t - e.span)
/-- all that is reckoned on the way is small enough -/
def LedOk : List Ed → Rat → Prop
  | [], _ => True
  | e :: es, t => Sz 4000 t ∧ Sz 4000 e.span ∧ (t < e.span → Sz 4000 e.rate ∧ ∀ s, e.start = some s → Sz 4000 s ∧ Sz 4000 (e.rate * t)) ∧ (¬ t < e.span → LedOk es (t - e.span))
def wLed : PW0 := fun xs cs post _ => ∃ (es : List Ed) (t : Rat), xs = [.dat (.lst (es.map eD)), .dat (fD t)] ∧ cs = [] ∧ LedOk es t ∧ post (.dat (oD (ledF es t))) []
/-! ### edits that a lane may have -/
def capD : D → Bool
  | .tup [.int a, .int b] => decide (a ≤ 1000000000000000000000000000000) && decide (b ≤ 1000000000000000000000000000000)
  | _ => true
def isSmD : D → Bool
  | .tup ds => ds.all capD
  | _ => true
theorem max_two (a b G : Int) : decide (G < PySem.W.maxOf a [b]) = !(decide (a ≤ G) && decide (b ≤ G)) := by
  show decide (G < (if decide (a < b) = true then b else a)) = _
  by_cases h : a < b
  · rw [if_pos (decide_eq_true h)]
    by_cases h2 : b ≤ G
    · rw [decide_eq_true h2, decide_eq_true (show a ≤ G by omega), decide_eq_false (show ¬ G < b by omega)]; rfl
    · rw [decide_eq_false h2, decide_eq_true (show G < b by omega), Bool.and_false]; rfl
  · rw [if_neg (by rw [decide_eq_false h]; decide)]
    by_cases h2 : a ≤ G
    · rw [decide_eq_true h2, decide_eq_true (show b ≤ G by omega), decide_eq_false (show ¬ G < a by omega)]; rfl
    · rw [decide_eq_false h2, decide_eq_true (show G < a by omega), Bool.false_and]; rfl
def wSmall : PW0 := fun xs cs post _ => ∃ e : Ed, xs = [.dat (eD e)] ∧ cs = [] ∧ post (.dat (.bl (isSmD (eD e)))) []
theorem ok_is_small_edit (T : Txt K mg) : FnOk P w K mg base CX0 1 T.a_is_small_edit T.d_is_small_edit ["edit"] (spG K wSmall) := by
  refine T.F_is_small_edit.ok sc_is_small_edit (fun vs H Q E h => spG_len h fun xs cs post exc ⟨a, e, _⟩ => by rw [e]; rfl) (fun cdv A outer s H vs Q E hr h => ⟨_, (pss_cons (ps_for PassesOwn.never rfl (pi_tup (pv 0)) (pg_name (i := 1) sc_is_small_edit.nd rfl (Or.inl rfl))
        (pss_one (ps_if (PW.pt (pw_and (pt_cmpR op_notN (pv 1) pe_non (nomark _)) (pw_and1 (pt_cmpR op_gt (pe_callB (call_maxT rfl hr.units) (by rfl) T.m_max (by decide +kernel) (pa_cons (pv 1) pa_nil)) (pe_glob (v := .int 1000000000000000000000000000000) (by rfl) T.g_GREATEST_IN_EDITS ⟨_, rfl⟩) (nomark _))))) (pss_one (ps_ret pe_bl)) pss_nil)))
      (pss_one (ps_ret pe_bl))), enter h fun F xs cs post hE hw => ?_⟩)
  obtain ⟨e, rfl, rfl, q⟩ := hw
  have he : eD e = .tup ([some e.span, e.start, some e.rate].map oD) := rfl
  rw [he] at q ⊢
  walk_at "D"
  refine loop_by (fun ds ρ => ∃ (ms : List (Option Rat)) (x : Option AV), ds = ms.map oD ∧ ρ = ⟨[some (.dat (.tup ([some e.span, e.start, some e.rate].map oD))), x], []⟩ ∧ post (.dat (.bl ((ms.map oD).all capD))) []) ⟨_, none, rfl, rfl, q⟩ ?_ ?_
  · rintro ρ ⟨ms, x, hm, rfl, q⟩
    refine ⟨trivial, ?_⟩
    rw [← hm] at q
    walk_at "D"
    exact fin_dat rfl q
  · rintro d ds ρ ⟨ms, x, hm, rfl, q⟩
    cases ms with
    | nil => cases hm
    | cons m ms =>
      cases hm
      refine ⟨trivial, ?_⟩
      rw [List.map_cons, List.all_cons] at q
      cases m with
      | none =>
        walk_at "D"
        exact now ⟨ms, _, rfl, rfl, q⟩
      | some r =>
        have e1 : oD (some r) = .tup ([r.num, (r.den : Int)].map D.int) := rfl
        have e2 : capD (oD (some r)) = (decide (r.num ≤ 1000000000000000000000000000000) && decide ((r.den : Int) ≤ 1000000000000000000000000000000)) := rfl
        rw [e2] at q
        rw [e1]
        walk_at "D"
        refine wc_maxT (n := r.num) (ns := [(r.den : Int)]) ?_
        walk_at "D"
        rw [max_two]
        cases hb : (decide (r.num ≤ 1000000000000000000000000000000) && decide ((r.den : Int) ≤ 1000000000000000000000000000000)) with
        | true =>
          rw [hb] at q
          walk_at "D"
          exact now ⟨ms, _, rfl, rfl, q⟩
        | false =>
          rw [hb] at q
          walk_at "D"
          exact fin_dat rfl q
def isLnE : D → Bool
  | .lst ds => isLs 0 60 (.lst ds) && (isEds (.lst ds) && ds.all isSmD)
  | _ => false
theorem ok_is_lane_edits (T : Txt K mg) : FnOk P w K mg base CX0 6 T.a_is_lane_edits T.d_is_lane_edits ["thing"] (spG K (wThing isLnE)) := by
  refine T.F_is_lane_edits.ok sc_is_lane_edits (fun vs H Q E h => spG_len h fun xs cs post exc ⟨a, e, _⟩ => by rw [e]; rfl) (fun cdv A outer s H vs Q E hr h => ⟨_, (pss_cons (ps_if (PW.pt (pw_or (pt_not (pt_val (pe_call (ok_is_list T) (hr.mono (by decide)) (by rfl) T.g_is_list T.F_is_list.kp T.b_is_list .nil pass0 (pa_cons (pv 0) (pa_cons pe_int (pa_cons (pe_glob (v := .int 60) (by rfl) T.g_MOST_EDITS ⟨_, rfl⟩) pa_nil)))))) (pw_or1 (pt_not (pt_val (pe_call (ok_is_edits T) (hr.mono (by decide)) (by rfl) T.g_is_edits T.F_is_edits.kp T.b_is_edits .nil pass0 (pa_cons (pv 0) pa_nil))))))) (pss_one (ps_ret pe_bl)) pss_nil)
      (pss_one (ps_ret (pe_callB (cr_all rfl) (by rfl) T.m_all (by decide +kernel) (pa_cons (pe_lc (own := [("edit", 1)]) (g := gName 1) (tt := tYes) (by rfl) sc_is_lane_edits.nd (pi_list (pv 0)) (blkOk_by (own := [("edit", 1)]) (N := N_is_lane_edits) (sc := defScope s_is_lane_edits) (by decide +kernel)) (fun _ _ _ _ _ => (pg_name (i := 1) sc_is_lane_edits.nd rfl (Or.inl rfl))) (fun _ _ _ _ _ => pts_nil) (fun _ _ _ _ _ => (pe_call (ok_is_small_edit T) (hr.mono (by decide)) (by rfl) T.g_is_small_edit T.F_is_small_edit.kp T.b_is_small_edit .nil pass0 (pa_cons (pv 1) pa_nil)))) pa_nil))))), enter h fun F xs cs post hE hw => ?_⟩)
  obtain ⟨d, rfl, rfl, hp, q⟩ := hw
  walk_at "D"
  walk_at "c"
  refine ⟨d, 0, 60, rfl, rfl, hp, rfl, ?_⟩
  by_cases hl : isLs 0 60 d = true
  · rw [hl]
    cases d with
    | lst ds =>
      have e0 : isLnE (.lst ds) = (isLs 0 60 (.lst ds) && (isEds (.lst ds) && ds.all isSmD)) := rfl
      rw [e0, hl, Bool.true_and] at q
      have ln : ds.length ≤ 60 := by
        have hl : (decide (0 ≤ ds.length) && decide (ds.length ≤ 60)) = true := hl
        rw [Bool.and_eq_true, decide_eq_true_eq, decide_eq_true_eq] at hl
        exact hl.2
      walk_at "D"
      walk_at "c"
      refine ⟨.lst ds, rfl, rfl, hp, rfl, ?_⟩
      cases he : isEds (.lst ds) with
      | false =>
        rw [he] at q
        walk_at "D"
        exact fin_dat rfl q
      | true =>
        rw [he, Bool.true_and] at q
        obtain ⟨es, _, ee⟩ := isEds_of he
        cases ee
        rw [List.length_map] at ln
        walk_at "D"
        refine loopC_by (fun dd ρ => ∃ (done todo : List Ed), dd = todo.map eD ∧ es = done ++ todo ∧ ρ = ⟨[some (.dat (.lst (es.map eD))), none], [.lst ((done.map fun e => isSmD (eD e)).map D.bl)]⟩) ⟨[], es, rfl, rfl, rfl⟩ ?_ ?_
        · rintro ρ ⟨done, todo, e1, e2, rfl⟩
          have : todo = [] := List.map_eq_nil_iff.mp e1.symm
          subst this
          rw [List.append_nil] at e2
          subst e2
          refine ⟨.dat _, ?_⟩
          walk_at "D"
          refine wc_all (bs := es.map fun e => isSmD (eD e)) (.cel rfl) ?_
          rw [show ((es.map fun e => isSmD (eD e)).all id) = (es.map eD).all isSmD by rw [List.all_map, List.all_map]; rfl]
          exact fin_dat rfl q
        · rintro d dd ρ ⟨done, todo, e1, e2, rfl⟩
          cases todo with
          | nil => cases e1
          | cons r todo =>
            cases e1
            refine ⟨.dat _, ?_⟩
            walk_at "D"
            walk_at "c"
            refine ⟨r, rfl, rfl, rfl, ?_⟩
            walk_at "D"
            · rw [List.length_map, List.length_map]
              have : es.length = done.length + (todo.length + 1) := by rw [e2, List.length_append, List.length_cons]
              omega
            exact now ⟨done ++ [r], todo, rfl, by rw [e2, List.append_assoc]; rfl, by rw [List.map_append, List.map_append]; rfl⟩
    | _ => cases hl
  · have hl := Bool.eq_false_iff.mpr hl
    rw [hl]
    have q : post (.dat (.bl false)) [] := by
      cases d with
      | lst ds =>
        have e0 : isLnE (.lst ds) = (isLs 0 60 (.lst ds) && (isEds (.lst ds) && ds.all isSmD)) := rfl
        rw [e0, hl] at q
        exact q
      | _ => exact q
    walk_at "D"
    exact fin_dat rfl q
end

section
variable {P : Program} {w : World} {K : PySem.W.Frag} {mg : Str → Option Value} {base : Heap}
/-! ### rows of bytes, numbers in them -/
def isRw : D → Bool
  | .lst ds => ds.all (inR 0 255)
  | _ => false
theorem ok_is_bytes (T : Txt K mg) : FnOk P w K mg base CX0 3 T.a_is_bytes T.d_is_bytes ["thing"] (spG K (wThing isRw)) := by
  refine T.F_is_bytes.ok sc_is_bytes (fun vs H Q E h => spG_len h fun xs cs post exc ⟨a, e, _⟩ => by rw [e]; rfl) (fun cdv A outer s H vs Q E hr h => ⟨_, (pss_cons (ps_if (pt_not (pt_val (pe_callB call_isi (by rfl) T.m_isinstance (by decide +kernel) (pa_cons (pv 0) (pa_cons (pe_bltn (v := .ty "list") (by rfl) T.m_list (by decide +kernel) rfl) pa_nil))))) (pss_one (ps_ret pe_bl)) pss_nil)
      (pss_cons (ps_for PassesOwn.never rfl (pi_list (pv 0)) (pg_name (i := 1) sc_is_bytes.nd rfl (Or.inl rfl))
        (pss_one (ps_if (pt_not (pt_val (pe_call (ok_is_whole T) (hr.mono (by decide)) (by rfl) T.g_is_whole T.F_is_whole.kp T.b_is_whole .nil pass0 (pa_cons (pv 1) (pa_cons pe_int (pa_cons pe_int pa_nil)))))) (pss_one (ps_ret pe_bl)) pss_nil)))
      (pss_one (ps_ret pe_bl)))), enter h fun F xs cs post hE hw => ?_⟩)
  obtain ⟨d, rfl, rfl, hp, q⟩ := hw
  cases d with
  | lst ds =>
    have hp : pls ds = true := by rw [pl] at hp; exact hp
    walk_at "D"
    refine loop_by (fun es ρ => ∃ x, ρ = ⟨[some (.dat (.lst ds)), x], []⟩ ∧ pls es = true ∧ post (.dat (.bl (es.all (inR 0 255)))) []) ⟨none, rfl, hp, q⟩ ?_ ?_
    · rintro ρ ⟨x, rfl, _, q⟩
      refine ⟨.dat _, ?_⟩
      walk_at "D"
      exact fin_dat rfl q
    · rintro e es ρ ⟨x, rfl, hp, q⟩
      obtain ⟨pe, hp⟩ := pls_cons hp
      refine ⟨.dat _, ?_⟩
      walk_at "D"
      walk_at "c"
      refine ⟨e, 0, 255, rfl, rfl, pe, rfl, ?_⟩
      rw [List.all_cons] at q
      cases he : inR 0 255 e with
      | false =>
        rw [he] at q
        walk_at "D"
        exact fin_dat rfl q
      | true =>
        rw [he, Bool.true_and] at q
        walk_at "D"
        exact now ⟨_, rfl, hp, q⟩
  | obj => rw [pl] at hp; cases hp
  | scr => rw [pl] at hp; cases hp
  | ty => rw [pl] at hp; cases hp
  | cls => rw [pl] at hp; cases hp
  | _ => walk_at "D"; exact fin_dat rfl q
def wRefBytes (C : Addr) : PW0 := fun xs cs post exc => ∃ d, xs = [.dat d] ∧ cs = [] ∧ pl d = true ∧ (isRw d = true → post (.dat .non) []) ∧ (isRw d = false → exc C)
def lnR : D → Int
  | .lst ds => (ds.length : Int)
  | _ => 0
def wRefPlace (C1 C2 : Addr) : PW0 := fun xs cs post exc => ∃ d e, xs = [.dat d, .dat e] ∧ cs = [] ∧ pl d = true ∧ pl e = true ∧ (isRw d = false → exc C1) ∧ (isRw d = true → inR 0 (lnR d) e = false → exc C2) ∧ (isRw d = true → inR 0 (lnR d) e = true → post (.dat .non) [])
/-! a number's figures -/
def tlN (n : Nat) : List Int := if h : n = 0 then [] else ((128 + n % 128 : Nat) : Int) :: tlN (n / 128)
termination_by n
decreasing_by omega
theorem tlN_0 : tlN 0 = [] := by rw [tlN]; rfl
theorem tlN_s {n : Nat} (h : n ≠ 0) : tlN n = ((128 + n % 128 : Nat) : Int) :: tlN (n / 128) := by rw [tlN, dif_neg h]
def figN (n : Nat) : List Int := (tlN (n / 128)).reverse ++ [((n % 128 : Nat) : Int)]
theorem tlN_len (b n : Nat) (h : n < 128 ^ b) : (tlN n).length ≤ b := by
  induction b generalizing n with
  | zero =>
    have : n = 0 := by simpa using h
    subst this
    rw [tlN_0]; exact Nat.le_refl _
  | succ b ih =>
    by_cases z : n = 0
    · subst z; rw [tlN_0]; exact Nat.zero_le _
    · rw [tlN_s z]
      have := ih (n / 128) (by rw [Nat.pow_succ] at h; omega)
      rw [List.length_cons]; omega
def wWritten (C : Addr) : PW0 := fun xs cs post exc => ∃ d, xs = [.dat d] ∧ cs = [] ∧ pl d = true ∧ (∀ n : Nat, d = .int n → (n : Int) ≤ 10 ^ 60 → post (.new ((figN n).map D.int)) []) ∧ (inR 0 (10 ^ 60) d = false → exc C)
theorem ok_written (T : Txt K mg) : FnOk P w K mg base (L2.CX P w) 3 T.a_written T.d_written ["number"] (spG K (wWritten T.c_NoNumber)) := by
  refine T.F_written.okX sc_written (fun vs H Q E h => spG_len h fun xs cs post exc ⟨a, e, _⟩ => by rw [e]; rfl) (fun cdv A outer s H vs Q E hr h => ⟨_, (pss_cons (ps_if (pt_not (pt_val (pe_call (ok_is_whole T) (hr.mono (by decide)) (by rfl) T.g_is_whole T.F_is_whole.kp T.b_is_whole .nil pass0 (pa_cons (pv 0) (pa_cons pe_int (pa_cons (pe_glob (v := .int 1000000000000000000000000000000000000000000000000000000000000) (by rfl) T.g_GREATEST_NUMBER ⟨_, rfl⟩) pa_nil)))))) (pss_one (ps_raise rfl (takes_of rfl rfl rfl rfl) (pmk_own PySem.F.excBase_ValueError T.x_NoNumber T.g_NoNumber T.k_NoNumber (raises_own T.bb_NoNumber T.t_NoNumber) rfl))) pss_nil)
      (pss_cons (ps_set (i := 1) sc_written.nd rfl (Or.inl rfl) (pe_lst (pa_cons (pe_op op_mod (pv 0) (pe_glob (v := .int 128) (by rfl) T.g_BASE ⟨_, rfl⟩)) pa_nil)))
      (pss_cons (ps_set (i := 2) sc_written.nd rfl (Or.inl rfl) (pe_op op_fdiv (pv 0) (pe_glob (v := .int 128) (by rfl) T.g_BASE ⟨_, rfl⟩)))
      (pss_cons (ps_while (passes_of rfl) (pt_cmpR op_gt (pv 2) pe_int (nomark _)) (pss_cons (ps_expr (pe_bm PySem.F.plainAttrs_list PySem.F.slot_list_append PySem.F.type_list_append mt_append (pv 1) (pa_cons (pe_op op_add (pe_glob (v := .int 128) (by rfl) T.g_BASE ⟨_, rfl⟩) (pe_op op_mod (pv 2) (pe_glob (v := .int 128) (by rfl) T.g_BASE ⟨_, rfl⟩))) pa_nil)))
      (pss_one (ps_set (i := 2) sc_written.nd rfl (Or.inl rfl) (pe_op op_fdiv (pv 2) (pe_glob (v := .int 128) (by rfl) T.g_BASE ⟨_, rfl⟩))))))
      (pss_one (ps_ret (pe_revL (pv 1)))))))), enter h fun F xs cs post hE hw => ?_⟩)
  subst hE
  obtain ⟨d, rfl, rfl, hp, q, qx⟩ := hw
  walk_at "D"
  walk_at "c"
  refine ⟨d, 0, _, rfl, rfl, hp, rfl, ?_⟩
  cases hd : inR 0 1000000000000000000000000000000000000000000000000000000000000 d with
  | false =>
    walk_at "D"
    exact ws_exc fun as σ H G D en => F.hE _ H (qx hd) en.fh
  | true =>
    obtain ⟨i, rfl, i0, i1⟩ := inR_of hd
    obtain ⟨n, rfl⟩ : ∃ n : Nat, i = n := ⟨i.toNat, by omega⟩
    have q := q n rfl i1
    have ln : (tlN (n / 128)).length ≤ 30 := tlN_len 30 _ (by
      have : n < 10 ^ 60 + 1 := by omega
      have : (10 : Nat) ^ 60 + 1 < 128 ^ 30 := by decide
      omega)
    walk_at "D"
    refine wr_Ii (by decide) ?_
    walk_at "D"
    refine wr_Ii ⟨by decide, by decide⟩ ?_
    walk_at "D"
    have e1 : ((n : Int) % 128) = ((n % 128 : Nat) : Int) := by omega
    have e2 : ((n : Int) / 128) = ((n / 128 : Nat) : Int) := by omega
    rw [e1, e2]
    refine ws_while (fun m ρ => ∃ (ds : List Int), ρ = ⟨[some (.dat (.int n)), some (.cel 0), some (.dat (.int (m : Int)))], [.lst (ds.map D.int)]⟩ ∧ ds ++ tlN m = ((n % 128 : Nat) : Int) :: tlN (n / 128)) (n / 128) ⟨[((n % 128 : Nat) : Int)], rfl, rfl⟩ ?_
    rintro m ρ ⟨ds, rfl, hds⟩
    walk_at "D"
    refine ifC (fun c => ?_) (fun c => ?_)
    · have c := of_decide_eq_true c
      have m0 : m ≠ 0 := by omega
      rw [tlN_s m0] at hds
      have hl : ds.length ≤ 31 := by
        have := congrArg List.length hds
        rw [List.length_append, List.length_cons, List.length_cons] at this
        omega
      walk_at "D"
      refine wr_Ii (by decide) ?_
      walk_at "D"
      · rw [List.length_map]; omega
      walk_at "D"
      refine wr_Ii ⟨by decide, by decide⟩ ?_
      walk_at "D"
      refine ⟨m / 128, by omega, ds ++ [((128 + m % 128 : Nat) : Int)], ?_, ?_⟩
      · rw [List.map_append, List.map_cons, List.map_nil, show ((128 : Int) + (m : Int) % 128) = ((128 + m % 128 : Nat) : Int) by omega, show ((m : Int) / 128) = ((m / 128 : Nat) : Int) by omega]
        rfl
      · rw [List.append_assoc]
        exact hds
    · have c := of_decide_eq_false c
      have m0 : m = 0 := by omega
      subst m0
      rw [tlN_0, List.append_nil] at hds
      subst hds
      walk_at "D"
      refine we_revL ?_
      walk_at "D"
      rw [← List.map_reverse, List.reverse_cons]
      exact ⟨_, .cel (Nat.zero_le _) rfl, rfl, q⟩
/-! ### numbers read out of a row -/
def goN : List Int → Int → Int → Option (Int × Int)
  | [], _, _ => none
  | f :: fs, a, p => if a * 128 + f % 128 > 1000000000000000000000000000000000000000000000000000000000000 then none else if f < 128 then some (a * 128 + f % 128, p + 1) else goN fs (a * 128 + f % 128) (p + 1)
def numA : List Int → Int → Option (Int × Int)
  | [], _ => none
  | f :: r, p => if f = 128 then none else goN (f :: r) 0 p
def resD : Option (Int × Int) → D
  | none => .non
  | some (a, p) => .tup [.int a, .int p]
def Byts (ns : List Int) : Prop := ∀ b ∈ ns, 0 ≤ b ∧ b ≤ 255
theorem rw_of {d : D} (h : isRw d = true) : ∃ ns : List Int, d = .lst (ns.map D.int) ∧ Byts ns := by
  cases d with
  | lst ds =>
    have h : ds.all (inR 0 255) = true := h
    have main : ∀ ds : List D, ds.all (inR 0 255) = true → ∃ ns : List Int, ds = ns.map D.int ∧ Byts ns := by
      intro ds
      induction ds with
      | nil => intro _; exact ⟨[], rfl, fun _ m => nomatch m⟩
      | cons d ds ih =>
        intro h
        rw [List.all_cons, Bool.and_eq_true] at h
        obtain ⟨i, rfl, i0, i1⟩ := inR_of h.1
        obtain ⟨ns, rfl, hb⟩ := ih h.2
        refine ⟨i :: ns, rfl, fun b m => ?_⟩
        rcases List.mem_cons.mp m with rfl | m
        · exact ⟨i0, i1⟩
        · exact hb b m
    obtain ⟨ns, rfl, hb⟩ := main ds h
    exact ⟨ns, rfl, hb⟩
  | _ => cases h
theorem rw_is {ns : List Int} (h : Byts ns) : isRw (.lst (ns.map D.int)) = true := by
  show (ns.map D.int).all (inR 0 255) = true
  rw [List.all_eq_true]
  intro d m
  obtain ⟨b, hb, rfl⟩ := List.mem_map.mp m
  exact inR_int (h b hb).1 (h b hb).2
theorem pls_int (ns : List Int) : pls (ns.map D.int) = true := by
  induction ns with
  | nil => rfl
  | cons x ns ih => exact ih
theorem hards_int (ns : List Int) : hards (ns.map D.int) = true := by
  induction ns with
  | nil => rfl
  | cons x ns ih => exact ih
theorem drop_at {ns : List Int} {j : Nat} (h : j < ns.length) : ns.drop j = ns[j] :: ns.drop (j + 1) := List.drop_eq_getElem_cons h
theorem at_int {ns : List Int} {j : Nat} {i : Int} (h : j < ns.length) (e : i = (j : Int)) : atI (ns.map D.int) i = some (D.int ns[j]) := by
  subst e
  exact atI_nat (by rw [List.getElem?_map, List.getElem?_eq_getElem h]; rfl)
def wNumAt : PW0 := fun xs cs post _ => ∃ (ns : List Int) (j : Nat), xs = [.dat (.lst (ns.map D.int)), .dat (.int j)] ∧ cs = [] ∧ Byts ns ∧ j ≤ ns.length ∧ ns.length ≤ 100000 ∧ post (.dat (resD (numA (ns.drop j) j))) []
theorem ok_number_at (T : Txt K mg) : FnOk P w K mg base CX0 1 T.a_number_at T.d_number_at ["row", "at"] (spG K wNumAt) := by
  refine T.F_number_at.ok sc_number_at (fun vs H Q E h => spG_len h fun xs cs post exc ⟨a, b, e, _⟩ => by rw [e]; rfl) (fun cdv A outer s H vs Q E hr h => ⟨_, (pss_cons (ps_set (i := 2) sc_number_at.nd rfl (Or.inl rfl) pe_int)
      (pss_cons (ps_for PassesOwn.never rfl (pi_range2 (by rfl) T.m_range (pa_cons (pv 1) (pa_cons (pe_callB call_len_seq (by rfl) T.m_len (by decide +kernel) (pa_cons (pv 0) pa_nil)) pa_nil))) (pg_name (i := 3) sc_number_at.nd rfl (Or.inl rfl))
        (pss_cons (ps_set (i := 4) sc_number_at.nd rfl (Or.inl rfl) (pe_ix ix_list (pv 0) (pv 3) (fun _ _ => rfl)))
      (pss_cons (ps_if (PW.pt (pw_and (pt_cmpR op_eq (pv 3) (pv 1) (nomark _)) (pw_and1 (pt_cmpR op_eq (pv 4) (pe_glob (v := .int 128) (by rfl) T.g_BASE ⟨_, rfl⟩) (nomark _))))) (pss_one (ps_ret pe_non)) pss_nil)
      (pss_cons (ps_set (i := 2) sc_number_at.nd rfl (Or.inl rfl) (pe_op op_add (pe_op op_mul (pv 2) (pe_glob (v := .int 128) (by rfl) T.g_BASE ⟨_, rfl⟩)) (pe_op op_mod (pv 4) (pe_glob (v := .int 128) (by rfl) T.g_BASE ⟨_, rfl⟩))))
      (pss_cons (ps_if (pt_cmpR op_gt (pv 2) (pe_glob (v := .int 1000000000000000000000000000000000000000000000000000000000000) (by rfl) T.g_GREATEST_NUMBER ⟨_, rfl⟩) (nomark _)) (pss_one (ps_ret pe_non)) pss_nil)
      (pss_one (ps_if (pt_cmpR op_lt (pv 4) (pe_glob (v := .int 128) (by rfl) T.g_BASE ⟨_, rfl⟩) (nomark _)) (pss_one (ps_ret (pe_tup (pa_cons (pv 2) (pa_cons (pe_op op_add (pv 3) pe_int) pa_nil))))) pss_nil)))))))
      (pss_one (ps_ret pe_non)))), enter h fun F xs cs post hE hw => ?_⟩)
  obtain ⟨ns, j, rfl, rfl, hb, hj, hl0, q⟩ := hw
  walk_at "D"
  rw [List.length_map]
  have hn : ((ns.length : Int) - (j : Int)).toNat = ns.length - j := by omega
  rw [hn]
  refine ⟨⟨by omega, by omega, by omega, by omega⟩, ?_⟩
  refine loop_rng (fun i ρ => ∃ (a : Int) (x y : Option AV), ρ = ⟨[some (.dat (.lst (ns.map D.int))), some (.dat (.int j)), some (.dat (.int a)), x, y], []⟩ ∧ (i = 0 → a = 0 ∧ post (.dat (resD (numA (ns.drop j) j))) []) ∧ (0 < i → post (.dat (resD (goN (ns.drop (j + i)) a ((j + i : Nat) : Int)))) [])) ⟨0, _, _, rfl, fun _ => ⟨rfl, q⟩, fun z => absurd z (Nat.lt_irrefl 0)⟩ ?_ ?_
  · rintro ρ ⟨a, x, y, rfl, h0, h1⟩
    refine ⟨trivial, ?_⟩
    walk_at "D"
    by_cases z : ns.length - j = 0
    · obtain ⟨_, q⟩ := h0 z
      rw [List.drop_of_length_le (by omega)] at q
      exact fin_dat rfl q
    · have q := h1 (by omega)
      rw [List.drop_of_length_le (by omega)] at q
      exact fin_dat rfl q
  · rintro i ρ hi ⟨a, x, y, rfl, h0, h1⟩
    refine ⟨trivial, ?_⟩
    have hl : j + i < ns.length := by omega
    walk_at "D"
    refine wr_ixL (.dat _) (at_int hl (by omega)) ?_
    refine wg_name ?_
    refine ws_seq ?_
    have hd := drop_at (ns := ns) (j := j + i) hl
    generalize hf : ns[j + i] = f at *
    have fb : 0 ≤ f ∧ f ≤ 255 := hb f (by rw [← hf]; exact List.getElem_mem hl)
    refine ws_if ?_
    by_cases z : i = 0 ∧ f = 128
    · obtain ⟨rfl, rfl⟩ := z
      obtain ⟨rfl, q⟩ := h0 rfl
      have hd : ns.drop j = 128 :: ns.drop (j + 0 + 1) := hd
      rw [hd, numA, if_pos rfl] at q
      walk_at "D"
      refine ifT (decide_eq_true (show (j : Int) + ((0 : Nat) : Int) = j by omega)) ?_
      walk_at "D"
      exact fin_dat rfl q
    · have q2 : post (.dat (resD (goN (f :: ns.drop (j + i + 1)) a ((j : Int) + i)))) [] := by
        by_cases i0 : i = 0
        · subst i0
          obtain ⟨rfl, q⟩ := h0 rfl
          have hd : ns.drop j = f :: ns.drop (j + 0 + 1) := hd
          rw [hd, numA, if_neg fun y => z ⟨rfl, y⟩] at q
          rw [show (j : Int) + ((0 : Nat) : Int) = j by omega]
          exact q
        · have q := h1 (by omega)
          rw [hd, show ((j + i : Nat) : Int) = (j : Int) + i by omega] at q
          exact q
      rw [goN] at q2
      refine WpT.imp (kb := fun b ρ1 => b = false ∧ ρ1 = ⟨[some (.dat (.lst (ns.map D.int))), some (.dat (.int j)), some (.dat (.int a)), some (.dat (.int ((j : Int) + i))), some (.dat (.int f))], []⟩) ?_ ?_
      · walk_at "D"
        by_cases i0 : i = 0
        · refine ifT (decide_eq_true (by omega)) ?_
          walk_at "D"
          exact ⟨decide_eq_false fun y => z ⟨i0, y⟩, rfl⟩
        · refine ifF (decide_eq_false (by omega)) ?_
          exact ⟨rfl, rfl⟩
      · rintro b ρ1 ⟨rfl, rfl⟩
        walk_at "D"
        refine wr_Ii (.inr (by decide)) ?_
        walk_at "D"
        refine wr_Ii (by decide) ?_
        walk_at "D"
        refine ifC (fun c => ?_) (fun c => ?_)
        · rw [if_pos (of_decide_eq_true c)] at q2
          walk_at "D"
          exact fin_dat rfl q2
        · rw [if_neg (of_decide_eq_false c)] at q2
          walk_at "D"
          refine ifC (fun c => ?_) (fun c => ?_)
          · rw [if_pos (of_decide_eq_true c)] at q2
            walk_at "D"
            exact fin_dat rfl q2
          · rw [if_neg (of_decide_eq_false c)] at q2
            walk_at "D"
            refine now ⟨_, _, _, rfl, fun y => absurd y (Nat.succ_ne_zero i), fun _ => ?_⟩
            rw [show ((j + (i + 1) : Nat) : Int) = (j : Int) + i + 1 by omega]
            exact q2
def wRead (C1 C2 C3 : Addr) : PW0 := fun xs cs post exc => ∃ d e, xs = [.dat d, .dat e] ∧ cs = [] ∧ pl d = true ∧ pl e = true ∧ lnR d ≤ 100000 ∧ (isRw d = false → exc C1) ∧ (isRw d = true → inR 0 (lnR d) e = false → exc C2) ∧
  (∀ (ns : List Int) (j : Nat), d = .lst (ns.map D.int) → e = .int j → Byts ns → j ≤ ns.length → (numA (ns.drop j) j = none → exc C3) ∧ (∀ a p, numA (ns.drop j) j = some (a, p) → post (.dat (.tup [.int a, .int p])) []))
/-! its figures tell a number -/
theorem goN_tl (m : Nat) (hm : (m : Int) ≤ 1000000000000000000000000000000000000000000000000000000000000) (r : List Int) (p : Int) : goN ((tlN m).reverse ++ r) 0 p = goN r m (p + (tlN m).length) := by
  induction m using Nat.strongRecOn generalizing r p with
  | _ m ih =>
    by_cases z : m = 0
    · subst z
      rw [tlN_0]
      show goN r 0 p = goN r ((0 : Nat) : Int) (p + ((0 : Nat) : Int))
      rw [show p + ((0 : Nat) : Int) = p by omega]
      rfl
    · rw [tlN_s z, List.reverse_cons, List.append_assoc, ih (m / 128) (by omega) (by omega)]
      show goN (((128 + m % 128 : Nat) : Int) :: r) _ _ = _
      rw [goN]
      have e : ((m / 128 : Nat) : Int) * 128 + ((128 + m % 128 : Nat) : Int) % 128 = (m : Int) := by omega
      rw [e, if_neg (by omega), if_neg (by omega), List.length_cons]
      congr 1
      omega
theorem tl_head (m : Nat) (hm : m ≠ 0) : ∃ x l, (tlN m).reverse = x :: l ∧ 128 < x := by
  induction m using Nat.strongRecOn with
  | _ m ih =>
    rw [tlN_s hm, List.reverse_cons]
    by_cases z : m / 128 = 0
    · rw [z, tlN_0]
      exact ⟨_, [], rfl, by omega⟩
    · obtain ⟨x, l, e, h⟩ := ih (m / 128) (by omega) z
      rw [e]
      exact ⟨x, _, rfl, h⟩
theorem fig_len (n : Nat) : (figN n).length = (tlN (n / 128)).length + 1 := by
  unfold figN
  rw [List.length_append, List.length_reverse]
  rfl
theorem numA_fig (n : Nat) (hn : (n : Int) ≤ 1000000000000000000000000000000000000000000000000000000000000) : numA (figN n) 0 = some ((n : Int), ((figN n).length : Int)) := by
  have main : goN (figN n) 0 0 = some ((n : Int), ((figN n).length : Int)) := by
    rw [fig_len]
    unfold figN
    rw [goN_tl _ (by omega), goN]
    have e : ((n / 128 : Nat) : Int) * 128 + ((n % 128 : Nat) : Int) % 128 = (n : Int) := by omega
    rw [e, if_neg (by omega), if_pos (by omega)]
    congr 2
    omega
  have hd : ∃ x l, figN n = x :: l ∧ x ≠ 128 := by
    unfold figN
    by_cases z : n / 128 = 0
    · rw [z, tlN_0]
      exact ⟨_, [], rfl, by omega⟩
    · obtain ⟨x, l, e, h⟩ := tl_head _ z
      rw [e]
      exact ⟨x, _, rfl, by omega⟩
  obtain ⟨x, l, e, h⟩ := hd
  rw [e] at main ⊢
  rw [numA, if_neg h]
  exact main
theorem fig_byts (n : Nat) : Byts (figN n) := by
  have tl : ∀ m : Nat, Byts (tlN m) := by
    intro m
    induction m using Nat.strongRecOn with
    | _ m ih =>
      by_cases z : m = 0
      · subst z; rw [tlN_0]; exact fun _ q => nomatch q
      · rw [tlN_s z]
        intro b mb
        rcases List.mem_cons.mp mb with rfl | mb
        · omega
        · exact ih (m / 128) (by omega) b mb
  intro b mb
  unfold figN at mb
  rcases List.mem_append.mp mb with mb | mb
  · exact tl _ b (List.mem_reverse.mp mb)
  · rw [List.mem_singleton] at mb
    omega
end

section
variable {P : Program} {w : World} {K : PySem.W.Frag} {mg : Str → Option Value} {base : Heap}
/-! ### numbers out of a body -/
def oneN : List Int → Int → Option (Int × List Int)
  | [], _ => none
  | f :: fs, a => if a * 128 + f % 128 > 1000000000000000000000000000000000000000000000000000000000000 then none else if f < 128 then some (a * 128 + f % 128, fs) else oneN fs (a * 128 + f % 128)
def firstN : List Int → Option (Int × List Int)
  | [] => none
  | f :: r => if f = 128 then none else oneN (f :: r) 0
theorem oneN_suf : ∀ {fs : List Int} {a x : Int} {r : List Int}, oneN fs a = some (x, r) → ∃ l, fs = l ++ r ∧ 0 < l.length
  | [], _, _, _, h => by cases h
  | f :: fs, a, x, r, h => by
    rw [oneN] at h
    split at h
    · cases h
    · split at h
      · cases h
        exact ⟨[f], rfl, Nat.succ_pos _⟩
      · obtain ⟨l, e, _⟩ := oneN_suf h
        exact ⟨f :: l, by rw [e]; rfl, Nat.succ_pos _⟩
theorem firstN_suf {fs : List Int} {x : Int} {r : List Int} (h : firstN fs = some (x, r)) : ∃ l, fs = l ++ r ∧ 0 < l.length := by
  cases fs with
  | nil => cases h
  | cons f fs =>
    rw [firstN] at h
    split at h
    · cases h
    · exact oneN_suf h
theorem goN_one : ∀ (fs : List Int) (a p : Int), goN fs a p = (oneN fs a).map fun r => (r.1, p + ((fs.length : Int) - (r.2.length : Int)))
  | [], _, _ => rfl
  | f :: fs, a, p => by
    rw [goN, oneN]
    split
    · rfl
    · split
      · show some (a * 128 + f % 128, p + 1) = some (a * 128 + f % 128, p + (((f :: fs).length : Int) - (fs.length : Int)))
        rw [show p + (((f :: fs).length : Int) - (fs.length : Int)) = p + 1 by rw [List.length_cons]; omega]
      · rw [goN_one fs]
        cases h : oneN fs (a * 128 + f % 128) with
        | none => rfl
        | some r =>
          show some (r.1, p + 1 + ((fs.length : Int) - (r.2.length : Int))) = some (r.1, p + (((f :: fs).length : Int) - (r.2.length : Int)))
          rw [show p + (((f :: fs).length : Int) - (r.2.length : Int)) = p + 1 + ((fs.length : Int) - (r.2.length : Int)) by rw [List.length_cons]; omega]
theorem numA_first (fs : List Int) (p : Int) : numA fs p = (firstN fs).map fun r => (r.1, p + ((fs.length : Int) - (r.2.length : Int))) := by
  cases fs with
  | nil => rfl
  | cons f fs =>
    rw [numA, firstN]
    split
    · rfl
    · exact goN_one _ _ _
def parseF : Nat → List Int → Option (List Int)
  | 0, fs => if fs = [] then some [] else none
  | n + 1, fs => if fs = [] then some [] else match firstN fs with
    | none => none
    | some (a, r) => (parseF n r).map (a :: ·)
def parseN (fs : List Int) : Option (List Int) := parseF fs.length fs
theorem parseF_nil (n : Nat) : parseF n [] = some [] := by cases n <;> rfl
theorem parseF_fuel : ∀ (n m : Nat) (fs : List Int), fs.length ≤ n → fs.length ≤ m → parseF n fs = parseF m fs := by
  intro n
  induction n with
  | zero =>
    intro m fs h _
    have : fs = [] := List.length_eq_zero_iff.mp (by omega)
    subst this
    rw [parseF_nil, parseF_nil]
  | succ n ih =>
    intro m fs h1 h2
    cases fs with
    | nil => rw [parseF_nil, parseF_nil]
    | cons f fs =>
      cases m with
      | zero => rw [List.length_cons] at h2; omega
      | succ m =>
        rw [parseF, parseF, if_neg (by simp), if_neg (by simp)]
        cases hf : firstN (f :: fs) with
        | none => rfl
        | some r =>
          obtain ⟨a, r⟩ := r
          obtain ⟨l, e, hl⟩ := firstN_suf hf
          have hr : r.length ≤ fs.length := by
            have := congrArg List.length e
            rw [List.length_cons, List.length_append] at this
            omega
          rw [List.length_cons] at h1 h2
          show (parseF n r).map _ = (parseF m r).map _
          rw [ih m r (by omega) (by omega)]
theorem parse_none {fs : List Int} (h : fs ≠ []) (hf : firstN fs = none) : parseN fs = none := by
  unfold parseN
  cases fs with
  | nil => exact absurd rfl h
  | cons f fs => rw [List.length_cons, parseF, if_neg (by simp), hf]
theorem parse_some {fs : List Int} {a : Int} {r : List Int} (hf : firstN fs = some (a, r)) : parseN fs = (parseN r).map (a :: ·) := by
  cases fs with
  | nil => cases hf
  | cons f fs =>
    obtain ⟨l, e, hl⟩ := firstN_suf hf
    have hr : r.length ≤ fs.length := by
      have := congrArg List.length e
      rw [List.length_cons, List.length_append] at this
      omega
    unfold parseN
    rw [List.length_cons, parseF, if_neg (by simp), hf]
    show (parseF fs.length r).map _ = (parseF r.length r).map _
    rw [parseF_fuel fs.length r.length r hr (Nat.le_refl _)]
theorem parse_nil : parseN [] = some [] := rfl
def NumOk (C : Addr) (d : D) (exc : Addr → Prop) (good : List Int → Prop) : Prop := pl d = true ∧ lnR d ≤ 100000 ∧ (isRw d = false → exc C) ∧
  ∀ ns : List Int, d = .lst (ns.map D.int) → Byts ns → (parseN ns = none → exc C) ∧ ∀ ms, parseN ns = some ms → good ms
def wNumbersIn (C : Addr) : PW0 := fun xs cs post exc => ∃ d, xs = [.dat d] ∧ cs = [] ∧ NumOk C d exc fun ms => post (.new (ms.map D.int)) []
theorem ok_numbers_in (T : Txt K mg) : FnOk P w K mg base (L2.CX P w) 4 T.a_numbers_in T.d_numbers_in ["body"] (spG K (wNumbersIn T.c_NoBody)) := by
  refine T.F_numbers_in.okX sc_numbers_in (fun vs H Q E h => spG_len h fun xs cs post exc ⟨a, e, _⟩ => by rw [e]; rfl) (fun cdv A outer s H vs Q E hr h => ⟨_, (pss_cons (ps_if (pt_not (pt_val (pe_call (ok_is_bytes T) (hr.mono (by decide)) (by rfl) T.g_is_bytes T.F_is_bytes.kp T.b_is_bytes .nil pass0 (pa_cons (pv 0) pa_nil)))) (pss_one (ps_raise rfl (takes_of rfl rfl rfl rfl) (pmk_own PySem.F.excBase_ValueError T.x_NoBody T.g_NoBody T.k_NoBody (raises_own T.bb_NoBody T.t_NoBody) rfl))) pss_nil)
      (pss_cons (ps_set (i := 1) sc_numbers_in.nd rfl (Or.inl rfl) (pe_lst pa_nil))
      (pss_cons (ps_set (i := 2) sc_numbers_in.nd rfl (Or.inl rfl) pe_int)
      (pss_cons (ps_while (passes_of rfl) (pt_cmpR op_lt (pv 2) (pe_callB call_len_seq (by rfl) T.m_len (by decide +kernel) (pa_cons (pv 0) pa_nil)) (nomark _)) (pss_cons (ps_set (i := 3) sc_numbers_in.nd rfl (Or.inl rfl) (pe_call (ok_number_at T) (hr.mono (by decide)) (by rfl) T.g_number_at T.F_number_at.kp T.b_number_at .nil pass0 (pa_cons (pv 0) (pa_cons (pv 2) pa_nil))))
      (pss_cons (ps_if (pt_cmpR op_isN (pv 3) pe_non (nomark _)) (pss_one (ps_raise rfl (takes_of rfl rfl rfl rfl) (pmk_own PySem.F.excBase_ValueError T.x_NoBody T.g_NoBody T.k_NoBody (raises_own T.bb_NoBody T.t_NoBody) rfl))) pss_nil)
      (pss_cons (ps_expr (pe_bm PySem.F.plainAttrs_list PySem.F.slot_list_append PySem.F.type_list_append mt_append (pv 1) (pa_cons (pe_ix ix_tup (pv 3) pe_int (fun _ _ => rfl)) pa_nil)))
      (pss_one (ps_set (i := 2) sc_numbers_in.nd rfl (Or.inl rfl) (pe_ix ix_tup (pv 3) pe_int (fun _ _ => rfl))))))))
      (pss_one (ps_ret (pv 1))))))), enter h fun F xs cs post hE hw => ?_⟩)
  subst hE
  obtain ⟨d, rfl, rfl, hp, hln, qx, hq⟩ := hw
  walk_at "D"
  walk_at "c"
  refine ⟨d, rfl, rfl, hp, rfl, ?_⟩
  cases hd : isRw d with
  | false =>
    walk_at "D"
    exact ws_exc fun as σ H G D en => F.hE _ H (qx hd) en.fh
  | true =>
    obtain ⟨ns, rfl, hb⟩ := rw_of hd
    obtain ⟨q1, q2⟩ := hq ns rfl hb
    have lnE : lnR (.lst (ns.map D.int)) = (ns.length : Int) := by show ((ns.map D.int).length : Int) = _; rw [List.length_map]
    walk_at "D"
    refine ws_while (fun m ρ => ∃ (j : Nat) (ds : List Int) (x : Option AV), ρ = ⟨[some (.dat (.lst (ns.map D.int))), some (.cel 0), some (.dat (.int j)), x], [.lst (ds.map D.int)]⟩ ∧ m = ns.length - j ∧ j ≤ ns.length ∧ ds.length ≤ j ∧ parseN ns = (parseN (ns.drop j)).map (ds ++ ·)) ns.length ⟨0, [], _, rfl, rfl, Nat.zero_le _, Nat.zero_le _, by rw [List.drop_zero]; cases parseN ns <;> rfl⟩ ?_
    rintro m ρ ⟨j, ds, x, rfl, rfl, hj, hdl, hpa⟩
    walk_at "D"
    refine ifC (fun c => ?_) (fun c => ?_)
    · have c := of_decide_eq_true c
      rw [List.length_map] at c
      walk_at "D"
      walk_at "c"
      refine ⟨ns, j, rfl, rfl, hb, hj, by omega, ?_⟩
      rw [numA_first]
      have ne : ns.drop j ≠ [] := fun z => by
        have := congrArg List.length z
        rw [List.length_drop] at this
        simp only [List.length_nil] at this
        omega
      cases hf : firstN (ns.drop j) with
      | none =>
        refine aft_hard rfl ?_
        dsimp only [Option.map_none, resD]
        walk_at "D"
        rw [parse_none ne hf] at hpa
        exact ws_exc fun as σ H G D en => F.hE _ H (q1 hpa) en.fh
      | some r =>
        obtain ⟨a, r⟩ := r
        refine aft_hard rfl ?_
        dsimp only [Option.map_some, resD]
        obtain ⟨l, e, hl⟩ := firstN_suf hf
        have ln := congrArg List.length e
        rw [List.length_drop, List.length_append] at ln
        walk_at "D"
        · rw [List.length_map]; omega
        walk_at "D"
        rw [show (j : Int) + (((ns.drop j).length : Int) - (r.length : Int)) = ((j + l.length : Nat) : Int) by rw [List.length_drop]; omega, show ds.map D.int ++ [.int a] = (ds ++ [a]).map D.int by rw [List.map_append]; rfl]
        refine ⟨ns.length - (j + l.length), by omega, j + l.length, ds ++ [a], _, rfl, rfl, by omega, by rw [List.length_append]; simp only [List.length]; omega, ?_⟩
        rw [hpa, parse_some hf, show ns.drop (j + l.length) = r by rw [← List.drop_drop, e, List.drop_left]]
        cases parseN r with
        | none => rfl
        | some ms => show some (ds ++ (a :: ms)) = some ((ds ++ [a]) ++ ms); rw [List.append_assoc]; rfl
    · have c := of_decide_eq_false c
      rw [List.length_map] at c
      rw [List.drop_of_length_le (by omega), parse_nil] at hpa
      have hpa : parseN ns = some (ds ++ []) := hpa
      rw [List.append_nil] at hpa
      walk_at "D"
      exact ⟨_, .cel (Nat.zero_le _) rfl, rfl, q2 ds hpa⟩
/-! the numbers one by one -/
def numC (C : Addr) (ms : List Int) (i : Nat) : Cell := .ins C ["row", "next_at"] [.lst (ms.map D.int), .int i]
def wNumInit (C CN : Addr) : PW0 := fun xs cs post exc => ∃ d, xs = [.cel 0, .dat d] ∧ cs = [.ins CN [] []] ∧ NumOk C d exc fun ms => post (.dat .non) [numC CN ms 0]
theorem ok_Numbers_init (T : Txt K mg) : FnOk P w K mg base (L2.CX P w) 5 T.a_Numbers_init T.d_Numbers_init ["self", "body"] (spG K (wNumInit T.c_NoBody T.c_Numbers)) := by
  refine T.F_Numbers_init.okX sc_Numbers_init (fun vs H Q E h => spG_len h fun xs cs post exc ⟨a, e, _⟩ => by rw [e]; rfl) (fun cdv A outer s H vs Q E hr h => ⟨_, (pss_cons (ps_fld (pv 0) (pe_call (ok_numbers_in T) (hr.mono (by decide)) (by rfl) T.g_numbers_in T.F_numbers_in.kp T.b_numbers_in .nil (passes_call (takes_of rfl rfl rfl rfl) (fun _ _ _ _ h => h)) (pa_cons (pv 1) pa_nil)) rfl)
      (pss_one (ps_fld (pv 0) pe_int rfl))), enter h fun F xs cs post hE hw => ?_⟩)
  subst hE
  obtain ⟨d, rfl, rfl, hp, hln, qx, hq⟩ := hw
  walk_at "D"
  refine ws_fset ?_
  walk_at "D"
  walk_at "cx"
  refine ⟨d, rfl, rfl, hp, hln, qx, fun ns e hb => ⟨(hq ns e hb).1, fun ms hm => ⟨rfl, ?_⟩⟩⟩
  have q := (hq ns e hb).2 ms hm
  walk_at "D"
  refine ⟨0, _, [], [], _, _, rfl, by walk_at "fz", rfl, T.cl_Numbers, T.na_Numbers_row, rfl, ?_⟩
  walk_at "D"
  refine ws_fset ?_
  walk_at "D"
  refine ⟨0, _, _, _, _, _, rfl, by walk_at "fz", rfl, T.cl_Numbers, T.na_Numbers_next_at, rfl, ?_⟩
  exact ⟨rfl, q⟩
def wOne (C CN : Addr) : PW0 := fun xs cs post exc => ∃ (ms : List Int) (i : Nat), xs = [.cel 0] ∧ cs = [numC CN ms i] ∧ i ≤ ms.length ∧ ms.length ≤ 100000 ∧ (i = ms.length → exc C) ∧ ∀ h : i < ms.length, post (.dat (.int ms[i])) [numC CN ms (i + 1)]
theorem ok_Numbers_one (T : Txt K mg) : FnOk P w K mg base (L2.CX P w) 1 T.a_Numbers_one T.d_Numbers_one ["self"] (spG K (wOne T.c_NoBody T.c_Numbers)) := by
  refine T.F_Numbers_one.okX sc_Numbers_one (fun vs H Q E h => spG_len h fun xs cs post exc ⟨a, b, e, _⟩ => by rw [e]; rfl) (fun cdv A outer s H vs Q E hr h => ⟨_, (pss_cons (ps_if (pt_cmpR op_eq (pe_fld (pv 0) rfl) (pe_callB call_len_seq (by rfl) T.m_len (by decide +kernel) (pa_cons (pe_fld (pv 0) rfl) pa_nil)) (nomark _)) (pss_one (ps_raise rfl (takes_of rfl rfl rfl rfl) (pmk_own PySem.F.excBase_ValueError T.x_NoBody T.g_NoBody T.k_NoBody (raises_own T.bb_NoBody T.t_NoBody) rfl))) pss_nil)
      (pss_cons (ps_fldaug (pv 0) pe_int in_add)
      (pss_one (ps_ret (pe_ix ix_list (pe_fld (pv 0) rfl) (pe_op op_sub (pe_fld (pv 0) rfl) pe_int) (fun _ _ => rfl)))))), enter h fun F xs cs post hE hw => ?_⟩)
  subst hE
  obtain ⟨ms, i, rfl, rfl, hi, hl, qx, q⟩ := hw
  walk_at "D"
  refine we_fld ?_
  walk_at "D"
  refine ⟨_, _, _, _, .cel rfl, T.cl_Numbers, T.na_Numbers_next_at, rfl, ?_⟩
  walk_at "D"
  refine we_fld ?_
  walk_at "D"
  refine ⟨_, _, _, _, .cel rfl, T.cl_Numbers, T.na_Numbers_row, rfl, ?_⟩
  walk_at "D"
  rw [List.length_map]
  refine ifC (fun c => ?_) (fun c => ?_)
  · have c : (i : Int) = (ms.length : Int) := of_decide_eq_true c
    walk_at "D"
    exact ws_exc fun as σ H G D en => F.hE _ H (qx (by omega)) en.fh
  · have c : ¬ (i : Int) = (ms.length : Int) := of_decide_eq_false c
    have hi2 : i < ms.length := by omega
    walk_at "D"
    refine ws_fldaug ?_
    walk_at "D"
    refine ⟨0, _, _, _, (i : Int), rfl, rfl, T.cl_Numbers, T.na_Numbers_next_at, rfl, rfl, ?_⟩
    walk_at "D"
    refine we_fld ?_
    walk_at "D"
    refine ⟨_, _, _, _, .cel rfl, T.cl_Numbers, T.na_Numbers_row, rfl, ?_⟩
    walk_at "D"
    refine we_fld ?_
    walk_at "D"
    refine ⟨_, _, _, _, .cel rfl, T.cl_Numbers, T.na_Numbers_next_at, rfl, ?_⟩
    walk_at "D"
    refine wr_ixL (.dat _) (at_int hi2 (by omega)) ?_
    exact fin_dat rfl (q hi2)
def wIsOver (CN : Addr) : PW0 := fun xs cs post _ => ∃ (ms : List Int) (i : Nat), xs = [.cel 0] ∧ cs = [numC CN ms i] ∧ post (.dat (.bl (decide (i = ms.length)))) [numC CN ms i]
theorem ok_Numbers_is_over (T : Txt K mg) : FnOk P w K mg base CX0 1 T.a_Numbers_is_over T.d_Numbers_is_over ["self"] (spG K (wIsOver T.c_Numbers)) := by
  refine T.F_Numbers_is_over.ok sc_Numbers_is_over (fun vs H Q E h => spG_len h fun xs cs post exc ⟨a, b, e, _⟩ => by rw [e]; rfl) (fun cdv A outer s H vs Q E hr h => ⟨_, (pss_one (ps_ret (pe_cmpR op_eq (pe_fld (pv 0) rfl) (pe_callB call_len_seq (by rfl) T.m_len (by decide +kernel) (pa_cons (pe_fld (pv 0) rfl) pa_nil)) (nomark _)))), enter h fun F xs cs post hE hw => ?_⟩)
  obtain ⟨ms, i, rfl, rfl, q⟩ := hw
  walk_at "D"
  refine we_fld ?_
  walk_at "D"
  refine ⟨_, _, _, _, .cel rfl, T.cl_Numbers, T.na_Numbers_next_at, rfl, ?_⟩
  walk_at "D"
  refine we_fld ?_
  walk_at "D"
  refine ⟨_, _, _, _, .cel rfl, T.cl_Numbers, T.na_Numbers_row, rfl, ?_⟩
  walk_at "D"
  rw [List.length_map]
  refine fin_dat rfl ?_
  have e : eqS (.int i) (.int ms.length) = decide (i = ms.length) := by
    show decide ((i : Int) = (ms.length : Int)) = _
    exact decide_eq_decide.mpr (by omega)
  rw [e]
  exact q
end

section
variable {P : Program} {w : World} {K : PySem.W.Frag} {mg : Str → Option Value} {base : Heap}
/-! ### a comprehension whose turns may let an error out of the def -/
section
theorem ff_at {g g' grd : Heap} : ∀ {l : List Env}, g.FunFrames grd l → (∀ L ∈ frs l, g'.get? L = g.get? L) → g'.FunFrames grd l
  | [], _, _ => trivial
  | v :: l, ⟨hk, ⟨L, o, hf, hn, ho, hd⟩, hr⟩, k => ⟨hk, ⟨L, o, hf, hn, (k L (List.mem_filterMap.mpr ⟨v, List.mem_cons_self, hf⟩)).trans ho, hd⟩, ff_at hr fun b hb => k b (by
      obtain ⟨y, hy, z⟩ := List.mem_filterMap.mp hb
      exact List.mem_filterMap.mpr ⟨y, List.mem_cons_of_mem _ hy, z⟩)⟩
theorem inv_xe {X : Cx} {pins : List (Addr × Obj)} {σ : L2.St} {H : Hp} {s : Shared} {x1 : Value → Shared → Prop} (I : Inv X pins σ H s) : Inv { X with xe := x1 } pins σ H s :=
  ⟨⟨I.ok.mod, I.ok.kind, I.ok.glob, I.ok.blt, I.ok.above, I.ok.inj, I.ok.has, I.ok.cab, I.ok.hd, I.ok.frames, I.ok.stk, I.ok.exf, I.ok.bs, I.ok.bsz, I.ok.noex, I.ok.exfs, I.ok.funs, I.ok.frf⟩,
    I.os, I.bare, I.base, I.loc, I.cell, I.free, I.freeC, I.pin, I.hok, I.len⟩
/-- what the block's end owes -/
def LetGo (M : Model) (A : Around) (Ex : Value → Shared → Prop) (Qv : Value → Shared → Prop) (acc : Value) (ce : Env) (r : Result) (s' : Shared) : Prop :=
  ∃ m, s'.heap.Ns ce.locals m ∧ ∀ g, Heap.SameBut ce.locals s'.heap g → match r with
    | .ok _ => Qv acc { s' with heap := g }
    | .error x => wpAny M A (PySem.passOn "comprehension.variables-let-go" x ce : Sem Value) (fun _ _ => False) Ex { s' with heap := g }
theorem comp_letX {M : Model} {A : Around} {Ex : Value → Shared → Prop} {s : Shared} {env : Env} {e : Expr} {scope : Scope} {pos : Pos} {mk it0 : Sem Value} {g : Comprehension} {gs : List Comprehension} {cl : List (Str × Addr)} {Qv : Value → Shared → Prop}
    (c1 : clausesOf e = g :: gs) (c2 : ∀ x, foldedSetIterable g.iter env x = pure x) (c3 : closureFor scope env = pure cl) (c4 : scope.kind = .function) (c5 : ∀ y ∈ scope.names, y.2 = .local → scope.names.lookup y.1 = some .local)
    (h : wpAny M A it0 (fun x t1 => wpAny M A (pyIter x) (fun it t2 => wpAny M A mk (fun acc t3 => wpAny M A (newFunctionEnv scope env.globals cl [] env.qual none .none (some env)) (fun cv t4 =>
      codeAny M A (.compStart e 0 it acc { cv with scope := relabel scope env }) (LetGo M A Ex Qv acc { cv with scope := relabel scope env }) t4) Ex t3) Ex t2) Ex t1) Ex s) :
    wpAny M A (comprehension e scope env pos mk false it0 none) Qv Ex s := by
  unfold comprehension
  rw [c3, c1]
  refine wpAny_bind (wpAny_mono h (fun x t1 a1 => ?_) fun _ _ z => z)
  refine wpAny_bind (wpAny_standAt (wpAny_bind (wpAny_of_eq (c2 x) (wpAny_bind (wpAny_holding (wpAny_mono a1 (fun it t2 a2 => ?_) fun _ _ z => z))))))
  refine wpAny_standIf (wpAny_bind (wpAny_mono a2 (fun acc t3 a3 => ?_) fun _ _ z => z))
  refine wpAny_bind (wpAny_pure (wpAny_bind (wpAny_mono a3 (fun cv t4 a4 => ?_) fun _ _ z => z)))
  dsimp only
  have named : ∀ y ∈ (scope.names.filter fun y => (y.2 == .local || y.2 == .cell) && y.1 != (".0" : Str)).reverse, y.2 = .local → Env.kindOf { cv with scope := relabel scope env } y.1 = some .local :=
    fun y my ly => lookup_relabel_local (c5 y (List.mem_filter.mp (List.mem_reverse.mp my)).1 ly)
  refine wpAny_holding (wpAny_bind (wpAny_attempt (wpAny_holding (wpAny_run (codeAny_mono a4 fun r t5 a5 => ?_)))))
  obtain ⟨m, hn, a5⟩ := a5
  cases r with
  | ok _ => exact wpAny_bind (wpAny_holding (wpAny_comp_letGo (cenv := { cv with scope := relabel scope env }) c4 _ t5 m named hn fun g _ _ sb => wpAny_pure (a5 g sb)))
  | error x => exact wpAny_bind (wpAny_holding (wpAny_comp_letGo (cenv := { cv with scope := relabel scope env }) c4 _ t5 m named hn fun g _ _ sb => wpAny_mono (a5 g sb) (fun _ _ z => z.elim) fun _ _ z => z))
/-- a call's error, out of the block and into the def's air -/
theorem out_of {X : Cx} {pins pb : List (Addr × Obj)} {σ σb : L2.St} {H3 Hb : Hp} {s3 s s' : Shared} {E : XK} {ce : Env} {fp : List Addr} {sc : Scope} {x1 : Value → Shared → Prop} {u : Value} {Qv : Value → Shared → Prop} {acc : Value}
    (hs : X.stack = X.env :: X.outer) (hf : X.env.frame = some X.env.locals) (tk : L2.Takes X (fun cls d _ H => E cls d H)) (I3 : Inv X pins σ H3 s3) (f3 : ∀ b ∈ fp, FpOk X pins H3 b ∧ b < s3.heap.objs.size)
    (cL : ce.locals = s3.heap.objs.size) (cf : ce.frame = X.env.frame) (I : Inv { X.blk s3 H3 sc ce fp with xe := x1 } pb σb Hb s) (c : L2.CX X.prog X.w X.stack Hb s E u s') :
    notedBy (model X.prog X.w) X.A ce (fun x t => LetGo (model X.prog X.w) X.A X.xe Qv acc ce (.error x) t) u s' := by
  obtain ⟨a, B, H', cls, d, rfl, fl, hok, ub, na, os, ag, hE⟩ := c
  have hfr : X.A.frames = some (X.env :: X.outer) := by rw [I3.ok.frames, hs]
  obtain ⟨m, hn, _⟩ := I.loc
  obtain ⟨oC, es, ep, hC, rC⟩ := (show s.heap.Ns ce.locals m from hn)
  have nC : Hb ce.locals = none := I.free
  have fC : ce.locals ∉ frs X.stack := fun hm => by
    obtain ⟨_, o', e', _⟩ := I3.stack.mem hm
    exact absurd (Heap.lt_size e') (by rw [cL]; exact Nat.lt_irrefl _)
  have BC : B.get? ce.locals = some oC := ub.keep _ _ hC nC fC
  have nC' : H' ce.locals = none := ub.free _ _ hC nC
  have hide : ∀ b o, b ≠ ce.locals → B.get? b = some o → (PySem.W.hideAll B [ce.locals]).get? b = some o := fun b o hb e => PySem.W.hideAll_get _ e (by simpa using hb)
  have seen : ∀ b o, (PySem.W.hideAll B [ce.locals]).get? b = some o → B.get? b = some o ∧ b ≠ ce.locals := fun b o e => ⟨PySem.W.of_hideAll _ e, fun q => by
    rw [q, PySem.W.hideAll_none _ (by simp)] at e; cases e⟩
  have gone : ∀ b, B.get? b = none → (PySem.W.hideAll B [ce.locals]).get? b = none := fun b e => by
    cases q : (PySem.W.hideAll B [ce.locals]).get? b with
    | none => rfl
    | some o => rw [(seen b o q).1] at e; cases e
  have note : noteFrame (.ref a) ce = noteFrame (.ref a) X.env := by unfold noteFrame PySem.frameOf; rw [cf]
  show wpAny _ X.A (noteFrame (.ref a) ce) _ _ _
  rw [note]
  have fl2 := fl
  rw [hs] at fl2
  refine HandSPX.looks_onZ Zc.steady hfr hf fl2 fun h1 hd1 up1 => ?_
  obtain ⟨k1, k2, k3, oe, vs, T, oT, ts, he, hz, hd, hv, hnT, hTe, hT, hdT, h33⟩ := hd1
  refine ⟨m, ⟨oC, es, ep, k1 _ _ BC, rC⟩, fun h2 sb => ?_⟩
  have sb2 : ∀ b, b ≠ ce.locals → h2.get? b = h1.get? b := sb.2
  have aC : a ≠ ce.locals := fun q => by rw [q, BC] at k2; cases k2
  have TC : T ≠ ce.locals := fun q => by rw [q, BC] at hnT; cases hnT
  have fC2 : ∀ L ∈ frs (X.env :: X.outer), L ≠ ce.locals := fun L hL q => fC (by rw [← q, hs]; exact hL)
  have held : HandSPX.HeldZ (PySem.W.hideAll B [ce.locals]) (X.env :: X.outer) a (Zc cls d) X.env.locals h2 :=
    ⟨fun b o e => (sb2 b (seen b o e).2).trans (k1 b o (seen b o e).1), gone a k2,
      ff_at (funFrames_none k3 fun L hL => gone L (by obtain ⟨q, _⟩ := k3.mem hL; exact q)) fun L hL => sb2 L (fC2 L hL),
      oe, vs, T, oT, ts, (sb2 a aC).trans he, hz, hd, hv, gone T hnT, hTe, (sb2 T TC).trans hT, hdT, h33⟩
  show wpAny _ X.A (PySem.passOn _ (.ref a) ce : Sem Value) _ _ _
  unfold PySem.passOn
  rw [cf, hf]
  refine wpAny_bind (wpAny_field ((sb2 a aC).trans he) hd hv ?_)
  rw [if_neg (show ¬ ((Value.ref T == Value.none) = true) from by simp)]
  refine wpAny_bind (HandSPX.setFlight_onZ held fun h3 hd3 up3 => wpAny_throw ?_)
  obtain ⟨G, g1, g2⟩ := restrict s'.heap fun b => ((PySem.W.hideAll B [ce.locals]).get? b).isSome || decide (b ∈ frs X.stack)
  have gB : ∀ b o, (PySem.W.hideAll B [ce.locals]).get? b = some o → G.get? b = some o := fun b o e => by
    rw [g1 b (by simp [e])]
    exact fl.1 b o (seen b o e).1
  have gF : ∀ b ∈ frs X.stack, G.get? b = s'.heap.get? b := fun b hb => g1 b (by simp [hb])
  have og : ∀ b o, G.get? b = some o → s'.heap.get? b = some o ∧ ((∃ o', (PySem.W.hideAll B [ce.locals]).get? b = some o') ∨ b ∈ frs X.stack) := fun b o e => by
    cases q : (((PySem.W.hideAll B [ce.locals]).get? b).isSome || decide (b ∈ frs X.stack)) with
    | false => rw [g2 b q] at e; cases e
    | true =>
      rw [g1 b q] at e
      refine ⟨e, ?_⟩
      rcases (Bool.or_eq_true _ _).mp q with q | q
      · exact .inl (Option.isSome_iff_exists.mp q)
      · exact .inr (of_decide_eq_true q)
  have low : ∀ b o, s3.heap.get? b = some o → b ≠ ce.locals := fun b o e q => by
    have := Heap.lt_size e
    rw [q, cL] at this
    exact Nat.lt_irrefl _ this
  have IO : Inv X pins σ H' { s3 with heap := G, gens := s'.gens, drawn := s'.drawn, toks := s'.toks } := by
    refine I3.call' (ch := fp) rfl ⟨fun b o e n hb hx => gB b o (hide b o (low b o e) (ub.keep b o (I.base.keep b o e n hb hx) (I.base.free b o e n hx) hb)), fun b o e n hb hx => ?_, fun b o e n hx => ?_, fun b o e hx => ?_,
      fun b xs z => ub.tups b xs (I.base.tups b xs z), fun b o xs z => ub.frzs b o xs (I.base.frzs b o xs z), fun b ps z => ?_⟩ (fun b o q => (hok b o q).stay (fun b' o' hb r => gB b' o' (hide b' o' ?_ r)) (fun _ r => r) fun _ _ r => r) ag
      fun b hb => ⟨(f3 b hb).1.2.2.2.1, (f3 b hb).1.2.1, (f3 b hb).1.2.2.2.2.1, (f3 b hb).1.2.2.2.2.2⟩
    · obtain ⟨sl, q⟩ := I.base.slot b o e n hb hx
      obtain ⟨sl2, q2⟩ := ub.slot b _ q hb
      exact ⟨sl2, (gF b hb).trans q2⟩
    · obtain ⟨o', q⟩ := I.base.there b o e hx
      exact ub.free b o' q (I.base.free b o e n hx)
    · obtain ⟨o', q⟩ := I.base.there b o e hx
      by_cases hb : b ∈ frs X.stack
      · obtain ⟨sl, q2⟩ := ub.slot b o' q hb
        exact ⟨_, (gF b hb).trans q2⟩
      · obtain ⟨o2, q2⟩ := ub.there b o' q hb
        exact ⟨o2, gB b o2 (hide b o2 (low b o e) q2)⟩
    · obtain ⟨p1, z1⟩ := I.base.tbls b ps z
      obtain ⟨p2, z2⟩ := ub.tbls b _ z1
      exact ⟨p1 ++ p2, by rw [z2, Array.append_assoc]⟩
    · rintro rfl
      rcases hb with hb | hb
      · rw [← hb, nC'] at q; cases q
      · rw [nC'] at hb; cases hb
  refine tk _ _ ⟨a, PySem.W.hideAll B [ce.locals], _, pins, σ, H', cls, d, rfl, IO, fun b o e hb => ?_, fun b o e hq => ?_, .inr (.inr ?_), na, os.trans I.os, ag, hE⟩
  · obtain ⟨e1, ⟨o2, z⟩ | z⟩ := og b o e
    · have q := fl.1 b o2 (seen b o2 z).1
      rw [e1] at q; cases q
      exact z
    · exact absurd z hb
  · obtain ⟨e1, z⟩ := og b o e
    have bC : b ≠ ce.locals := by
      rcases z with ⟨o2, z⟩ | z
      · exact (seen b o2 z).2
      · intro q; rw [q] at z; exact fC z
    obtain ⟨sl, q1⟩ := up1 b o e1 hq
    obtain ⟨sl2, q2⟩ := up3 b _ ((sb2 b bC).trans q1) hq
    exact ⟨sl2, q2⟩
  · rw [hs]
    exact hd3

/-- [elt for .. in ..] in a def that lets errors out, by what its turns may let out -/
theorem pe_lcX {X : Cx} {E : XK} {elt tg iter : Expr} {ifs : List Expr} {scope : Scope} {own : List (Str × Nat)} {pos : Pos} {wi : TI} {g : TG} {tt : TT} {te : TE}
    (hs : X.stack = X.env :: X.outer) (hf : X.env.frame = some X.env.locals) (tk : L2.Takes X (fun cls d _ H => E cls d H)) (hc : X.calm = true) (hN : X.N.Nodup) (hi : PI X tg iter wi) (ok : BlkOk X.N X.env.scope scope own)
    (hg : ∀ (t : Shared) (H : Hp) (c : Addr) (l : List (Str × Addr)) (fp : List Addr) (x1 : Value → Shared → Prop), PG { X.blk t H scope (compEnvC scope l c X.env) fp with xe := x1 } tg g)
    (ht : ∀ (t : Shared) (H : Hp) (c : Addr) (l : List (Str × Addr)) (fp : List Addr) (x1 : Value → Shared → Prop), PTs { X.blk t H scope (compEnvC scope l c X.env) fp with xe := x1 } ifs tt)
    (he : ∀ (t : Shared) (H : Hp) (c : Addr) (l : List (Str × Addr)) (fp : List Addr) (x1 : Value → Shared → Prop), Passes (L2.CX X.prog X.w) { X.blk t H scope (compEnvC scope l c X.env) fp with xe := x1 } E → PE { X.blk t H scope (compEnvC scope l c X.env) fp with xe := x1 } elt te)
    (fold : ∀ x, foldedSetIterable iter X.env x = pure x := by intro _; rfl) : PE X (.ListComp elt [⟨tg, iter, ifs, 0⟩] scope pos) (tLc wi g tt te (own.map (·.2))) := by
  refine ⟨fun pins s σ H Q I h => ?_⟩
  rw [eval_ListComp]
  have fr : ∀ y ∈ scope.names, y.2 = .free → ∃ c, X.env.cells.lookup y.1 = some c := fun y my e => by
    rcases ok.free y my e with k | k
    · exact I.ok.has _ (.inl k)
    · exact I.ok.has _ (.inr k)
  refine comp_letX rfl fold (closure_ok fr) ok.kind (fun y my e => by rw [ok.uniq y my, e]) (thn (hi.run pins s σ H _ I h) fun v t1 a1 => thn a1 fun v2 t2 a2 => ?_)
  obtain ⟨it, fp, tn, J, H2, rfl, I2, T, st2, f2, q⟩ := a2
  refine wpAny_newObj_type (newEnv_comp ?_) (Nat.zero_le _)
  generalize hD : t2.heap.objs.size = D
  obtain ⟨W, ⟨m0, w0⟩, turn⟩ := q D (I2.hok.fresh (Nat.le_of_eq hD))
  generalize hs3 : ({ t2 with heap := t2.heap.push { cls := .type "list", data := .seq ([] : List Value).toArray } } : Shared) = s3
  have g3 : s3.heap = t2.heap.push { cls := .type "list", data := .seq ([] : List Value).toArray } := by rw [← hs3]
  have I3 : Inv X pins σ (upd H2 D (.lst [])) s3 := by
    rw [← hs3]
    exact I2.laid (t' := t2.toks) (fun b o e => Heap.get?_push_of_some _ e) (Nat.le_of_eq hD) ⟨Nat.zero_le _, [], 0, .nil, by rw [← hD]; exact Heap.get?_push_size _ rfl⟩
  have f3 : ∀ b ∈ fp, FpOk X pins (upd H2 D (.lst [])) b ∧ b < s3.heap.objs.size := fun b hb => by
    obtain ⟨o, e, _⟩ := T.obj _ _ st2 b hb
    have lt := Heap.lt_size e
    exact ⟨⟨by rw [upd_ne (by rw [← hD]; exact Nat.ne_of_lt lt)]; exact (f2 b hb).1, (f2 b hb).2⟩, by rw [g3, Heap.size_push]; exact Nat.lt_succ_of_lt lt⟩
  have st3 : tn 0 s3.heap := T.keep _ _ _ st2 fun b _ o e => by rw [g3]; exact Heap.get?_push_of_some _ e
  have I4 := block_start I3 ok hN f3
  have n3 : ∀ b ∈ fp, (upd H2 D (.lst [])) b = none := fun b hb => (f3 b hb).1.1
  show codeAny _ _ (.compStart _ 0 (.ref it) (.ref D) (compEnvC scope (cellsFrom (s3.heap.objs.size + 1) scope.names (cloFrom X.env.cells scope.names [])) s3.heap.objs.size X.env)) (LetGo (model X.prog X.w) X.A X.xe _ (.ref D) (compEnvC scope (cellsFrom (s3.heap.objs.size + 1) scope.names (cloFrom X.env.cells scope.names [])) s3.heap.objs.size X.env)) { s3 with heap := pushCells (s3.heap.push { cls := .type "dict", data := .dict #[] }) scope.names }
  have gg := hg s3 (upd H2 D (.lst [])) s3.heap.objs.size (cellsFrom (s3.heap.objs.size + 1) scope.names (cloFrom X.env.cells scope.names [])) fp
  have gt := ht s3 (upd H2 D (.lst [])) s3.heap.objs.size (cellsFrom (s3.heap.objs.size + 1) scope.names (cloFrom X.env.cells scope.names [])) fp
  have ge := he s3 (upd H2 D (.lst [])) s3.heap.objs.size (cellsFrom (s3.heap.objs.size + 1) scope.names (cloFrom X.env.cells scope.names [])) fp
  generalize hce : compEnvC scope (cellsFrom (s3.heap.objs.size + 1) scope.names (cloFrom X.env.cells scope.names [])) s3.heap.objs.size X.env = ce at I4 gg gt ge ⊢
  have cL : ce.locals = s3.heap.objs.size := by rw [← hce]; rfl
  have cf : ce.frame = X.env.frame := by rw [← hce]; rfl
  generalize hH3 : upd H2 D (.lst []) = H3 at I3 I4 gg gt ge w0 n3 f3
  generalize hs4 : ({ s3 with heap := pushCells (s3.heap.push { cls := .type "dict", data := .dict #[] }) scope.names } : Shared) = s4 at I4 ⊢
  have st4 : tn 0 s4.heap := T.keep _ _ _ st3 fun b _ o e => by rw [← hs4]; exact pushCells_keeps _ _ _ _ (Heap.get?_push_of_some _ e)
  generalize hR : LetGo (model X.prog X.w) X.A X.xe (fun v s' => EP X pins σ Q v s') (.ref D) ce = R
  generalize hx1 : notedBy (model X.prog X.w) X.A ce (fun e t => R (.error e) t) = x1 at *
  have gg := gg x1
  have gt := gt x1
  have ge := ge x1 (fun pb σb Hb t u t' It c => by
    show x1 u t'
    rw [← hx1, ← hR]
    exact out_of hs hf tk I3 f3 cL cf It c)
  have I4 := inv_xe (x1 := x1) I4
  have still : ∀ {σ1 : L2.St} {H1 : Hp} {t : Shared}, Inv { X.blk s3 H3 scope ce fp with xe := x1 } [] σ1 H1 t → (∀ b ∈ fp, H1 b = none) → ∀ b ∈ fp, FpOk { X.blk s3 H3 scope ce fp with xe := x1 } [] H1 b := fun {σ1 H1 t} It hn b hb =>
    ⟨hn b hb, (It.ok.exf b hb).1, It.ok.exfs b hb, .inl hb, fun x c e => (It.ok.exf b hb).2 x c e, fun p hp => absurd (show p ∈ ([] : List (Addr × Obj)) ++ [] from hp) (by simp)⟩
  have loop : codeAny (model X.prog X.w) X.A (.compLoop (.ListComp elt [⟨tg, iter, ifs, 0⟩] scope pos) 0 (.ref it) (.ref D) ce) R s4 := by
    refine compLoop_any (fun n t => ∃ i Hi, Inv { X.blk s3 H3 scope ce fp with xe := x1 } [] (wipe σ (own.map (·.2))) Hi t ∧ tn i t.heap ∧ (∀ b ∈ fp, Hi b = none) ∧ W i n Hi) ?_ m0 ⟨0, H3, I4, st4, n3, w0⟩
    rw [hx1]
    rintro n t5 ⟨i, H5, I5, st5, n5, w5⟩
    rcases turn i n H5 w5 with ⟨stop, qq⟩ | ⟨go, Nx, hNx, step⟩
    · refine thn (T.done { X.blk s3 H3 scope ce fp with xe := x1 } rfl rfl rfl hc i [] t5 _ H5 x1 I5 (still I5 n5) st5 stop) fun r t6 a6 => ?_
      obtain ⟨rfl, I6⟩ := a6
      have I7 : Inv X pins σ H5 t6 := I3.call' (ch := fp) I6.os I6.base I6.hok I6.bare fun b hb => ⟨(f3 b hb).1.2.2.2.1, (f3 b hb).1.2.1, (f3 b hb).1.2.2.2.2.1, (f3 b hb).1.2.2.2.2.2⟩
      have nC : H5 s3.heap.objs.size = none := by rw [← cL]; exact I6.free
      obtain ⟨m, hm, _⟩ := I6.loc
      obtain ⟨p0, p1, p2, p3, p4, p5⟩ := I3.fpOk (H' := H5) (Nat.le_refl _) nC
      rw [← hR]
      refine ⟨m, hm, fun g2 sb => ⟨.ref D, H5, I7.turned (t' := t6.toks) (fun b o hb e => (sb.2 b (by rw [cL]; exact hb)).trans e) p0 p1 p3 p4 p5, rfl, qq⟩⟩
    · refine thn (T.item { X.blk s3 H3 scope ce fp with xe := x1 } rfl rfl rfl hc i [] t5 _ H5 x1 I5 (still I5 n5) st5 go) fun r t6 a6 => ?_
      obtain ⟨u, rfl, a6⟩ := a6
      refine thn a6 fun _ t7 a7 => ?_
      obtain ⟨x, H7, I7, r7, y7, st7, n7⟩ := a7
      refine thn (gg.run _ t7 _ H7 x u _ (I7.pinned (still I7 n7) (T.obj _ _ st7)) r7 (step x H7 y7)) fun _ t8 a8 => ?_
      obtain ⟨σ8, H8, I8, w8, q8⟩ := a8
      refine thn (gt.run _ t8 σ8 H8 _ I8 q8) fun b t9 a9 => ?_
      obtain ⟨H9, I9, q9⟩ := a9
      have next : ∀ {t : Shared} {Ht : Hp}, Inv { X.blk s3 H3 scope ce fp with xe := x1 } ([] ++ pinsAt fp t7.heap) σ8 Ht t → Nx Ht → ∃ m, m < n ∧ ∃ i Hi, Inv { X.blk s3 H3 scope ce fp with xe := x1 } [] (wipe σ (own.map (·.2))) Hi t ∧ tn i t.heap ∧ (∀ b ∈ fp, Hi b = none) ∧ W i m Hi := fun {t Ht} It nx => by
        obtain ⟨m', lt, w'⟩ := hNx Ht nx
        have held : ∀ b ∈ fp, ∀ o, t7.heap.get? b = some o → t.heap.get? b = some o ∧ Ht b = none := fun b hb o e =>
          have z := It.pin (b, o) (List.mem_append_right _ (List.mem_append_right _ (mem_pinsAt hb e)))
          ⟨z.1, z.2.1⟩
        have ll : (wipe σ (own.map (·.2))).length = σ8.length := by rw [← w8, wipe_length]
        refine ⟨m', lt, i + 1, Ht, (It.unpinned (pins := [])).weak ll (fun j v e => ?_), T.keep _ _ _ st7 fun b hb o e => (held b hb o e).1, fun b hb => ?_, w'⟩
        · rw [← w8] at e
          exact (wipe_some e).1
        · obtain ⟨o, e, _⟩ := T.obj _ _ st7 b hb
          exact (held b hb o e).2
      cases b with
      | false =>
        simp only [Bool.false_eq_true, if_false] at q9 ⊢
        exact next I9 q9
      | true =>
        simp only [if_true] at q9 ⊢
        refine thn (ge.run _ t9 σ8 H9 _ I9 q9) fun z t10 a10 => ?_
        obtain ⟨yv, H10, I10, r10, acc, hA, lz, nx⟩ := a10
        exact app_ok (X := { X.blk s3 H3 scope ce fp with xe := x1 }) I10 hA lz r10 fun t11 I11 => next I11 nx
  exact codeAny_compStart_list loop (T.self X.A 0 _ _ _ st4 loop)
end
theorem ok_is_seal (T : Txt K mg) : FnOk P w K mg base CX0 3 T.a_is_seal T.d_is_seal ["thing"] (spG K (wThing (inR 0 1000000000))) := by
  refine T.F_is_seal.ok sc_is_seal (fun vs H Q E h => spG_len h fun xs cs post exc ⟨a, e, _⟩ => by rw [e]; rfl) (fun cdv A outer s H vs Q E hr h => ⟨_, (pss_one (ps_ret (pe_call (ok_is_whole T) (hr.mono (by decide)) (by rfl) T.g_is_whole T.F_is_whole.kp T.b_is_whole .nil pass0 (pa_cons (pv 0) (pa_cons pe_int (pa_cons (pe_glob (v := .int 1000000000) (by rfl) T.g_GREATEST_SEAL ⟨_, rfl⟩) pa_nil)))))), enter h fun F xs cs post hE hw => ?_⟩)
  obtain ⟨d, rfl, rfl, hp, q⟩ := hw
  walk_at "D"
  walk_at "c"
  exact ⟨d, _, _, rfl, rfl, hp, rfl, fin_dat rfl q⟩
def wSome (C CN : Addr) : PW0 := fun xs cs post exc => ∃ (ms : List Int) (i n : Nat), xs = [.cel 0, .dat (.int n)] ∧ cs = [numC CN ms i] ∧ i ≤ ms.length ∧ ms.length ≤ 100000 ∧ n < 4611686018427387904 ∧ (ms.length < i + n → exc C) ∧ (i + n ≤ ms.length → post (.dat (.tup (((ms.drop i).take n).map D.int))) [numC CN ms (i + n)])
theorem take_next {ms : List Int} {i t : Nat} (h : i + t < ms.length) : (ms.drop i).take (t + 1) = (ms.drop i).take t ++ [ms[i + t]] := by
  rw [List.take_succ, List.getElem?_drop, List.getElem?_eq_getElem h]
  rfl
theorem ok_Numbers_some (T : Txt K mg) : FnOk P w K mg base (L2.CX P w) 2 T.a_Numbers_some T.d_Numbers_some ["self", "many"] (spG K (wSome T.c_NoBody T.c_Numbers)) := by
  refine T.F_Numbers_some.okX sc_Numbers_some (fun vs H Q E h => spG_len h fun xs cs post exc ⟨a, b, c, e, _⟩ => by rw [e]; rfl) (fun cdv A outer s H vs Q E hr h => ⟨_, (pss_one (ps_ret (pe_callTy call_tuple_of (by rfl) T.m_tuple (by decide +kernel) (pa_cons (pe_lcX (own := [("place", 2)]) (g := gName 2) (tt := tYes) rfl rfl (takes_of rfl rfl rfl rfl) (by rfl) sc_Numbers_some.nd (pi_range1 (by rfl) T.m_range (pa_cons (pv 1) pa_nil)) (blkOk_by (own := [("place", 2)]) (N := N_Numbers_some) (sc := defScope s_Numbers_some) (by decide +kernel)) (fun _ _ _ _ _ _ => (pg_name (i := 2) sc_Numbers_some.nd rfl (Or.inl rfl))) (fun _ _ _ _ _ _ => pts_nil) (fun _ _ _ _ _ _ hqX => (pe_meth0 (pv 0) T.cl_Numbers T.mt_Numbers_one (ok_Numbers_one T) (hr.mono (by decide)) T.b_Numbers_one .nil (hqX)))) pa_nil)))), enter h fun F xs cs post hE hw => ?_⟩)
  subst hE
  obtain ⟨ms, i, n, rfl, rfl, hi, hl, hn, qx, q⟩ := hw
  walk_at "D"
  refine ⟨⟨by omega, by omega⟩, ?_⟩
  rw [show ((n : Int)).toNat = n by omega]
  refine loopC_rng (fun t ρ => ρ = ⟨[some (.cel 0), some (.dat (.int n)), none], [numC T.c_Numbers ms (i + t), .lst (((ms.drop i).take t).map D.int)]⟩ ∧ i + t ≤ ms.length) ⟨rfl, hi⟩ ?_ ?_
  · rintro ρ ⟨rfl, ht⟩
    refine ⟨trivial, ?_⟩
    walk_at "D"
    exact fin_dat rfl (q ht)
  · rintro t ρ hlt ⟨rfl, ht⟩
    refine ⟨trivial, ?_⟩
    walk_at "D"
    refine we_meth ?_
    walk_at "D"
    refine ⟨_, _, .cel rfl, rfl, ?_⟩
    walk_at "D"
    refine wsp1X (j := 0) rfl rfl rfl ⟨ms, i + t, rfl, rfl, ht, hl, fun e => qx (by omega), fun h2 => ⟨numC T.c_Numbers ms (i + t + 1), rfl, rfl, ?_⟩⟩
    walk_at "D"
    · rw [List.length_map, List.length_take]; omega
    refine now ⟨?_, by omega⟩
    rw [take_next h2, List.map_append]
    rfl
/-! the next number, which must be below a bound -/
def wChoice (C CN : Addr) : PW0 := fun xs cs post exc => ∃ (ms : List Int) (i : Nat) (n : Int), xs = [.cel 0, .dat (.int n)] ∧ cs = [numC CN ms i] ∧ i ≤ ms.length ∧ ms.length ≤ 100000 ∧ (i = ms.length → exc C) ∧ ∀ h : i < ms.length, (n ≤ ms[i] → exc C) ∧ (ms[i] < n → post (.dat (.int ms[i])) [numC CN ms (i + 1)])
theorem ok_Numbers_choice (T : Txt K mg) : FnOk P w K mg base (L2.CX P w) 2 T.a_Numbers_choice T.d_Numbers_choice ["self", "many"] (spG K (wChoice T.c_NoBody T.c_Numbers)) := by
  refine T.F_Numbers_choice.okX sc_Numbers_choice (fun vs H Q E h => spG_len h fun xs cs post exc ⟨a, b, c, e, _⟩ => by rw [e]; rfl) (fun cdv A outer s H vs Q E hr h => ⟨_, (pss_cons (ps_set (i := 2) sc_Numbers_choice.nd rfl (Or.inl rfl) (pe_meth0 (pv 0) T.cl_Numbers T.mt_Numbers_one (ok_Numbers_one T) (hr.mono (by decide)) T.b_Numbers_one .nil (passes_call (takes_of rfl rfl rfl rfl) (fun _ _ _ _ h => h))))
      (pss_cons (ps_if (pt_cmpR op_ge (pv 2) (pv 1) (nomark _)) (pss_one (ps_raise rfl (takes_of rfl rfl rfl rfl) (pmk_own PySem.F.excBase_ValueError T.x_NoBody T.g_NoBody T.k_NoBody (raises_own T.bb_NoBody T.t_NoBody) rfl))) pss_nil)
      (pss_one (ps_ret (pv 2))))), enter h fun F xs cs post hE hw => ?_⟩)
  subst hE
  obtain ⟨ms, i, n, rfl, rfl, hi, hl, qx, q⟩ := hw
  walk_at "D"
  refine we_meth ?_
  walk_at "D"
  refine ⟨_, _, .cel rfl, rfl, ?_⟩
  walk_at "D"
  refine wsp1X (j := 0) rfl rfl rfl ⟨ms, i, rfl, rfl, hi, hl, qx, fun h => ⟨numC T.c_Numbers ms (i + 1), rfl, rfl, ?_⟩⟩
  walk_at "D"
  refine ifC (fun c => ?_) (fun c => ?_)
  · have c := of_decide_eq_true c
    walk_at "D"
    exact ws_exc fun as σ H G D en => F.hE _ H ((q h).1 c) en.fh
  · have c := of_decide_eq_false c
    walk_at "D"
    exact fin_dat rfl ((q h).2 (by omega))
end

section
variable {P : Program} {w : World} {K : PySem.W.Frag} {mg : Str → Option Value} {base : Heap}
/-! ### numbers, their bytes one behind the other, and back -/
def Nums (ns : List Int) : Prop := ∀ n ∈ ns, 0 ≤ n ∧ n ≤ 1000000000000000000000000000000000000000000000000000000000000
def bodyI : List Int → List Int
  | [] => []
  | n :: ns => figN n.toNat ++ bodyI ns
theorem bodyI_app (ns ms : List Int) : bodyI (ns ++ ms) = bodyI ns ++ bodyI ms := by
  induction ns with
  | nil => rfl
  | cons n ns ih => show figN n.toNat ++ bodyI (ns ++ ms) = figN n.toNat ++ bodyI ns ++ bodyI ms; rw [ih, List.append_assoc]
theorem Nums.tail {n : Int} {ns : List Int} (h : Nums (n :: ns)) : Nums ns := fun m hm => h m (List.mem_cons_of_mem _ hm)
theorem bodyI_byts (ns : List Int) : Byts (bodyI ns) := by
  induction ns with
  | nil => exact fun _ q => nomatch q
  | cons n ns ih =>
    intro b hb
    rcases List.mem_append.mp hb with hb | hb
    · exact fig_byts _ b hb
    · exact ih b hb
theorem figN_long (n : Nat) (h : (n : Int) ≤ 1000000000000000000000000000000000000000000000000000000000000) : (figN n).length ≤ 31 := by
  rw [fig_len]
  have : (tlN (n / 128)).length ≤ 30 := tlN_len 30 _ (by
    have : n < 10 ^ 60 + 1 := by omega
    have : (10 : Nat) ^ 60 + 1 < 128 ^ 30 := by decide
    omega)
  omega
theorem figN_pos (n : Nat) : 1 ≤ (figN n).length := by rw [fig_len]; omega
theorem bodyI_len {ns : List Int} (h : Nums ns) : ns.length ≤ (bodyI ns).length ∧ (bodyI ns).length ≤ 31 * ns.length := by
  induction ns with
  | nil => exact ⟨Nat.le_refl _, Nat.le_refl _⟩
  | cons n ns ih =>
    have h1 := h n List.mem_cons_self
    have h2 := ih h.tail
    have h3 := figN_long n.toNat (by omega)
    have h4 := figN_pos n.toNat
    show (n :: ns).length ≤ (figN n.toNat ++ bodyI ns).length ∧ (figN n.toNat ++ bodyI ns).length ≤ _
    rw [List.length_append, List.length_cons]
    omega
/-- bytes that are begun but not ended tell no number -/
theorem oneN_open (m : Nat) (hm : (m : Int) ≤ 1000000000000000000000000000000000000000000000000000000000000) : oneN (tlN m).reverse 0 = none := by
  have q := goN_tl m hm [] 0
  rw [List.append_nil, goN_one] at q
  cases h : oneN (tlN m).reverse 0 with
  | none => rfl
  | some r => rw [h] at q; cases q
theorem oneN_fig (n : Nat) (hn : (n : Int) ≤ 1000000000000000000000000000000000000000000000000000000000000) (r : List Int) : oneN (figN n ++ r) 0 = some ((n : Int), r) := by
  have main : goN (figN n ++ r) 0 0 = some ((n : Int), 0 + ((tlN (n / 128)).length : Int) + 1) := by
    unfold figN
    rw [List.append_assoc, goN_tl _ (by omega)]
    show goN (((n % 128 : Nat) : Int) :: r) _ _ = _
    rw [goN]
    have e : ((n / 128 : Nat) : Int) * 128 + ((n % 128 : Nat) : Int) % 128 = (n : Int) := by omega
    rw [e, if_neg (by omega), if_pos (by omega)]
  rw [goN_one] at main
  cases h : oneN (figN n ++ r) 0 with
  | none => rw [h] at main; cases main
  | some x =>
    obtain ⟨a, r2⟩ := x
    rw [h] at main
    obtain ⟨l, e, _⟩ := oneN_suf h
    have main := Option.some.inj main
    have m1 : a = (n : Int) := congrArg Prod.fst main
    have m2 : (0 : Int) + (((figN n ++ r).length : Int) - (r2.length : Int)) = 0 + ((tlN (n / 128)).length : Int) + 1 := congrArg Prod.snd main
    have e2 := congrArg List.length e
    rw [List.length_append, fig_len] at m2
    rw [List.length_append, List.length_append, fig_len] at e2
    have : l.length = (figN n).length := by rw [fig_len]; omega
    have e3 := List.append_inj_right e this.symm
    rw [m1, e3]
theorem fig_head (n : Nat) : ∃ x l, figN n = x :: l ∧ x ≠ 128 := by
  unfold figN
  by_cases z : n / 128 = 0
  · rw [z, tlN_0]
    exact ⟨_, [], rfl, by omega⟩
  · obtain ⟨x, l, e, h⟩ := tl_head _ z
    rw [e]
    exact ⟨x, _, rfl, by omega⟩
theorem firstN_fig (n : Nat) (hn : (n : Int) ≤ 1000000000000000000000000000000000000000000000000000000000000) (r : List Int) : firstN (figN n ++ r) = some ((n : Int), r) := by
  have main := oneN_fig n hn r
  obtain ⟨x, l, e, h⟩ := fig_head n
  rw [e] at main ⊢
  show (if x = 128 then none else oneN (x :: (l ++ r)) 0) = _
  rw [if_neg h]
  exact main
/-- what stands behind some numbers -/
theorem parse_behind {ns : List Int} (h : Nums ns) (r : List Int) : parseN (bodyI ns ++ r) = (parseN r).map (ns ++ ·) := by
  induction ns with
  | nil => show parseN r = _; cases parseN r <;> rfl
  | cons n ns ih =>
    have h1 := h n List.mem_cons_self
    show parseN ((figN n.toNat ++ bodyI ns) ++ r) = _
    rw [List.append_assoc, parse_some (firstN_fig n.toNat (by omega) _), ih h.tail, show ((n.toNat : Nat) : Int) = n by omega]
    cases parseN r <;> rfl
theorem parse_body {ns : List Int} (h : Nums ns) : parseN (bodyI ns) = some ns := by
  have := parse_behind h []
  rw [List.append_nil, parse_nil] at this
  rw [this]
  show some (ns ++ []) = _
  rw [List.append_nil]
/-- a byte more -/
theorem parse_more {ns : List Int} (h : Nums ns) : parseN (bodyI ns ++ [0]) = some (ns ++ [0]) := by
  rw [parse_behind h]
  rfl
/-- a byte less -/
theorem parse_less {ns : List Int} {n : Int} (h : Nums (ns ++ [n])) : parseN (bodyI (ns ++ [n])).dropLast = none ∨ parseN (bodyI (ns ++ [n])).dropLast = some ns := by
  have h1 : Nums ns := fun m hm => h m (List.mem_append_left _ hm)
  have h2 := h n (List.mem_append_right _ List.mem_cons_self)
  have e : (bodyI (ns ++ [n])).dropLast = bodyI ns ++ (tlN (n.toNat / 128)).reverse := by
    rw [bodyI_app]
    show (bodyI ns ++ (figN n.toNat ++ [])).dropLast = _
    rw [List.append_nil]
    unfold figN
    rw [← List.append_assoc, List.dropLast_concat]
  rw [e, parse_behind h1]
  by_cases z : n.toNat / 128 = 0
  · rw [z, tlN_0]
    right
    show some (ns ++ []) = _
    rw [List.append_nil]
  · left
    obtain ⟨x, l, e, hx⟩ := tl_head _ z
    have q := oneN_open (n.toNat / 128) (by omega)
    rw [e] at q ⊢
    rw [parse_none (by simp) (by show (if x = 128 then none else oneN (x :: l) 0) = none; rw [if_neg (by omega)]; exact q)]
    rfl
/-! ### the bytes of numbers, of an index -/
def wBodyOf : PW0 := fun xs cs post _ => ∃ ns : List Int, xs = [.dat (.lst (ns.map D.int))] ∧ cs = [] ∧ Nums ns ∧ ns.length ≤ 100000 ∧ post (.new ((bodyI ns).map D.int)) []
theorem ok_body_of (T : Txt K mg) : FnOk P w K mg base CX0 4 T.a_body_of T.d_body_of ["numbers"] (spG K wBodyOf) := by
  refine T.F_body_of.ok sc_body_of (fun vs H Q E h => spG_len h fun xs cs post exc ⟨a, e, _⟩ => by rw [e]; rfl) (fun cdv A outer s H vs Q E hr h => ⟨_, (pss_cons (ps_set (i := 1) sc_body_of.nd rfl (Or.inl rfl) (pe_lst pa_nil))
      (pss_cons (ps_for PassesOwn.never rfl (pi_list (pv 0)) (pg_name (i := 2) sc_body_of.nd rfl (Or.inl rfl))
        (pss_one (ps_expr (pe_bm PySem.F.plainAttrs_list PySem.F.slot_list_extend PySem.F.type_list_extend mt_extend (pv 1) (pa_cons (pe_call (ok_written T) (hr.mono (by decide)) (by rfl) T.g_written T.F_written.kp T.b_written .nil passL (pa_cons (pv 2) pa_nil)) pa_nil)))))
      (pss_one (ps_ret (pv 1))))), enter h fun F xs cs post hE hw => ?_⟩)
  obtain ⟨ns, rfl, rfl, hn, hl, q⟩ := hw
  walk_at "D"
  refine loop_cut (fun es ρ => ∃ (done rest : List Int) (x : Option AV), ns = done ++ rest ∧ es = rest.map D.int ∧ ρ = ⟨[some (.dat (.lst (ns.map D.int))), some (.cel 0), x], [.lst ((bodyI done).map D.int)]⟩) ⟨[], ns, none, rfl, rfl, rfl⟩ ?_ ?_
  · rintro ρ ⟨done, rest, x, e1, e2, rfl⟩
    have : rest = [] := by cases rest with | nil => rfl | cons => cases e2
    subst this
    rw [List.append_nil] at e1
    subst e1
    refine ⟨.dat _, ?_⟩
    walk_at "D"
    exact ⟨_, .cel (Nat.zero_le _) rfl, rfl, q⟩
  · rintro d es ρ ⟨done, rest, x, e1, e2, rfl⟩
    cases rest with
    | nil => cases e2
    | cons n rest =>
      obtain ⟨rfl, rfl⟩ := List.cons.inj e2
      have h1 := hn n (by rw [e1]; exact List.mem_append_right _ List.mem_cons_self)
      refine ⟨.dat _, ?_⟩
      walk_at "D"
      walk_at "c"
      refine ⟨.int n, rfl, rfl, rfl, fun m em hm => ?_, fun z => ?_⟩
      · have em : n = (m : Int) := by injection em
        subst em
        refine aft_hards (hards_int _) ?_
        have ln := (bodyI_len (ns := done) fun y hy => hn y (by rw [e1]; exact List.mem_append_left _ hy)).2
        have lf := figN_long m h1.2
        have : ns.length = done.length + (rest.length + 1) := by rw [e1, List.length_append, List.length_cons]
        walk_at "D"
        refine wm_extend (ds := (bodyI done).map D.int) (es := (figN m).map D.int) (.cel rfl) rfl (by rw [List.length_map, List.length_map]; omega) ?_
        walk_at "D"
        refine now ⟨done ++ [(m : Int)], rest, some (.dat (.int m)), by rw [e1, List.append_assoc]; rfl, rfl, ?_⟩
        rw [bodyI_app, List.map_append]
        show _ = En.mk _ [Cell.lst ((bodyI done).map D.int ++ (figN m ++ []).map D.int)]
        rw [List.append_nil]
        rfl
      · rw [show inR 0 (10 ^ 60) (.int n) = true by show (decide (0 ≤ n) && decide (n ≤ 10 ^ 60)) = true; rw [Bool.and_eq_true, decide_eq_true_eq, decide_eq_true_eq]; exact ⟨h1.1, h1.2⟩] at z
        cases z
end

section
variable {P : Program} {w : World} {K : PySem.W.Frag} {mg : Str → Option Value} {base : Heap}
/-! ### heads: their lanes, their numbers, what is one -/
section
variable {K : PySem.W.Frag} {F : Fx} {ρ : En} {ka : List AV → En → Prop} {te : TE} {t : TA}
theorem wa_star (h : WpE K F te ρ fun x ρ1 => ∃ ds, x = .dat (.tup ds) ∧ WpA K F t ρ1 fun ys ρ2 => ka (ds.map .dat ++ ys) ρ2) : WpA K F (StX.tStar K te t) ρ ka := fun as σ H G e Q q =>
  h as σ H G e _ fun x ρ1 vx as1 H1 G1 ⟨ds, ex, h1⟩ e1 g1 r1 => by
    subst ex
    obtain ⟨a, vs, rfl, hs, hr⟩ := Rep.tupE r1
    refine ⟨a, vs, rfl, .inl (Same.seqT e1.gh hs), h1 as1 σ H1 G1 e1 _ fun ys ρ2 ws as2 H2 G2 h2 e2 g2 r2 => ?_⟩
    exact q _ ρ2 _ as2 H2 G2 h2 e2 (g1.trans g2) (((Reps.as hr).mono g2).append r2)
end
def edN (e : Ed) : List Int := match e.start with
  | none => [e.span.num, (e.span.den : Int), 0]
  | some q => [e.span.num, (e.span.den : Int), 1, q.num, (q.den : Int), e.rate.num, (e.rate.den : Int)]
def esN (es : List Ed) : List Int := (es.length : Int) :: (es.map edN).flatten
theorem edN_len (e : Ed) : 3 ≤ (edN e).length ∧ (edN e).length ≤ 7 := by
  unfold edN
  cases e.start with
  | none => exact ⟨by show 3 ≤ 3; omega, by show 3 ≤ 7; omega⟩
  | some q => exact ⟨by show 3 ≤ 7; omega, by show 7 ≤ 7; omega⟩
theorem esN_len (es : List Ed) : (esN es).length ≤ 1 + 7 * es.length := by
  show ((es.map edN).flatten).length + 1 ≤ _
  induction es with
  | nil => exact Nat.le_refl _
  | cons e es ih =>
    rw [List.map_cons, List.flatten_cons, List.length_append, List.length_cons]
    have := (edN_len e).2
    omega
def wEditNumbers : PW0 := fun xs cs post _ => ∃ e : Ed, xs = [.dat (eD e)] ∧ cs = [] ∧ post (.new ((edN e).map D.int)) []
theorem ok_edit_numbers (T : Txt K mg) : FnOk P w K mg base CX0 1 T.a_edit_numbers T.d_edit_numbers ["edit"] (spG K wEditNumbers) := by
  refine T.F_edit_numbers.ok sc_edit_numbers (fun vs H Q E h => spG_len h fun xs cs post exc ⟨a, e, _⟩ => by rw [e]; rfl) (fun cdv A outer s H vs Q E hr h => ⟨_, (pss_cons (ps_asg (pv 0) (pg_tup rfl (pgs_cons (pg_name (i := 1) sc_edit_numbers.nd rfl (Or.inl rfl)) (pgs_cons (pg_name (i := 2) sc_edit_numbers.nd rfl (Or.inl rfl)) (pgs_cons (pg_name (i := 3) sc_edit_numbers.nd rfl (Or.inl rfl)) pgs_nil)))))
      (pss_cons (ps_if (pt_cmpR op_isN (pv 2) pe_non (nomark _)) (pss_one (ps_ret (pe_lst (StX.pa_star (pv 1) (pa_cons pe_int pa_nil))))) pss_nil)
      (pss_one (ps_ret (pe_lst (StX.pa_star (pv 1) (pa_cons pe_int (StX.pa_star (pv 2) (StX.pa_star (pv 3) pa_nil))))))))), enter h fun F xs cs post hE hw => ?_⟩)
  obtain ⟨⟨sp, st, ra⟩, rfl, rfl, q⟩ := hw
  cases st with
  | none =>
    have q : post (.new [.int sp.num, .int (sp.den : Int), .int 0]) [] := q
    show WpS K F _ (En.start _ [.dat (.tup [.tup [.int sp.num, .int (sp.den : Int)], .non, fD ra])] []) _
    walk_at "D"
    refine wa_star ?_
    walk_at "D"
    exact ⟨_, .cel (j := 0) (Nat.zero_le _) rfl, rfl, q⟩
  | some so =>
    have q : post (.new [.int sp.num, .int (sp.den : Int), .int 1, .int so.num, .int (so.den : Int), .int ra.num, .int (ra.den : Int)]) [] := q
    show WpS K F _ (En.start _ [.dat (.tup [.tup [.int sp.num, .int (sp.den : Int)], .tup [.int so.num, .int (so.den : Int)], .tup [.int ra.num, .int (ra.den : Int)]])] []) _
    walk_at "D"
    refine wa_star ?_
    walk_at "D"
    refine wa_star ?_
    walk_at "D"
    refine wa_star ?_
    walk_at "D"
    exact ⟨_, .cel (j := 0) (Nat.zero_le _) rfl, rfl, q⟩
def wEditsNumbers : PW0 := fun xs cs post _ => ∃ es : List Ed, xs = [.dat (.lst (es.map eD))] ∧ cs = [] ∧ es.length ≤ 100 ∧ post (.new ((esN es).map D.int)) []
theorem flat_snocE (g : Ed → List Int) (xs : List Ed) (x : Ed) : ((xs ++ [x]).map g).flatten = (xs.map g).flatten ++ g x := by
  rw [List.map_append, List.flatten_append, List.map_cons, List.map_nil, List.flatten_cons, List.flatten_nil, List.append_nil]
theorem ok_edits_numbers (T : Txt K mg) : FnOk P w K mg base CX0 2 T.a_edits_numbers T.d_edits_numbers ["edits"] (spG K wEditsNumbers) := by
  refine T.F_edits_numbers.ok sc_edits_numbers (fun vs H Q E h => spG_len h fun xs cs post exc ⟨a, e, _⟩ => by rw [e]; rfl) (fun cdv A outer s H vs Q E hr h => ⟨_, (pss_cons (ps_set (i := 1) sc_edits_numbers.nd rfl (Or.inl rfl) (pe_lst (pa_cons (pe_callB call_len_seq (by rfl) T.m_len (by decide +kernel) (pa_cons (pv 0) pa_nil)) pa_nil)))
      (pss_cons (ps_for PassesOwn.never rfl (pi_list (pv 0)) (pg_name (i := 2) sc_edits_numbers.nd rfl (Or.inl rfl))
        (pss_one (ps_expr (pe_bm PySem.F.plainAttrs_list PySem.F.slot_list_extend PySem.F.type_list_extend mt_extend (pv 1) (pa_cons (pe_call (ok_edit_numbers T) (hr.mono (by decide)) (by rfl) T.g_edit_numbers T.F_edit_numbers.kp T.b_edit_numbers .nil pass0 (pa_cons (pv 2) pa_nil)) pa_nil)))))
      (pss_one (ps_ret (pv 1))))), enter h fun F xs cs post hE hw => ?_⟩)
  obtain ⟨es, rfl, rfl, hl, q⟩ := hw
  walk_at "D"
  rw [List.length_map]
  refine loop_cut (fun ds ρ => ∃ (done rest : List Ed) (x : Option AV), es = done ++ rest ∧ ds = rest.map eD ∧ ρ = ⟨[some (.dat (.lst (es.map eD))), some (.cel 0), x], [.lst (((es.length : Int) :: (done.map edN).flatten).map D.int)]⟩) ⟨[], es, none, rfl, rfl, rfl⟩ ?_ ?_
  · rintro ρ ⟨done, rest, x, e1, e2, rfl⟩
    have : rest = [] := by cases rest with | nil => rfl | cons => cases e2
    subst this
    rw [List.append_nil] at e1
    subst e1
    refine ⟨.dat _, ?_⟩
    walk_at "D"
    exact ⟨_, .cel (Nat.zero_le _) rfl, rfl, q⟩
  · rintro d ds ρ ⟨done, rest, x, e1, e2, rfl⟩
    cases rest with
    | nil => cases e2
    | cons r rest =>
      obtain ⟨rfl, rfl⟩ := List.cons.inj e2
      have h6 : es.length = done.length + (rest.length + 1) := by rw [e1, List.length_append, List.length_cons]
      have hd6 := esN_len done
      have hd7 : ((done.map edN).flatten).length + 1 ≤ 1 + 7 * done.length := hd6
      have hr6 := (edN_len r).2
      refine ⟨.dat _, ?_⟩
      walk_at "D"
      walk_at "c"
      refine ⟨r, rfl, rfl, aft_hards (hards_int _) ?_⟩
      walk_at "D"
      refine wm_extend (ds := ((es.length : Int) :: (done.map edN).flatten).map D.int) (es := (edN r).map D.int) (.cel rfl) rfl (by rw [List.length_map, List.length_map]; simp only [List.length_cons]; omega) ?_
      walk_at "D"
      refine now ⟨done ++ [r], rest, some (.dat (eD r)), by rw [e1, List.append_assoc]; rfl, rfl, ?_⟩
      rw [flat_snocE, ← List.cons_append, List.map_append]
      rfl
/-! what is a lane, a head -/
def isHl : D → Bool
  | .tup [u, c, es] => inR 1 1000000 u && (inR 0 200 c && isLnE es)
  | _ => false
theorem ok_is_head_lane (T : Txt K mg) : FnOk P w K mg base CX0 7 T.a_is_head_lane T.d_is_head_lane ["thing"] (spG K (wThing isHl)) := by
  refine T.F_is_head_lane.ok sc_is_head_lane (fun vs H Q E h => spG_len h fun xs cs post exc ⟨a, e, _⟩ => by rw [e]; rfl) (fun cdv A outer s H vs Q E hr h => ⟨_, (pss_cons (ps_if (PW.pt (pw_or (pt_not (pt_val (pe_callB call_isi (by rfl) T.m_isinstance (by decide +kernel) (pa_cons (pv 0) (pa_cons (pe_bltn (v := .ty "tuple") (by rfl) T.m_tuple (by decide +kernel) rfl) pa_nil))))) (pw_or1 (pt_cmpR op_ne (pe_callB call_len_seq (by rfl) T.m_len (by decide +kernel) (pa_cons (pv 0) pa_nil)) pe_int (nomark _))))) (pss_one (ps_ret pe_bl)) pss_nil)
      (pss_cons (ps_asg (pv 0) (pg_tup rfl (pgs_cons (pg_name (i := 1) sc_is_head_lane.nd rfl (Or.inl rfl)) (pgs_cons (pg_name (i := 2) sc_is_head_lane.nd rfl (Or.inl rfl)) (pgs_cons (pg_name (i := 3) sc_is_head_lane.nd rfl (Or.inl rfl)) pgs_nil)))))
      (pss_one (ps_ret (pe_and (pe_call (ok_is_units T) (hr.mono (by decide)) (by rfl) T.g_is_units T.F_is_units.kp T.b_is_units .nil pass0 (pa_cons (pv 1) pa_nil)) (pe_and (pe_call (ok_is_whole T) (hr.mono (by decide)) (by rfl) T.g_is_whole T.F_is_whole.kp T.b_is_whole .nil pass0 (pa_cons (pv 2) (pa_cons pe_int (pa_cons (pe_glob (v := .int 200) (by rfl) T.g_MOST_LEAVES ⟨_, rfl⟩) pa_nil)))) (pe_one (pe_call (ok_is_lane_edits T) (hr.mono (by decide)) (by rfl) T.g_is_lane_edits T.F_is_lane_edits.kp T.b_is_lane_edits .nil pass0 (pa_cons (pv 3) pa_nil))))))))), enter h fun F xs cs post hE hw => ?_⟩)
  obtain ⟨d, rfl, rfl, hp, q⟩ := hw
  cases d with
  | tup ds =>
    by_cases l3 : ds.length = 3
    · match ds, l3 with
      | [a, b, c], _ =>
        rw [pl] at hp
        obtain ⟨p1, hp⟩ := pls_cons hp
        obtain ⟨p2, hp⟩ := pls_cons hp
        have p3 := (pls_cons hp).1
        have e0 : isHl (.tup [a, b, c]) = (inR 1 1000000 a && (inR 0 200 b && isLnE c)) := rfl
        rw [e0] at q
        walk_at "D"
        walk_at "c"
        refine ⟨a, rfl, rfl, p1, rfl, ?_⟩
        cases h1 : inR 1 1000000 a with
        | false => rw [h1] at q; walk_at "D"; exact fin_dat rfl q
        | true =>
        rw [h1] at q
        walk_at "D"
        walk_at "c"
        refine ⟨b, _, _, rfl, rfl, p2, rfl, ?_⟩
        cases h2 : inR 0 200 b with
        | false => rw [h2] at q; walk_at "D"; exact fin_dat rfl q
        | true =>
        rw [h2] at q
        walk_at "D"
        walk_at "c"
        exact ⟨c, rfl, rfl, p3, rfl, fin_dat rfl q⟩
    · have q : post (.dat (.bl false)) [] := by
        have : isHl (.tup ds) = false := by
          unfold isHl
          split
          · rename_i e
            injection e with e
            subst e
            exact absurd rfl l3
          · rfl
        rw [this] at q
        exact q
      walk_at "D"
      refine ifT (by show (!decide ((ds.length : Int) = 3)) = true; rw [decide_eq_false (by omega)]; rfl) ?_
      walk_at "D"
      exact fin_dat rfl q
  | obj => rw [pl] at hp; cases hp
  | scr => rw [pl] at hp; cases hp
  | ty => rw [pl] at hp; cases hp
  | cls => rw [pl] at hp; cases hp
  | _ => walk_at "D"; exact fin_dat rfl q
def isHd : D → Bool
  | .tup [a, b, .lst ls] => inR 0 1000000000 a && (inR 1 16 b && (isLs 1 8 (.lst ls) && ls.all isHl))
  | _ => false
theorem ok_is_head (T : Txt K mg) : FnOk P w K mg base CX0 8 T.a_is_head T.d_is_head ["thing"] (spG K (wThing isHd)) := by
  refine T.F_is_head.ok sc_is_head (fun vs H Q E h => spG_len h fun xs cs post exc ⟨a, e, _⟩ => by rw [e]; rfl) (fun cdv A outer s H vs Q E hr h => ⟨_, (pss_cons (ps_if (PW.pt (pw_or (pt_not (pt_val (pe_callB call_isi (by rfl) T.m_isinstance (by decide +kernel) (pa_cons (pv 0) (pa_cons (pe_bltn (v := .ty "tuple") (by rfl) T.m_tuple (by decide +kernel) rfl) pa_nil))))) (pw_or1 (pt_cmpR op_ne (pe_callB call_len_seq (by rfl) T.m_len (by decide +kernel) (pa_cons (pv 0) pa_nil)) pe_int (nomark _))))) (pss_one (ps_ret pe_bl)) pss_nil)
      (pss_cons (ps_asg (pv 0) (pg_tup rfl (pgs_cons (pg_name (i := 1) sc_is_head.nd rfl (Or.inl rfl)) (pgs_cons (pg_name (i := 2) sc_is_head.nd rfl (Or.inl rfl)) (pgs_cons (pg_name (i := 3) sc_is_head.nd rfl (Or.inl rfl)) pgs_nil)))))
      (pss_cons (ps_if (PW.pt (pw_or (pt_not (pt_val (pe_call (ok_is_seal T) (hr.mono (by decide)) (by rfl) T.g_is_seal T.F_is_seal.kp T.b_is_seal .nil pass0 (pa_cons (pv 1) pa_nil)))) (pw_or (pt_not (pt_val (pe_call (ok_is_wide T) (hr.mono (by decide)) (by rfl) T.g_is_wide T.F_is_wide.kp T.b_is_wide .nil pass0 (pa_cons (pv 2) pa_nil)))) (pw_or1 (pt_not (pt_val (pe_call (ok_is_list T) (hr.mono (by decide)) (by rfl) T.g_is_list T.F_is_list.kp T.b_is_list .nil pass0 (pa_cons (pv 3) (pa_cons pe_int (pa_cons (pe_glob (v := .int 8) (by rfl) T.g_MOST_LANES ⟨_, rfl⟩) pa_nil)))))))))) (pss_one (ps_ret pe_bl)) pss_nil)
      (pss_one (ps_ret (pe_callB (cr_all rfl) (by rfl) T.m_all (by decide +kernel) (pa_cons (pe_lc (own := [("lane", 4)]) (g := gName 4) (tt := tYes) (by rfl) sc_is_head.nd (pi_list (pv 3)) (blkOk_by (own := [("lane", 4)]) (N := N_is_head) (sc := defScope s_is_head) (by decide +kernel)) (fun _ _ _ _ _ => (pg_name (i := 4) sc_is_head.nd rfl (Or.inl rfl))) (fun _ _ _ _ _ => pts_nil) (fun _ _ _ _ _ => (pe_call (ok_is_head_lane T) (hr.mono (by decide)) (by rfl) T.g_is_head_lane T.F_is_head_lane.kp T.b_is_head_lane .nil pass0 (pa_cons (pv 4) pa_nil)))) pa_nil))))))), enter h fun F xs cs post hE hw => ?_⟩)
  obtain ⟨d, rfl, rfl, hp, q⟩ := hw
  cases d with
  | tup ds =>
    by_cases l3 : ds.length = 3
    · match ds, l3 with
      | [a, b, e], _ =>
        rw [pl] at hp
        obtain ⟨p1, hp⟩ := pls_cons hp
        obtain ⟨p2, hp⟩ := pls_cons hp
        have p4 := (pls_cons hp).1
        have no : (inR 0 1000000000 a && (inR 1 16 b && isLs 1 8 e)) = false → post (.dat (.bl false)) [] := fun z => by
          have : isHd (.tup [a, b, e]) = false := by
            cases e with
            | lst ls =>
              show (inR 0 1000000000 a && (inR 1 16 b && (isLs 1 8 (.lst ls) && ls.all isHl))) = false
              cases h1 : inR 0 1000000000 a <;> cases h2 : inR 1 16 b <;> cases h4 : isLs 1 8 (.lst ls) <;> rw [h1, h2, h4] at z <;> first | rfl | cases z
            | _ => rfl
          rw [this] at q; exact q
        walk_at "D"
        walk_at "c"
        refine ⟨a, rfl, rfl, p1, rfl, ?_⟩
        cases h1 : inR 0 1000000000 a with
        | false => walk_at "D"; exact fin_dat rfl (no (by rw [h1]; rfl))
        | true =>
        walk_at "D"
        walk_at "c"
        refine ⟨b, rfl, rfl, p2, rfl, ?_⟩
        cases h2 : inR 1 16 b with
        | false => walk_at "D"; exact fin_dat rfl (no (by rw [h1, h2]; rfl))
        | true =>
        walk_at "D"
        walk_at "c"
        refine ⟨e, 1, 8, rfl, rfl, p4, rfl, ?_⟩
        cases h4 : isLs 1 8 e with
        | false => walk_at "D"; exact fin_dat rfl (no (by rw [h1, h2, h4]; rfl))
        | true =>
          cases e with
          | lst ls =>
            have q : post (.dat (.bl (ls.all isHl))) [] := by
              have : isHd (.tup [a, b, .lst ls]) = ls.all isHl := by
                show (inR 0 1000000000 a && (inR 1 16 b && (isLs 1 8 (.lst ls) && ls.all isHl))) = _
                rw [h1, h2, h4]; rfl
              rw [this] at q; exact q
            have ln : ls.length ≤ 8 := by
              have h4 : (decide (1 ≤ ls.length) && decide (ls.length ≤ 8)) = true := h4
              rw [Bool.and_eq_true, decide_eq_true_eq, decide_eq_true_eq] at h4
              exact h4.2
            have pr : ∀ d ∈ ls, pl d = true := by rw [pl] at p4; exact pls_mem p4
            walk_at "D"
            refine loopC_by (fun dd ρ => ∃ (done : List D), ls = done ++ dd ∧ ρ = ⟨[some (.dat (.tup [a, b, .lst ls])), some (.dat a), some (.dat b), some (.dat (.lst ls)), none], [.lst ((done.map isHl).map D.bl)]⟩) ⟨[], rfl, rfl⟩ ?_ ?_
            · rintro ρ ⟨done, e1, rfl⟩
              rw [List.append_nil] at e1
              subst e1
              refine ⟨.dat _, ?_⟩
              walk_at "D"
              refine wc_all (bs := ls.map isHl) (.cel rfl) ?_
              rw [show (ls.map isHl).all id = ls.all isHl by rw [List.all_map]; rfl]
              exact fin_dat rfl q
            · rintro d dd ρ ⟨done, e1, rfl⟩
              refine ⟨.dat _, ?_⟩
              walk_at "D"
              walk_at "c"
              refine ⟨d, rfl, rfl, pr d (by rw [e1]; exact List.mem_append_right _ List.mem_cons_self), rfl, ?_⟩
              walk_at "D"
              · rw [List.length_map, List.length_map]
                have : ls.length = done.length + (dd.length + 1) := by rw [e1, List.length_append, List.length_cons]
                omega
              refine now ⟨done ++ [d], by rw [e1, List.append_assoc]; rfl, ?_⟩
              rw [List.map_append, List.map_append]
              rfl
          | _ => cases h4
    · have q : post (.dat (.bl false)) [] := by
        have : isHd (.tup ds) = false := by
          unfold isHd
          split
          · rename_i e
            injection e with e
            subst e
            exact absurd rfl l3
          · rfl
        rw [this] at q
        exact q
      walk_at "D"
      refine ifT (by show (!decide ((ds.length : Int) = 3)) = true; rw [decide_eq_false (by omega)]; rfl) ?_
      walk_at "D"
      exact fin_dat rfl q
  | obj => rw [pl] at hp; cases hp
  | scr => rw [pl] at hp; cases hp
  | ty => rw [pl] at hp; cases hp
  | cls => rw [pl] at hp; cases hp
  | _ => walk_at "D"; exact fin_dat rfl q
end

section
variable {P : Program} {w : World} {K : PySem.W.Frag} {mg : Str → Option Value} {base : Heap}
/-! ### an index out of its body -/
theorem parseF_len : ∀ (n : Nat) (fs ms : List Int), parseF n fs = some ms → ms.length ≤ fs.length := by
  intro n
  induction n with
  | zero =>
    intro fs ms h
    rw [parseF] at h
    split at h
    · cases h; exact Nat.zero_le _
    · cases h
  | succ n ih =>
    intro fs ms h
    rw [parseF] at h
    split at h
    · cases h; exact Nat.zero_le _
    · cases hf : firstN fs with
      | none => rw [hf] at h; cases h
      | some r =>
        obtain ⟨a, r⟩ := r
        rw [hf] at h
        obtain ⟨l, e, hl⟩ := firstN_suf hf
        have e2 := congrArg List.length e
        rw [List.length_append] at e2
        have h : (parseF n r).map (a :: ·) = some ms := h
        cases hp : parseF n r with
        | none => rw [hp] at h; cases h
        | some ms2 =>
          rw [hp] at h
          cases h
          have := ih r ms2 hp
          rw [List.length_cons]
          omega
theorem parse_len {fs ms : List Int} (h : parseN fs = some ms) : ms.length ≤ fs.length := parseF_len _ _ _ h
/-! ### a head out of numbers -/
def rdMany (f : List Int → Option (D × List Int)) : Nat → List Int → Option (List D × List Int)
  | 0, r => some ([], r)
  | n + 1, r => match f r with
    | none => none
    | some (d, r2) => (rdMany f n r2).map fun x => (d :: x.1, x.2)
def rdEdit : List Int → Option (D × List Int)
  | a :: b :: k :: r => if k = 0 then some (.tup [.tup [.int a, .int b], .non, .tup [.int 0, .int 1]], r)
    else if k = 1 then (if r.length < 4 then none else some (.tup [.tup [.int a, .int b], .tup ((r.take 2).map D.int), .tup (((r.drop 2).take 2).map D.int)], r.drop 4))
    else none
  | _ => none
theorem rdEdit_short : ∀ {l : List Int}, l.length < 3 → rdEdit l = none
  | [], _ => rfl
  | [_], _ => rfl
  | [_, _], _ => rfl
  | _ :: _ :: _ :: _, h => by simp only [List.length_cons] at h; omega
theorem rdEdit_suf {l : List Int} {d : D} {r : List Int} (h : rdEdit l = some (d, r)) : (∃ n, r = l.drop n ∧ 1 ≤ n ∧ n ≤ l.length) ∧ pl d = true := by
  match l, h with
  | a :: b :: k :: t, h =>
    have h : (if k = 0 then some (D.tup [.tup [.int a, .int b], .non, .tup [.int 0, .int 1]], t)
      else if k = 1 then (if t.length < 4 then none else some (D.tup [.tup [.int a, .int b], .tup ((t.take 2).map D.int), .tup (((t.drop 2).take 2).map D.int)], t.drop 4))
      else none) = some (d, r) := h
    split at h
    · cases h
      exact ⟨⟨3, rfl, by decide, by simp only [List.length_cons]; omega⟩, rfl⟩
    · split at h
      · split at h
        · cases h
        · cases h
          refine ⟨⟨7, rfl, by decide, by simp only [List.length_cons]; omega⟩, ?_⟩
          show (true && (pl (.tup ((t.take 2).map D.int)) && (pl (.tup (((t.drop 2).take 2).map D.int)) && true))) = true
          rw [pl, pl, pls_int, pls_int]
          rfl
      · cases h
def wTakenEdit (C CN : Addr) : PW0 := fun xs cs post exc => ∃ (ms : List Int) (i : Nat), xs = [.cel 0] ∧ cs = [numC CN ms i] ∧ i ≤ ms.length ∧ ms.length ≤ 100000 ∧ (∀ m ∈ ms, 0 ≤ m) ∧ (rdEdit (ms.drop i) = none → exc C) ∧ ∀ d r, rdEdit (ms.drop i) = some (d, r) → post (.dat d) [numC CN ms (ms.length - r.length)]
theorem ok_taken_edit (T : Txt K mg) : FnOk P w K mg base (L2.CX P w) 3 T.a_taken_edit T.d_taken_edit ["numbers"] (spG K (wTakenEdit T.c_NoBody T.c_Numbers)) := by
  refine T.F_taken_edit.okX sc_taken_edit (fun vs H Q E h => spG_len h fun xs cs post exc ⟨a, b, e, _⟩ => by rw [e]; rfl) (fun cdv A outer s H vs Q E hr h => ⟨_, (pss_cons (ps_set (i := 1) sc_taken_edit.nd rfl (Or.inl rfl) (pe_meth (pv 0) T.cl_Numbers T.mt_Numbers_some (ok_Numbers_some T) (hr.mono (by decide)) T.b_Numbers_some .nil (passes_call (takes_of rfl rfl rfl rfl) (fun _ _ _ _ h => h)) (pa_cons pe_int pa_nil)))
      (pss_cons (ps_if (pt_cmpR op_eq (pe_meth (pv 0) T.cl_Numbers T.mt_Numbers_choice (ok_Numbers_choice T) (hr.mono (by decide)) T.b_Numbers_choice .nil (passes_call (takes_of rfl rfl rfl rfl) (fun _ _ _ _ h => h)) (pa_cons pe_int pa_nil)) pe_int (nomark _)) (pss_one (ps_ret (pe_tup (pa_cons (pv 1) (pa_cons pe_non (pa_cons (pe_tup (pa_cons pe_int (pa_cons pe_int pa_nil))) pa_nil)))))) pss_nil)
      (pss_cons (ps_set (i := 2) sc_taken_edit.nd rfl (Or.inl rfl) (pe_meth (pv 0) T.cl_Numbers T.mt_Numbers_some (ok_Numbers_some T) (hr.mono (by decide)) T.b_Numbers_some .nil (passes_call (takes_of rfl rfl rfl rfl) (fun _ _ _ _ h => h)) (pa_cons pe_int pa_nil)))
      (pss_one (ps_ret (pe_tup (pa_cons (pv 1) (pa_cons (pv 2) (pa_cons (pe_meth (pv 0) T.cl_Numbers T.mt_Numbers_some (ok_Numbers_some T) (hr.mono (by decide)) T.b_Numbers_some .nil (passes_call (takes_of rfl rfl rfl rfl) (fun _ _ _ _ h => h)) (pa_cons pe_int pa_nil)) pa_nil))))))))), enter h fun F xs cs post hE hw => ?_⟩)
  subst hE
  obtain ⟨ms, i, rfl, rfl, hi, hl, h0, qx, q⟩ := hw
  have l0 : (ms.drop i).length = ms.length - i := List.length_drop
  walk_at "D"
  refine we_meth ?_
  walk_at "D"
  refine ⟨_, _, .cel rfl, rfl, ?_⟩
  walk_at "D"
  refine wsp1X (j := 0) rfl rfl rfl ⟨ms, i, 2, rfl, rfl, hi, hl, by decide, fun z => qx (rdEdit_short (by omega)), fun h2 => ⟨numC T.c_Numbers ms (i + 2), rfl, rfl, ?_⟩⟩
  obtain ⟨a, b, hab⟩ : ∃ a b, ms.drop i = a :: b :: ms.drop (i + 2) := ⟨ms[i], ms[i + 1], by rw [drop_at (show i < ms.length by omega), drop_at (show i + 1 < ms.length by omega)]⟩
  rw [hab] at qx q ⊢
  rw [show (List.take 2 (a :: b :: ms.drop (i + 2))).map D.int = [.int a, .int b] from rfl]
  walk_at "D"
  refine we_meth ?_
  walk_at "D"
  refine ⟨_, _, .cel rfl, rfl, ?_⟩
  walk_at "D"
  refine wsp1X (j := 0) rfl rfl rfl ⟨ms, i + 2, 2, rfl, rfl, h2, hl, fun z => qx (rdEdit_short (by simp only [List.length_cons, List.length_drop]; omega)), fun h3 => ⟨fun z => qx ?_, fun z => ⟨numC T.c_Numbers ms (i + 2 + 1), rfl, rfl, ?_⟩⟩⟩
  · rw [drop_at h3]
    show (if ms[i + 2] = 0 then _ else if ms[i + 2] = 1 then _ else none) = none
    rw [if_neg (by omega), if_neg (by omega)]
  have m0 := h0 ms[i + 2] (List.getElem_mem h3)
  rw [drop_at h3] at qx q
  generalize ms[i + 2] = k at *
  have l3 : (ms.drop (i + 2 + 1)).length = ms.length - (i + 2 + 1) := List.length_drop
  walk_at "D"
  refine ifC (fun c => ?_) (fun c => ?_)
  · have c : k = 0 := of_decide_eq_true c
    subst c
    have q := q (.tup [.tup [.int a, .int b], .non, .tup [.int 0, .int 1]]) (ms.drop (i + 2 + 1)) rfl
    rw [show ms.length - (ms.drop (i + 2 + 1)).length = i + 2 + 1 by omega] at q
    walk_at "D"
    exact fin_dat rfl q
  · have c : ¬ k = 0 := of_decide_eq_false c
    have c1 : k = 1 := by omega
    subst c1
    walk_at "D"
    refine we_meth ?_
    walk_at "D"
    refine ⟨_, _, .cel rfl, rfl, ?_⟩
    walk_at "D"
    have no : ms.length < i + 2 + 1 + 4 → F.ex T.c_NoBody := fun z => qx (by
      show (if (ms.drop (i + 2 + 1)).length < 4 then none else _) = none
      rw [if_pos (by omega)])
    refine wsp1X (j := 0) rfl rfl rfl ⟨ms, i + 2 + 1, 2, rfl, rfl, h3, hl, by decide, fun z => no (by omega), fun h4 => ⟨numC T.c_Numbers ms (i + 2 + 1 + 2), rfl, rfl, ?_⟩⟩
    walk_at "D"
    refine we_meth ?_
    walk_at "D"
    refine ⟨_, _, .cel rfl, rfl, ?_⟩
    walk_at "D"
    refine wsp1X (j := 0) rfl rfl rfl ⟨ms, i + 2 + 1 + 2, 2, rfl, rfl, h4, hl, by decide, fun z => no (by omega), fun h5 => ⟨numC T.c_Numbers ms (i + 2 + 1 + 2 + 2), rfl, rfl, ?_⟩⟩
    have q := q (.tup [.tup [.int a, .int b], .tup (((ms.drop (i + 2 + 1)).take 2).map D.int), .tup ((((ms.drop (i + 2 + 1)).drop 2).take 2).map D.int)]) ((ms.drop (i + 2 + 1)).drop 4) (by
      show (if (ms.drop (i + 2 + 1)).length < 4 then none else _) = _
      rw [if_neg (by omega)])
    rw [show ms.length - ((ms.drop (i + 2 + 1)).drop 4).length = i + 2 + 1 + 2 + 2 by rw [List.length_drop]; omega, List.drop_drop] at q
    walk_at "D"
    exact fin_dat rfl q
/-! so many edits, a lane -/
def rdEdits : List Int → Option (List D × List Int)
  | m :: r => rdMany rdEdit m.toNat r
  | [] => none
theorem rdMany_facts {f : List Int → Option (D × List Int)} (hf : ∀ l d r, f l = some (d, r) → (∃ n, r = l.drop n ∧ 1 ≤ n ∧ n ≤ l.length) ∧ pl d = true) : ∀ (n : Nat) (l : List Int) (ds : List D) (r : List Int), rdMany f n l = some (ds, r) → (∃ n, r = l.drop n ∧ n ≤ l.length) ∧ pls ds = true
  | 0, l, ds, r, h => by cases h; exact ⟨⟨0, rfl, Nat.zero_le _⟩, rfl⟩
  | n + 1, l, ds, r, h => by
    rw [rdMany] at h
    cases he : f l with
    | none => rw [he] at h; cases h
    | some x =>
      obtain ⟨d, r2⟩ := x
      rw [he] at h
      have h : (rdMany f n r2).map (fun x => (d :: x.1, x.2)) = some (ds, r) := h
      cases hm : rdMany f n r2 with
      | none => rw [hm] at h; cases h
      | some y =>
        obtain ⟨ds2, r3⟩ := y
        rw [hm] at h
        cases h
        obtain ⟨⟨a, ea, a1, a2⟩, p1⟩ := hf l d r2 he
        obtain ⟨⟨b, eb, b1⟩, p2⟩ := rdMany_facts hf n r2 ds2 _ hm
        rw [ea, List.length_drop] at b1
        exact ⟨⟨a + b, by rw [eb, ea, List.drop_drop], by omega⟩, by rw [pls, p1, p2]; rfl⟩
theorem rdMany_more {f : List Int → Option (D × List Int)} (hf : ∀ l t d r, f l = some (d, r) → f (l ++ t) = some (d, r ++ t)) : ∀ (n : Nat) (l t : List Int) (ds : List D) (r : List Int), rdMany f n l = some (ds, r) → rdMany f n (l ++ t) = some (ds, r ++ t)
  | 0, l, t, ds, r, h => by cases h; rfl
  | n + 1, l, t, ds, r, h => by
    rw [rdMany] at h ⊢
    cases he : f l with
    | none => rw [he] at h; cases h
    | some x =>
      obtain ⟨d, r2⟩ := x
      rw [he] at h
      have h : (rdMany f n r2).map (fun x => (d :: x.1, x.2)) = some (ds, r) := h
      cases hm : rdMany f n r2 with
      | none => rw [hm] at h; cases h
      | some y =>
        obtain ⟨ds2, r3⟩ := y
        rw [hm] at h
        cases h
        rw [hf l t d r2 he]
        show (rdMany f n (r2 ++ t)).map (fun x => (d :: x.1, x.2)) = _
        rw [rdMany_more hf n r2 t ds2 _ hm]
        rfl
def wTakenEdits (C CN : Addr) : PW0 := fun xs cs post exc => ∃ (ms : List Int) (i : Nat), xs = [.cel 0] ∧ cs = [numC CN ms i] ∧ i ≤ ms.length ∧ ms.length ≤ 100000 ∧ (∀ m ∈ ms, 0 ≤ m) ∧ (∀ m r, ms.drop i = m :: r → m < 4611686018427387904) ∧ (rdEdits (ms.drop i) = none → exc C) ∧ ∀ ds r, rdEdits (ms.drop i) = some (ds, r) → post (.new ds) [numC CN ms (ms.length - r.length)]
theorem ok_taken_edits (T : Txt K mg) : FnOk P w K mg base (L2.CX P w) 4 T.a_taken_edits T.d_taken_edits ["numbers"] (spG K (wTakenEdits T.c_NoBody T.c_Numbers)) := by
  refine T.F_taken_edits.okX sc_taken_edits (fun vs H Q E h => spG_len h fun xs cs post exc ⟨a, b, e, _⟩ => by rw [e]; rfl) (fun cdv A outer s H vs Q E hr h => ⟨_, (pss_cons (ps_set (i := 1) sc_taken_edits.nd rfl (Or.inl rfl) (pe_meth0 (pv 0) T.cl_Numbers T.mt_Numbers_one (ok_Numbers_one T) (hr.mono (by decide)) T.b_Numbers_one .nil (passes_call (takes_of rfl rfl rfl rfl) (fun _ _ _ _ h => h))))
      (pss_one (ps_ret (pe_lcX (own := [("place", 2)]) (g := gName 2) (tt := tYes) rfl rfl (takes_of rfl rfl rfl rfl) (by rfl) sc_taken_edits.nd (pi_range1 (by rfl) T.m_range (pa_cons (pv 1) pa_nil)) (blkOk_by (own := [("place", 2)]) (N := N_taken_edits) (sc := defScope s_taken_edits) (by decide +kernel)) (fun _ _ _ _ _ _ => (pg_name (i := 2) sc_taken_edits.nd rfl (Or.inl rfl))) (fun _ _ _ _ _ _ => pts_nil) (fun _ _ _ _ _ _ hqX => (pe_call (ok_taken_edit T) (hr.mono (by decide)) (by rfl) T.g_taken_edit T.F_taken_edit.kp T.b_taken_edit .nil (hqX) (pa_cons (pv 0) pa_nil))))))), enter h fun F xs cs post hE hw => ?_⟩)
  subst hE
  obtain ⟨ms, i, rfl, rfl, hi, hl, h0, hc, qx, q⟩ := hw
  walk_at "D"
  refine we_meth ?_
  walk_at "D"
  refine ⟨_, _, .cel rfl, rfl, ?_⟩
  walk_at "D"
  refine wsp1X (j := 0) rfl rfl rfl ⟨ms, i, rfl, rfl, hi, hl, fun z => qx (by rw [z, List.drop_length]; rfl), fun h => ⟨numC T.c_Numbers ms (i + 1), rfl, rfl, ?_⟩⟩
  have m0 := h0 ms[i] (List.getElem_mem h)
  have m1 := hc ms[i] _ (drop_at h)
  rw [drop_at h] at qx q
  generalize ms[i] = m at *
  obtain ⟨m, rfl⟩ : ∃ n : Nat, m = n := ⟨m.toNat, by omega⟩
  walk_at "D"
  refine ⟨⟨by omega, by omega⟩, ?_⟩
  rw [show ((m : Int)).toNat = m by omega]
  have ql : rdEdits ((m : Int) :: ms.drop (i + 1)) = rdMany rdEdit m (ms.drop (i + 1)) := rfl
  rw [ql] at qx q
  refine loopC_rng (fun t ρ => ∃ (ds : List D) (j : Nat), ρ = ⟨[some (.cel 0), some (.dat (.int (m : Int))), none], [numC T.c_Numbers ms j, .lst ds]⟩ ∧ j ≤ ms.length ∧ ds.length = t ∧ t ≤ j ∧ t ≤ m ∧ rdMany rdEdit m (ms.drop (i + 1)) = (rdMany rdEdit (m - t) (ms.drop j)).map fun x => (ds ++ x.1, x.2)) ⟨[], i + 1, rfl, h, rfl, Nat.zero_le _, Nat.zero_le _, by rw [Nat.sub_zero]; cases rdMany rdEdit m (ms.drop (i + 1)) <;> rfl⟩ ?_ ?_
  · rintro ρ ⟨ds, j, rfl, hj, hd, _, _, hr⟩
    refine ⟨trivial, ?_⟩
    rw [Nat.sub_self] at hr
    have hr : rdMany rdEdit m (ms.drop (i + 1)) = some (ds ++ [], ms.drop j) := hr
    rw [List.append_nil] at hr
    have q := q _ _ hr
    rw [show ms.length - (ms.drop j).length = j by rw [List.length_drop]; omega] at q
    exact ⟨_, .cel (j := 1) (Nat.le_refl 1) rfl, rfl, q⟩
  · rintro t ρ hlt ⟨ds, j, rfl, hj, hd, htj, htm, hr⟩
    refine ⟨trivial, ?_⟩
    rw [show m - t = (m - (t + 1)) + 1 by omega] at hr
    walk_at "D"
    refine wsp1X (j := 0) rfl rfl rfl ⟨ms, j, rfl, rfl, hj, hl, h0, fun z => qx ?_, fun d r hdr => ⟨numC T.c_Numbers ms (ms.length - r.length), rfl, rfl, ?_⟩⟩
    · have : rdMany rdEdit ((m - (t + 1)) + 1) (ms.drop j) = none := by rw [rdMany, z]
      rw [hr, this]
      rfl
    obtain ⟨⟨n, en, n1, n2⟩, _⟩ := rdEdit_suf hdr
    rw [List.length_drop] at n2
    have er : ms.drop (ms.length - r.length) = r := by
      rw [en, List.drop_drop, List.length_drop]
      congr 1
      omega
    have lr : r.length = ms.length - (j + n) := by rw [en, List.drop_drop, List.length_drop]
    walk_at "D"
    · omega
    refine now ⟨ds ++ [d], ms.length - r.length, rfl, by omega, by rw [List.length_append, hd]; rfl, by omega, by omega, ?_⟩
    rw [hr, rdMany, hdr, er]
    show ((rdMany rdEdit (m - (t + 1)) r).map _).map _ = _
    cases rdMany rdEdit (m - (t + 1)) r with
    | none => rfl
    | some x => show some (ds ++ d :: x.1, x.2) = some ((ds ++ [d]) ++ x.1, x.2); rw [List.append_assoc]; rfl
def rdLane : List Int → Option (D × List Int)
  | a :: b :: r => (rdEdits r).map fun x => (.tup [.int a, .int b, .lst x.1], x.2)
  | _ => none
def okL (l : List Int) : Prop := ∀ a b m r, l = a :: b :: m :: r → m < 4611686018427387904
theorem rdLane_facts (l : List Int) (d : D) (r : List Int) (h : rdLane l = some (d, r)) : (∃ n, r = l.drop n ∧ 1 ≤ n ∧ n ≤ l.length) ∧ pl d = true := by
  match l, h with
  | a :: b :: m :: t, h =>
    have h : (rdMany rdEdit m.toNat t).map (fun x => (D.tup [.int a, .int b, .lst x.1], x.2)) = some (d, r) := h
    cases hm : rdMany rdEdit m.toNat t with
    | none => rw [hm] at h; cases h
    | some x =>
      obtain ⟨ds, r2⟩ := x
      rw [hm] at h
      cases h
      obtain ⟨⟨n, en, nl⟩, p⟩ := rdMany_facts (fun l d r h => rdEdit_suf h) _ _ _ _ hm
      refine ⟨⟨3 + n, by rw [← List.drop_drop]; exact en, by omega, by simp only [List.length_cons]; omega⟩, ?_⟩
      show (true && (true && (pl (.lst ds) && true))) = true
      rw [pl, p]
      rfl
  | [a, b], h => cases h
  | [a], h => cases h
  | [], h => cases h
def wTakenLane (C CN : Addr) : PW0 := fun xs cs post exc => ∃ (ms : List Int) (i : Nat), xs = [.cel 0] ∧ cs = [numC CN ms i] ∧ i ≤ ms.length ∧ ms.length ≤ 100000 ∧ (∀ m ∈ ms, 0 ≤ m) ∧ okL (ms.drop i) ∧ (rdLane (ms.drop i) = none → exc C) ∧ ∀ d r, rdLane (ms.drop i) = some (d, r) → post (.dat d) [numC CN ms (ms.length - r.length)]
theorem ok_taken_head_lane (T : Txt K mg) : FnOk P w K mg base (L2.CX P w) 5 T.a_taken_head_lane T.d_taken_head_lane ["numbers"] (spG K (wTakenLane T.c_NoBody T.c_Numbers)) := by
  refine T.F_taken_head_lane.okX sc_taken_head_lane (fun vs H Q E h => spG_len h fun xs cs post exc ⟨a, b, e, _⟩ => by rw [e]; rfl) (fun cdv A outer s H vs Q E hr h => ⟨_, (pss_cons (ps_asg (pe_meth (pv 0) T.cl_Numbers T.mt_Numbers_some (ok_Numbers_some T) (hr.mono (by decide)) T.b_Numbers_some .nil (passes_call (takes_of rfl rfl rfl rfl) (fun _ _ _ _ h => h)) (pa_cons pe_int pa_nil)) (pg_tup rfl (pgs_cons (pg_name (i := 1) sc_taken_head_lane.nd rfl (Or.inl rfl)) (pgs_cons (pg_name (i := 2) sc_taken_head_lane.nd rfl (Or.inl rfl)) pgs_nil))))
      (pss_one (ps_ret (pe_tup (pa_cons (pv 1) (pa_cons (pv 2) (pa_cons (pe_call (ok_taken_edits T) (hr.mono (by decide)) (by rfl) T.g_taken_edits T.F_taken_edits.kp T.b_taken_edits .nil (passes_call (takes_of rfl rfl rfl rfl) (fun _ _ _ _ h => h)) (pa_cons (pv 0) pa_nil)) pa_nil))))))), enter h fun F xs cs post hE hw => ?_⟩)
  subst hE
  obtain ⟨ms, i, rfl, rfl, hi, hl, h0, hc, qx, q⟩ := hw
  have l0 : (ms.drop i).length = ms.length - i := List.length_drop
  walk_at "D"
  refine we_meth ?_
  walk_at "D"
  refine ⟨_, _, .cel rfl, rfl, ?_⟩
  walk_at "D"
  refine wsp1X (j := 0) rfl rfl rfl ⟨ms, i, 2, rfl, rfl, hi, hl, by decide, fun z => qx ?_, fun h2 => ⟨numC T.c_Numbers ms (i + 2), rfl, rfl, ?_⟩⟩
  · generalize ms.drop i = l at l0
    match l, l0 with
    | _ :: _ :: r, l0 => simp only [List.length_cons] at l0; omega
    | [], _ => rfl
    | [_], _ => rfl
  obtain ⟨a, b, hab⟩ : ∃ a b, ms.drop i = a :: b :: ms.drop (i + 2) := ⟨ms[i], ms[i + 1], by rw [drop_at (show i < ms.length by omega), drop_at (show i + 1 < ms.length by omega)]⟩
  rw [hab] at qx q hc ⊢
  walk_at "D"
  rw [show (List.map AV.dat (List.map D.int (List.take 2 (a :: b :: ms.drop (i + 2))))) = [.dat (.int a), .dat (.int b)] from rfl]
  walk_at "D"
  refine wsp1X (j := 0) rfl rfl rfl ⟨ms, i + 2, rfl, rfl, h2, hl, h0, fun m r e => hc a b m r (by rw [e]), fun z => qx ?_, fun ds r hdr => ⟨numC T.c_Numbers ms (ms.length - r.length), rfl, rfl, ?_⟩⟩
  · show (rdEdits (ms.drop (i + 2))).map _ = none
    rw [z]
    rfl
  have q := q (.tup [.int a, .int b, .lst ds]) r (by
    show (rdEdits (ms.drop (i + 2))).map _ = _
    rw [hdr]
    rfl)
  walk_at "D"
  exact fin_dat rfl q
/-! a head -/
def okLs : Nat → List Int → Prop
  | 0, _ => True
  | n + 1, l => okL l ∧ ∀ d r, rdLane l = some (d, r) → okLs n r
def rdHd : List Int → Option (Int × Int × List D)
  | s :: v :: m :: r => match rdMany rdLane m.toNat r with
    | some (ds, []) => if isHd (.tup [.int s, .int v, .lst ds]) = true then some (s, v, ds) else none
    | _ => none
  | _ => none
def okHd (ms : List Int) : Prop := ∀ a b m r, ms = a :: b :: m :: r → m < 4611686018427387904 ∧ okLs m.toNat r
def wReadHd (C : Addr) : PW0 := fun xs cs post exc => ∃ d, xs = [.dat d] ∧ cs = [] ∧ pl d = true ∧ lnR d ≤ 100000 ∧ (isRw d = false → exc C) ∧ ∀ ns : List Int, d = .lst (ns.map D.int) → Byts ns → (parseN ns = none → exc C) ∧ ∀ ms, parseN ns = some ms →
  (∀ m ∈ ms, 0 ≤ m) ∧ okHd ms ∧ (rdHd ms = none → exc C) ∧ ∀ s v ds, rdHd ms = some (s, v, ds) → post (.dat (.tup [.int s, .int v, .lst ds])) []
theorem ok_read_head (T : Txt K mg) : FnOk P w K mg base (L2.CX P w) 9 T.a_read_head T.d_read_head ["body"] (spG K (wReadHd T.c_NoBody)) := by
  refine T.F_read_head.okX sc_read_head (fun vs H Q E h => spG_len h fun xs cs post exc ⟨a, e, _⟩ => by rw [e]; rfl) (fun cdv A outer s H vs Q E hr h => ⟨_, (pss_cons (ps_set (i := 1) sc_read_head.nd rfl (Or.inr rfl) (pe_make T.mk_Numbers (ok_Numbers_init T) (hr.mono (by decide)) (by rfl) T.g_Numbers T.b_Numbers_init .nil (passes_call (takes_of rfl rfl rfl rfl) (fun _ _ _ _ h => h)) (pa_cons (pv 0) pa_nil)))
      (pss_cons (ps_asg (pe_meth (pv 1) T.cl_Numbers T.mt_Numbers_some (ok_Numbers_some T) (hr.mono (by decide)) T.b_Numbers_some .nil (passes_call (takes_of rfl rfl rfl rfl) (fun _ _ _ _ h => h)) (pa_cons pe_int pa_nil)) (pg_tup rfl (pgs_cons (pg_name (i := 2) sc_read_head.nd rfl (Or.inl rfl)) (pgs_cons (pg_name (i := 3) sc_read_head.nd rfl (Or.inl rfl)) (pgs_cons (pg_name (i := 4) sc_read_head.nd rfl (Or.inl rfl)) pgs_nil)))))
      (pss_cons (ps_set (i := 5) sc_read_head.nd rfl (Or.inl rfl) (pe_tup (pa_cons (pv 2) (pa_cons (pv 3) (pa_cons (pe_lcX (own := [("place", 6)]) (g := gName 6) (tt := tYes) rfl rfl (takes_of rfl rfl rfl rfl) (by rfl) sc_read_head.nd (pi_range1 (by rfl) T.m_range (pa_cons (pv 4) pa_nil)) (blkOk_by (own := [("place", 6)]) (N := N_read_head) (sc := defScope s_read_head) (by decide +kernel)) (fun _ _ _ _ _ _ => (pg_name (i := 6) sc_read_head.nd rfl (Or.inl rfl))) (fun _ _ _ _ _ _ => pts_nil) (fun _ _ _ _ _ _ hqX => (pe_call (ok_taken_head_lane T) (hr.mono (by decide)) (by rfl) T.g_taken_head_lane T.F_taken_head_lane.kp T.b_taken_head_lane .nil (hqX) (pa_cons (pv 1) pa_nil)))) pa_nil)))))
      (pss_cons (ps_if (PW.pt (pw_or (pt_not (pt_val (pe_meth0 (pv 1) T.cl_Numbers T.mt_Numbers_is_over (ok_Numbers_is_over T) (hr.mono (by decide)) T.b_Numbers_is_over .nil pass0))) (pw_or1 (pt_not (pt_val (pe_call (ok_is_head T) (hr.mono (by decide)) (by rfl) T.g_is_head T.F_is_head.kp T.b_is_head .nil pass0 (pa_cons (pv 5) pa_nil))))))) (pss_one (ps_raise rfl (takes_of rfl rfl rfl rfl) (pmk_own PySem.F.excBase_ValueError T.x_NoBody T.g_NoBody T.k_NoBody (raises_own T.bb_NoBody T.t_NoBody) rfl))) pss_nil)
      (pss_one (ps_ret (pv 5))))))), enter h fun F xs cs post hE hw => ?_⟩)
  subst hE
  obtain ⟨d, rfl, rfl, hp, hln, qx, hq⟩ := hw
  walk_at "D"
  refine we_make ?_
  walk_at "D"
  refine ⟨_, _, by walk_at "fz", ?_⟩
  refine wsp1X (j := 0) rfl rfl rfl ⟨d, rfl, rfl, hp, hln, qx, fun ns e hb => ⟨(hq ns e hb).1, fun ms hm => ⟨numC T.c_Numbers ms 0, rfl, rfl, rfl, ?_⟩⟩⟩
  obtain ⟨h0, hok, hx, hgood⟩ := (hq ns e hb).2 ms hm
  have hml : ms.length ≤ 100000 := by
    have := parse_len hm
    have e2 : lnR d = (ns.length : Int) := by rw [e]; show ((ns.map D.int).length : Int) = _; rw [List.length_map]
    omega
  walk_at "D"
  refine we_meth ?_
  walk_at "D"
  refine ⟨_, _, .cel rfl, rfl, ?_⟩
  walk_at "D"
  refine wsp1X (j := 0) rfl rfl rfl ⟨ms, 0, 3, rfl, rfl, Nat.zero_le _, hml, by decide, fun z => hx ?_, fun h2 => ⟨numC T.c_Numbers ms 3, rfl, rfl, ?_⟩⟩
  · match ms, z with
    | [], _ => rfl
    | [_], _ => rfl
    | [_, _], _ => rfl
    | _ :: _ :: _ :: r, z => simp only [List.length_cons] at z; omega
  match ms, h2 with
  | a :: b :: m :: r, h2 =>
  have hm0 := h0 m (by simp)
  obtain ⟨hm1, hls⟩ := hok a b m r rfl
  obtain ⟨n, rfl⟩ : ∃ n : Nat, m = n := ⟨m.toNat, by omega⟩
  rw [show ((n : Int)).toNat = n by omega] at hls
  have rd : rdHd (a :: b :: (n : Int) :: r) = match rdMany rdLane n r with
    | some (ds, []) => if isHd (.tup [.int a, .int b, .lst ds]) = true then some (a, b, ds) else none
    | _ => none := rfl
  walk_at "D"
  rw [show (List.map AV.dat (List.map D.int (List.take 3 (List.drop 0 (a :: b :: (n : Int) :: r))))) = [.dat (.int a), .dat (.int b), .dat (.int n)] from rfl]
  walk_at "D"
  refine ⟨⟨by omega, by omega⟩, ?_⟩
  rw [show ((n : Int)).toNat = n by omega]
  refine loopC_rng (fun t ρ => ∃ (ds : List D) (j : Nat), ρ = ⟨[some (.dat d), some (.cel 0), some (.dat (.int a)), some (.dat (.int b)), some (.dat (.int (n : Int))), none, none], [numC T.c_Numbers (a :: b :: (n : Int) :: r) j, .lst ds]⟩ ∧ j ≤ r.length + 3 ∧ ds.length = t ∧ t ≤ j ∧ t ≤ n ∧ okLs (n - t) ((a :: b :: (n : Int) :: r).drop j) ∧ rdMany rdLane n r = (rdMany rdLane (n - t) ((a :: b :: (n : Int) :: r).drop j)).map fun x => (ds ++ x.1, x.2)) ⟨[], 3, rfl, by omega, rfl, Nat.zero_le _, Nat.zero_le _, by rw [Nat.sub_zero]; exact hls, by rw [Nat.sub_zero]; show rdMany rdLane n r = (rdMany rdLane n r).map _; cases rdMany rdLane n r <;> rfl⟩ ?_ ?_
  · rintro ρ ⟨ds, j, rfl, hj, hd, _, _, _, hr⟩
    refine ⟨trivial, ?_⟩
    have lL : (a :: b :: (n : Int) :: r).length = r.length + 3 := by simp only [List.length_cons]
    rw [Nat.sub_self] at hr
    have hr : rdMany rdLane n r = some (ds ++ [], (a :: b :: (n : Int) :: r).drop j) := hr
    rw [List.append_nil] at hr
    rw [hr] at rd
    have pds := (rdMany_facts rdLane_facts _ _ _ _ hr).2
    walk_at "D"
    refine we_meth ?_
    walk_at "D"
    refine ⟨_, _, .cel rfl, rfl, ?_⟩
    walk_at "D"
    refine wsp1 (j := 0) rfl rfl rfl ⟨_, j, rfl, rfl, numC T.c_Numbers (a :: b :: (n : Int) :: r) j, rfl, rfl, ?_⟩
    cases hov : decide (j = (a :: b :: (n : Int) :: r).length) with
    | false =>
      have hov := of_decide_eq_false hov
      walk_at "D"
      refine ws_exc fun as σ H G D en => F.hE _ H (hx ?_) en.fh
      rw [rd]
      cases hl : (a :: b :: (n : Int) :: r).drop j with
      | nil =>
        have := congrArg List.length hl
        rw [List.length_drop] at this
        simp only [List.length_nil] at this
        omega
      | cons => rfl
    | true =>
      have hov := of_decide_eq_true hov
      have hl : (a :: b :: (n : Int) :: r).drop j = [] := List.drop_of_length_le (by omega)
      rw [hl] at rd
      have i1 : ∀ x : Int, pl (.int x) = true := fun _ => rfl
      walk_at "D"
      walk_at "c"
      refine ⟨_, rfl, rfl, by rw [pl, pls, pls, pls, i1, i1, pl, pds, pls]; rfl, ?_⟩
      refine aft_hard rfl ?_
      cases hi : isHd (.tup [.int a, .int b, .lst ds]) with
      | false =>
        walk_at "D"
        refine ws_exc fun as σ H G D en => F.hE _ H (hx ?_) en.fh
        rw [rd]
        exact if_neg (by rw [hi]; decide)
      | true =>
        walk_at "D"
        have q := hgood a b ds (by rw [rd]; exact if_pos hi)
        exact fin_dat rfl q
  · rintro t ρ hlt ⟨ds, j, rfl, hj, hd, htj, htm, hls, hr⟩
    refine ⟨trivial, ?_⟩
    rw [show n - t = (n - (t + 1)) + 1 by omega] at hr hls
    obtain ⟨hl1, hl2⟩ := hls
    walk_at "D"
    refine wsp1X (j := 0) rfl rfl rfl ⟨_, j, rfl, rfl, by simp only [List.length_cons]; omega, hml, h0, hl1, fun z => hx ?_, fun d2 r2 hdr => ⟨numC T.c_Numbers (a :: b :: (n : Int) :: r) ((a :: b :: (n : Int) :: r).length - r2.length), rfl, rfl, ?_⟩⟩
    · have e3 : rdMany rdLane ((n - (t + 1)) + 1) ((a :: b :: (n : Int) :: r).drop j) = none := by rw [rdMany, z]
      rw [rd, hr, e3]
      rfl
    have lL : (a :: b :: (n : Int) :: r).length = r.length + 3 := by simp only [List.length_cons]
    obtain ⟨⟨k, en, n1, n2⟩, _⟩ := rdLane_facts _ _ _ hdr
    rw [List.length_drop] at n2
    have er : (a :: b :: (n : Int) :: r).drop ((a :: b :: (n : Int) :: r).length - r2.length) = r2 := by
      rw [en, List.drop_drop, List.length_drop]
      congr 1
      omega
    have lr : r2.length = (a :: b :: (n : Int) :: r).length - (j + k) := by rw [en, List.drop_drop, List.length_drop]
    walk_at "D"
    · omega
    refine now ⟨ds ++ [d2], (a :: b :: (n : Int) :: r).length - r2.length, rfl, by omega, by rw [List.length_append, hd]; rfl, by omega, by omega, by rw [er]; exact hl2 _ _ hdr, ?_⟩
    rw [hr, rdMany, hdr, er]
    show ((rdMany rdLane (n - (t + 1)) r2).map _).map _ = _
    cases rdMany rdLane (n - (t + 1)) r2 with
    | none => rfl
    | some x => show some (ds ++ d2 :: x.1, x.2) = some ((ds ++ [d2]) ++ x.1, x.2); rw [List.append_assoc]; rfl
end

section
variable {P : Program} {w : World} {K : PySem.W.Frag} {mg : Str → Option Value} {base : Heap}
/-! ### a head, its numbers, its body -/
structure Hl where
  u : Int
  c : Int
  es : List Ed
def Hl.told (x : Hl) : D := .tup [.int x.u, .int x.c, .lst (x.es.map eD)]
def EdS (e : Ed) : Prop := e.ok ∧ isSmD (eD e) = true
def Hl.ok (x : Hl) : Prop := (1 ≤ x.u ∧ x.u ≤ 1000000) ∧ (0 ≤ x.c ∧ x.c ≤ 200) ∧ x.es.length ≤ 60 ∧ ∀ e ∈ x.es, EdS e
def hlN (x : Hl) : List Int := x.u :: x.c :: esN x.es
def hdD (s v : Int) (ls : List Hl) : D := .tup [.int s, .int v, .lst (ls.map Hl.told)]
def hdN (s v : Int) (ls : List Hl) : List Int := s :: v :: (ls.length : Int) :: (ls.map hlN).flatten
def HdOk (s v : Int) (ls : List Hl) : Prop := (0 ≤ s ∧ s ≤ 1000000000) ∧ (1 ≤ v ∧ v ≤ 16) ∧ (1 ≤ ls.length ∧ ls.length ≤ 8) ∧ ∀ x ∈ ls, x.ok
theorem isLnE_of {d : D} (h : isLnE d = true) : ∃ es : List Ed, d = .lst (es.map eD) ∧ es.length ≤ 60 ∧ ∀ e ∈ es, EdS e := by
  match d, h with
  | .lst ds, h =>
    have h : (isLs 0 60 (.lst ds) && (isEds (.lst ds) && ds.all isSmD)) = true := h
    rw [Bool.and_eq_true, Bool.and_eq_true] at h
    obtain ⟨h1, h2, h3⟩ := h
    obtain ⟨es, ok, e⟩ := isEds_of h2
    have e : ds = es.map eD := D.lst.inj e
    subst e
    have h1 : (decide (0 ≤ (es.map eD).length) && decide ((es.map eD).length ≤ 60)) = true := h1
    rw [Bool.and_eq_true, decide_eq_true_eq, decide_eq_true_eq, List.length_map] at h1
    exact ⟨es, rfl, h1.2, fun e he => ⟨ok e he, List.all_eq_true.mp h3 _ (List.mem_map_of_mem he)⟩⟩
theorem isLnE_mk {es : List Ed} (hl : es.length ≤ 60) (h : ∀ e ∈ es, EdS e) : isLnE (.lst (es.map eD)) = true := by
  show (isLs 0 60 (.lst (es.map eD)) && (isEds (.lst (es.map eD)) && (es.map eD).all isSmD)) = true
  rw [Bool.and_eq_true, Bool.and_eq_true]
  refine ⟨?_, ?_, ?_⟩
  · show (decide (0 ≤ (es.map eD).length) && decide ((es.map eD).length ≤ 60)) = true
    rw [List.length_map, decide_eq_true hl, decide_eq_true (Nat.zero_le _)]
    rfl
  · show (es.map eD).all isEd = true
    refine List.all_eq_true.mpr fun d hd => ?_
    obtain ⟨e, he, rfl⟩ := List.mem_map.mp hd
    exact isEd_eD (h e he).1
  · refine List.all_eq_true.mpr fun d hd => ?_
    obtain ⟨e, he, rfl⟩ := List.mem_map.mp hd
    exact (h e he).2
theorem isHl_of {d : D} (h : isHl d = true) : ∃ x : Hl, d = x.told ∧ x.ok := by
  match d, h with
  | .tup [a, b, c], h =>
    have h : (inR 1 1000000 a && (inR 0 200 b && isLnE c)) = true := h
    rw [Bool.and_eq_true, Bool.and_eq_true] at h
    obtain ⟨h1, h2, h3⟩ := h
    obtain ⟨u, rfl, u0, u1⟩ := inR_of h1
    obtain ⟨k, rfl, k0, k1⟩ := inR_of h2
    obtain ⟨es, rfl, l, ok⟩ := isLnE_of h3
    exact ⟨⟨u, k, es⟩, rfl, ⟨u0, u1⟩, ⟨k0, k1⟩, l, ok⟩
theorem isHl_told {x : Hl} (h : x.ok) : isHl x.told = true := by
  obtain ⟨⟨u0, u1⟩, ⟨c0, c1⟩, l, ok⟩ := h
  show (inR 1 1000000 (.int x.u) && (inR 0 200 (.int x.c) && isLnE (.lst (x.es.map eD)))) = true
  rw [inR_int u0 u1, inR_int c0 c1, isLnE_mk l ok]
  rfl
theorem all_hls : ∀ {ds : List D}, ds.all isHl = true → ∃ ls : List Hl, ds = ls.map Hl.told ∧ ∀ l ∈ ls, l.ok
  | [], _ => ⟨[], rfl, fun _ m => nomatch m⟩
  | d :: ds, h => by
    rw [List.all_cons, Bool.and_eq_true] at h
    obtain ⟨r, rfl, hr⟩ := isHl_of h.1
    obtain ⟨rs, rfl, hv⟩ := all_hls h.2
    refine ⟨r :: rs, rfl, fun v m => ?_⟩
    rcases List.mem_cons.mp m with rfl | m
    · exact hr
    · exact hv v m
theorem isHd_of {d : D} (h : isHd d = true) : ∃ s v ls, d = hdD s v ls ∧ HdOk s v ls := by
  match d, h with
  | .tup [a, b, .lst es], h =>
    have h : (inR 0 1000000000 a && (inR 1 16 b && (isLs 1 8 (.lst es) && es.all isHl))) = true := h
    rw [Bool.and_eq_true, Bool.and_eq_true, Bool.and_eq_true] at h
    obtain ⟨h1, h2, h4, h5⟩ := h
    obtain ⟨s, rfl, s0, s1⟩ := inR_of h1
    obtain ⟨v, rfl, v0, v1⟩ := inR_of h2
    obtain ⟨ls, rfl, ok⟩ := all_hls h5
    have h4 : (decide (1 ≤ (ls.map Hl.told).length) && decide ((ls.map Hl.told).length ≤ 8)) = true := h4
    rw [Bool.and_eq_true, decide_eq_true_eq, decide_eq_true_eq, List.length_map] at h4
    exact ⟨s, v, ls, rfl, ⟨s0, s1⟩, ⟨v0, v1⟩, h4, ok⟩
theorem isHd_mk {s v : Int} {ls : List Hl} (h : HdOk s v ls) : isHd (hdD s v ls) = true := by
  obtain ⟨⟨s0, s1⟩, ⟨v0, v1⟩, ⟨n0, n1⟩, ok⟩ := h
  show (inR 0 1000000000 (.int s) && (inR 1 16 (.int v) && (isLs 1 8 (.lst (ls.map Hl.told)) && (ls.map Hl.told).all isHl))) = true
  rw [inR_int s0 s1, inR_int v0 v1, Bool.true_and, Bool.true_and, Bool.and_eq_true]
  refine ⟨?_, List.all_eq_true.mpr fun d hd => ?_⟩
  · show (decide (1 ≤ (ls.map Hl.told).length) && decide ((ls.map Hl.told).length ≤ 8)) = true
    rw [List.length_map, decide_eq_true n0, decide_eq_true n1]
    rfl
  · obtain ⟨r, h, rfl⟩ := List.mem_map.mp hd
    exact isHl_told (ok r h)
theorem Hl.told_inj {x y : Hl} (h : x.told = y.told) : x = y := by
  obtain ⟨a, b, c⟩ := x
  obtain ⟨a2, b2, c2⟩ := y
  simp only [Hl.told, D.tup.injEq, List.cons.injEq, D.int.injEq, D.lst.injEq, and_true] at h
  obtain ⟨rfl, rfl, h3⟩ := h
  rw [eDs_inj.mp h3]
theorem hls_inj {a b : List Hl} (h : a.map Hl.told = b.map Hl.told) : a = b := (List.map_inj_right (fun _ _ e => Hl.told_inj e)).mp h
theorem hdD_inj {s v s2 v2 : Int} {ls ls2 : List Hl} (h : hdD s v ls = hdD s2 v2 ls2) : s = s2 ∧ v = v2 ∧ ls = ls2 := by
  simp only [hdD, D.tup.injEq, List.cons.injEq, D.int.injEq, D.lst.injEq, and_true] at h
  exact ⟨h.1, h.2.1, hls_inj h.2.2⟩
theorem Hl.pl_told (x : Hl) : pl x.told = true := by
  show (true && (true && (pl (.lst (x.es.map eD)) && true))) = true
  rw [pl, pls_eD]
  rfl
theorem pls_hls (ls : List Hl) : pls (ls.map Hl.told) = true := by
  induction ls with
  | nil => rfl
  | cons r rs ih => show (pl r.told && pls (rs.map Hl.told)) = true; rw [r.pl_told, ih]; rfl
theorem pl_hdD (s v : Int) (ls : List Hl) : pl (hdD s v ls) = true := by
  show (true && (true && (pl (.lst (ls.map Hl.told)) && true))) = true
  rw [pl, pls_hls]
  rfl
theorem cap_fD {q : Rat} (h : capD (fD q) = true) (h0 : 0 ≤ q) : (0 ≤ q.num ∧ q.num ≤ 1000000000000000000000000000000) ∧ 1 ≤ (q.den : Int) ∧ (q.den : Int) ≤ 1000000000000000000000000000000 := by
  have h : (decide (q.num ≤ 1000000000000000000000000000000) && decide ((q.den : Int) ≤ 1000000000000000000000000000000)) = true := h
  rw [Bool.and_eq_true, decide_eq_true_eq, decide_eq_true_eq] at h
  have := q.den_pos
  exact ⟨⟨num_nonneg.mpr h0, h.1⟩, by omega, h.2⟩
theorem edN_ok {e : Ed} (h : EdS e) : ∀ n ∈ edN e, 0 ≤ n ∧ n ≤ 1000000000000000000000000000000 := by
  obtain ⟨⟨h1, h2, h3, h4⟩, h5⟩ := h
  obtain ⟨sp, st, ra⟩ := e
  have h5 : (capD (fD sp) && (capD (oD st) && (capD (fD ra) && true))) = true := h5
  rw [Bool.and_eq_true, Bool.and_eq_true, Bool.and_eq_true] at h5
  obtain ⟨c1, c2, c3, _⟩ := h5
  have s1 := cap_fD c1 (Std.le_of_lt h1)
  have s3 := cap_fD c3 h3
  dsimp only at h2
  intro n hn
  unfold edN at hn
  cases st with
  | none =>
    simp only [List.mem_cons, List.not_mem_nil, or_false] at hn
    rcases hn with rfl | rfl | rfl <;> omega
  | some q =>
    have s2 := cap_fD (q := q) c2 (h2 q rfl)
    simp only [List.mem_cons, List.not_mem_nil, or_false] at hn
    rcases hn with rfl | rfl | rfl | rfl | rfl | rfl | rfl <;> omega
theorem esN_ok {es : List Ed} (hl : es.length ≤ 60) (h : ∀ e ∈ es, EdS e) : ∀ n ∈ esN es, 0 ≤ n ∧ n ≤ 1000000000000000000000000000000 := fun n hn => by
  rcases List.mem_cons.mp hn with rfl | hn
  · omega
  · obtain ⟨y, hy, hn⟩ := List.mem_flatten.mp hn
    obtain ⟨e, he, rfl⟩ := List.mem_map.mp hy
    exact edN_ok (h e he) n hn
theorem hlN_ok {x : Hl} (h : x.ok) : (∀ n ∈ hlN x, 0 ≤ n ∧ n ≤ 1000000000000000000000000000000) ∧ (hlN x).length ≤ 423 := by
  obtain ⟨⟨u0, u1⟩, ⟨c0, c1⟩, l, ok⟩ := h
  refine ⟨fun n hn => ?_, ?_⟩
  · rcases List.mem_cons.mp hn with rfl | hn
    · omega
    · rcases List.mem_cons.mp hn with rfl | hn
      · omega
      · exact esN_ok l ok n hn
  · have := esN_len x.es
    show (esN x.es).length + 1 + 1 ≤ 423
    omega
theorem hls_nums {ls : List Hl} (ok : ∀ x ∈ ls, x.ok) : (∀ n ∈ (ls.map hlN).flatten, 0 ≤ n ∧ n ≤ 1000000000000000000000000000000) ∧ (ls.map hlN).flatten.length ≤ 423 * ls.length := by
  refine ⟨fun n hn => ?_, ?_⟩
  · obtain ⟨y, hy, hn⟩ := List.mem_flatten.mp hn
    obtain ⟨r, hr, rfl⟩ := List.mem_map.mp hy
    exact (hlN_ok (ok r hr)).1 n hn
  · induction ls with
    | nil => exact Nat.le_refl _
    | cons l ls ih =>
      have h1 := hlN_ok (ok l List.mem_cons_self)
      have h2 := ih fun x hx => ok x (List.mem_cons_of_mem _ hx)
      rw [List.map_cons, List.flatten_cons, List.length_append, List.length_cons]
      omega
theorem hdN_Nums {s v : Int} {ls : List Hl} (h : HdOk s v ls) : Nums (hdN s v ls) ∧ (hdN s v ls).length ≤ 3400 := by
  obtain ⟨⟨s0, s1⟩, ⟨v0, v1⟩, ⟨n0, n1⟩, ok⟩ := h
  have h2 := hls_nums ok
  refine ⟨fun n hn => ?_, ?_⟩
  · rcases List.mem_cons.mp hn with rfl | hn
    · omega
    · rcases List.mem_cons.mp hn with rfl | hn
      · omega
      · rcases List.mem_cons.mp hn with rfl | hn
        · omega
        · have := h2.1 n hn; omega
  · show (ls.map hlN).flatten.length + 1 + 1 + 1 ≤ _
    omega
theorem flat_snocH (xs : List Hl) (x : Hl) : ((xs ++ [x]).map hlN).flatten = (xs.map hlN).flatten ++ hlN x := by
  rw [List.map_append, List.flatten_append, List.map_cons, List.map_nil, List.flatten_cons, List.flatten_nil, List.append_nil]
def wHdBody (C : Addr) : PW0 := fun xs cs post exc => ∃ d, xs = [.dat d] ∧ cs = [] ∧ pl d = true ∧ (isHd d = false → exc C) ∧ ∀ s v ls, d = hdD s v ls → HdOk s v ls → post (.new ((bodyI (hdN s v ls)).map D.int)) []
theorem ok_head_body (T : Txt K mg) : FnOk P w K mg base (L2.CX P w) 9 T.a_head_body T.d_head_body ["head"] (spG K (wHdBody T.c_NoBody)) := by
  refine T.F_head_body.okX sc_head_body (fun vs H Q E h => spG_len h fun xs cs post exc ⟨a, e, _⟩ => by rw [e]; rfl) (fun cdv A outer s H vs Q E hr h => ⟨_, (pss_cons (ps_if (pt_not (pt_val (pe_call (ok_is_head T) (hr.mono (by decide)) (by rfl) T.g_is_head T.F_is_head.kp T.b_is_head .nil pass0 (pa_cons (pv 0) pa_nil)))) (pss_one (ps_raise rfl (takes_of rfl rfl rfl rfl) (pmk_own PySem.F.excBase_ValueError T.x_NoBody T.g_NoBody T.k_NoBody (raises_own T.bb_NoBody T.t_NoBody) rfl))) pss_nil)
      (pss_cons (ps_asg (pv 0) (pg_tup rfl (pgs_cons (pg_name (i := 1) sc_head_body.nd rfl (Or.inl rfl)) (pgs_cons (pg_name (i := 2) sc_head_body.nd rfl (Or.inl rfl)) (pgs_cons (pg_name (i := 3) sc_head_body.nd rfl (Or.inl rfl)) pgs_nil)))))
      (pss_cons (ps_set (i := 4) sc_head_body.nd rfl (Or.inl rfl) (pe_lst (pa_cons (pv 1) (pa_cons (pv 2) (pa_cons (pe_callB call_len_seq (by rfl) T.m_len (by decide +kernel) (pa_cons (pv 3) pa_nil)) pa_nil)))))
      (pss_cons (ps_for (passes_of rfl) rfl (pi_list (pv 3)) (pg_tup rfl (pgs_cons (pg_name (i := 5) sc_head_body.nd rfl (Or.inl rfl)) (pgs_cons (pg_name (i := 6) sc_head_body.nd rfl (Or.inl rfl)) (pgs_cons (pg_name (i := 7) sc_head_body.nd rfl (Or.inl rfl)) pgs_nil))))
        (pss_one (ps_expr (pe_bm PySem.F.plainAttrs_list PySem.F.slot_list_extend PySem.F.type_list_extend mt_extend (pv 4) (pa_cons (pe_op op_catF (pe_lst (pa_cons (pv 5) (pa_cons (pv 6) pa_nil))) (pe_call (ok_edits_numbers T) (hr.mono (by decide)) (by rfl) T.g_edits_numbers T.F_edits_numbers.kp T.b_edits_numbers .nil pass0 (pa_cons (pv 7) pa_nil))) pa_nil)))))
      (pss_one (ps_ret (pe_call (ok_body_of T) (hr.mono (by decide)) (by rfl) T.g_body_of T.F_body_of.kp T.b_body_of .nil pass0 (pa_cons (pv 4) pa_nil)))))))), enter h fun F xs cs post hE hw => ?_⟩)
  subst hE
  obtain ⟨d, rfl, rfl, hp, qx, q⟩ := hw
  walk_at "D"
  walk_at "c"
  refine ⟨d, rfl, rfl, hp, ?_⟩
  refine aft_hard rfl ?_
  cases hd : isHd d with
  | false =>
    walk_at "D"
    exact ws_exc fun as σ H G D en => F.hE _ H (qx hd) en.fh
  | true =>
    obtain ⟨s, v, ls, rfl, ok⟩ := isHd_of hd
    have q := q s v ls rfl ok
    obtain ⟨nn, nl⟩ := hdN_Nums ok
    have ln := ok.2.2.1
    unfold hdD
    walk_at "D"
    walk_at "nr2"
    rw [List.length_map]
    refine loop_cut (fun es ρ => ∃ (done rest : List Hl) (x y z : Option AV), ls = done ++ rest ∧ es = rest.map Hl.told ∧ ρ = ⟨[some (.dat (hdD s v ls)), some (.dat (.int s)), some (.dat (.int v)), some (.dat (.lst (ls.map Hl.told))), some (.cel 0), x, y, z], [.lst ((s :: v :: (ls.length : Int) :: (done.map hlN).flatten).map D.int)]⟩) ⟨[], ls, none, none, none, rfl, rfl, rfl⟩ ?_ ?_
    · rintro ρ ⟨done, rest, x, y, z, e1, e2, rfl⟩
      have : rest = [] := by cases rest with | nil => rfl | cons => cases e2
      subst this
      rw [List.append_nil] at e1
      subst e1
      refine ⟨.dat _, ?_⟩
      walk_at "D"
      walk_at "c"
      refine ⟨hdN s v ls, rfl, rfl, nn, by omega, ?_⟩
      refine aft_hards (hards_int _) ?_
      exact ⟨_, .cel (Nat.zero_le _) rfl, rfl, q⟩
    · rintro d es ρ ⟨done, rest, x, y, z, e1, e2, rfl⟩
      cases rest with
      | nil => cases e2
      | cons r rest =>
        obtain ⟨rfl, rfl⟩ := List.cons.inj e2
        have h6 : ls.length = done.length + (rest.length + 1) := by rw [e1, List.length_append, List.length_cons]
        have okr := ok.2.2.2 r (by rw [e1]; exact List.mem_append_right _ List.mem_cons_self)
        have hd6 := (hls_nums (ls := done) fun y hy => ok.2.2.2 y (by rw [e1]; exact List.mem_append_left _ hy)).2
        have hr6 := (hlN_ok okr).2
        have hr7 : (esN r.es).length + 1 + 1 ≤ 423 := hr6
        refine ⟨.dat _, ?_⟩
        unfold Hl.told
        refine wg_tup rfl ?_
        walk_at "D"
        walk_at "c"
        refine ⟨r.es, rfl, rfl, by have := okr.2.2.1; omega, aft_hards (hards_int _) ?_⟩
        refine wr_cat (ds := [.int r.u, .int r.c]) (es := (esN r.es).map D.int) (.cel rfl) (.cel rfl) (by rw [List.length_map]; simp only [List.length]; omega) ?_
        rw [show [D.int r.u, .int r.c] ++ (esN r.es).map D.int = (hlN r).map D.int from rfl]
        walk_at "D"
        refine wm_extend (ds := (s :: v :: (ls.length : Int) :: (done.map hlN).flatten).map D.int) (es := (hlN r).map D.int) (.cel rfl) rfl (by rw [List.length_map, List.length_map]; simp only [List.length_cons]; omega) ?_
        walk_at "D"
        refine now ⟨done ++ [r], rest, some (.dat (.int r.u)), some (.dat (.int r.c)), some (.dat (.lst (r.es.map eD))), by rw [e1, List.append_assoc]; rfl, rfl, ?_⟩
        rw [flat_snocH, ← List.cons_append, ← List.cons_append, ← List.cons_append, List.map_append]
        rfl
/-! what a head's numbers tell -/
theorem rdEdit_ed {e : Ed} (h : e.ok) (r : List Int) : rdEdit (edN e ++ r) = some (eD e, r) := by
  obtain ⟨sp, st, ra⟩ := e
  cases st with
  | none =>
    have h4 : ra = 0 := h.2.2.2 rfl
    subst h4
    rfl
  | some q =>
    rfl
theorem rdMany_eds : ∀ {es : List Ed}, (∀ e ∈ es, EdS e) → ∀ r : List Int, rdMany rdEdit es.length ((es.map edN).flatten ++ r) = some (es.map eD, r)
  | [], _, r => rfl
  | e :: es, h, r => by
    rw [List.map_cons, List.flatten_cons, List.append_assoc, List.length_cons, rdMany, rdEdit_ed (h e List.mem_cons_self).1]
    show (rdMany rdEdit es.length _).map _ = _
    rw [rdMany_eds (fun x hx => h x (List.mem_cons_of_mem _ hx))]
    rfl
theorem rdLane_hl {x : Hl} (h : x.ok) (r : List Int) : rdLane (hlN x ++ r) = some (x.told, r) := by
  show (rdMany rdEdit ((x.es.length : Int)).toNat ((x.es.map edN).flatten ++ r)).map _ = _
  rw [show ((x.es.length : Int)).toNat = x.es.length by omega, rdMany_eds h.2.2.2]
  rfl
theorem rdMany_hls : ∀ {ls : List Hl}, (∀ x ∈ ls, x.ok) → ∀ r : List Int, rdMany rdLane ls.length ((ls.map hlN).flatten ++ r) = some (ls.map Hl.told, r) ∧ okLs ls.length ((ls.map hlN).flatten ++ r)
  | [], _, r => ⟨rfl, trivial⟩
  | x :: ls, h, r => by
    have hx := h x List.mem_cons_self
    obtain ⟨i1, i2⟩ := rdMany_hls (fun y hy => h y (List.mem_cons_of_mem _ hy)) r
    rw [List.map_cons, List.flatten_cons, List.append_assoc, List.length_cons]
    refine ⟨?_, fun a b m t e => ?_, fun d t e => ?_⟩
    · rw [rdMany, rdLane_hl hx]
      show (rdMany rdLane ls.length _).map _ = _
      rw [i1]
      rfl
    · have e : x.u :: x.c :: (x.es.length : Int) :: ((x.es.map edN).flatten ++ ((ls.map hlN).flatten ++ r)) = a :: b :: m :: t := e
      simp only [List.cons.injEq] at e
      have := hx.2.2.1
      omega
    · rw [rdLane_hl hx] at e
      cases e
      exact i2
theorem okHd_mk {s v : Int} {ls : List Hl} (h : HdOk s v ls) (r : List Int) : okHd (hdN s v ls ++ r) := fun a b m t e => by
  have e : s :: v :: (ls.length : Int) :: ((ls.map hlN).flatten ++ r) = a :: b :: m :: t := e
  simp only [List.cons.injEq] at e
  obtain ⟨_, _, rfl, rfl⟩ := e
  have := h.2.2.1
  refine ⟨by omega, ?_⟩
  rw [show ((ls.length : Int)).toNat = ls.length by omega]
  exact (rdMany_hls h.2.2.2 r).2
theorem rdHd_cons {s v : Int} {ls : List Hl} (h : HdOk s v ls) (r : List Int) : rdHd (hdN s v ls ++ r) = match r with | [] => some (s, v, ls.map Hl.told) | _ => none := by
  show (match rdMany rdLane ((ls.length : Int)).toNat ((ls.map hlN).flatten ++ r) with
    | some (ds, []) => if isHd (.tup [.int s, .int v, .lst ds]) = true then some (s, v, ds) else none
    | _ => none) = _
  rw [show ((ls.length : Int)).toNat = ls.length by omega, (rdMany_hls h.2.2.2 r).1]
  cases r with
  | nil =>
    show (if isHd (hdD s v ls) = true then some (s, v, ls.map Hl.told) else none) = _
    rw [if_pos (isHd_mk h)]
  | cons => rfl
end

section
variable {P : Program} {w : World} {K : PySem.W.Frag} {mg : Str → Option Value} {base : Heap}
/-! ### the law's own sums -/
def wGcdA : PW0 := fun xs cs post _ => ∃ a b : Int, xs = [.dat (.int a), .dat (.int b)] ∧ cs = [] ∧ post (.dat (.int ((Int.gcd a b : Nat) : Int))) []
theorem ok_l_shared (T : Txt K mg) : FnOk P w K mg base CX0 1 T.a_l_shared T.d_l_shared ["_law_one", "_law_other"] (spG K wGcdA) := by
  refine T.F_l_shared.ok sc_l_shared (fun vs H Q E h => spG_len h fun xs cs post exc ⟨a, b, e, _⟩ => by rw [e]; rfl) (fun cdv A outer s H vs Q E hr h => ⟨_, (pss_cons (ps_set (i := 0) sc_l_shared.nd rfl (Or.inl rfl) (pe_callB call_abs (by rfl) T.m_abs (by decide +kernel) (pa_cons (pv 0) pa_nil)))
      (pss_cons (ps_set (i := 1) sc_l_shared.nd rfl (Or.inl rfl) (pe_callB call_abs (by rfl) T.m_abs (by decide +kernel) (pa_cons (pv 1) pa_nil)))
      (pss_cons (ps_while PassesOwn.never (pt_cmpR op_gt (pv 1) pe_int (nomark _)) (pss_one (ps_par (i := 0) (j := 1) (by rfl) sc_l_shared.nd rfl rfl (by decide) rfl rfl (pa_cons (pv 1) (pa_cons (pe_op op_mod (pv 0) (pv 1)) pa_nil)) (by rfl))))
      (pss_one (ps_ret (pv 0)))))), enter h fun F xs cs post hE hw => ?_⟩)
  obtain ⟨a, b, rfl, rfl, q⟩ := hw
  walk_at "D"
  rw [← gcd_abs] at q
  have a0 : 0 ≤ (if a < 0 then -a else a) := by split <;> omega
  have b0 : 0 ≤ (if b < 0 then -b else b) := by split <;> omega
  generalize (if a < 0 then -a else a) = a at *
  generalize (if b < 0 then -b else b) = b at *
  refine ws_while (fun m ρ1 => ∃ x y : Int, ρ1 = ⟨[some (.dat (.int x)), some (.dat (.int y))], []⟩ ∧ 0 ≤ x ∧ 0 ≤ y ∧ Int.gcd x y = Int.gcd a b ∧ m = y.toNat) b.toNat ⟨a, b, rfl, a0, b0, rfl, rfl⟩ ?_
  rintro m ρ1 ⟨x, y, rfl, x0, y0, e, rfl⟩
  walk_at "D"
  refine ifC (fun c => ?_) (fun c => ?_)
  · have c := of_decide_eq_true c
    walk_at "D"
    refine wr_Ii c ?_
    walk_at "D"
    have := Int.emod_lt_of_pos x c
    have := Int.emod_nonneg x (show y ≠ 0 by omega)
    exact ⟨_, by omega, y, x % y, rfl, y0, by omega, (gcd_turn x0 c).trans e, rfl⟩
  · have c := of_decide_eq_false c
    have y1 : y = 0 := by omega
    subst y1
    rw [← e] at q
    walk_at "D"
    have e2 : ((Int.gcd x 0 : Nat) : Int) = x := by
      rw [Int.gcd_zero_right]
      omega
    rw [e2] at q
    exact ⟨_, .dat _, rfl, q⟩
def wLowest : PW0 := fun xs cs post _ => ∃ t b : Int, xs = [.dat (.int t), .dat (.int b)] ∧ cs = [] ∧ 0 < b ∧ Sm 8000 b ∧ post (.dat (fD (Rat.divInt t b))) []
theorem ok_l_lowest (T : Txt K mg) : FnOk P w K mg base CX0 2 T.a_l_lowest T.d_l_lowest ["_law_top", "_law_bottom"] (spG K wLowest) := by
  refine T.F_l_lowest.ok sc_l_lowest (fun vs H Q E h => spG_len h fun xs cs post exc ⟨a, b, e, _⟩ => by rw [e]; rfl) (fun cdv A outer s H vs Q E hr h => ⟨_, (pss_cons (ps_set (i := 2) sc_l_lowest.nd rfl (Or.inl rfl) (pe_call (ok_l_shared T) (hr.mono (by decide)) (by rfl) T.g_l_shared T.F_l_shared.kp T.b_l_shared .nil pass0 (pa_cons (pv 0) (pa_cons (pv 1) pa_nil))))
      (pss_one (ps_ret (pe_tup (pa_cons (pe_op op_fdivZ (pv 0) (pv 2)) (pa_cons (pe_op op_fdivZ (pv 1) (pv 2)) pa_nil)))))), enter h fun F xs cs post hE hw => ?_⟩)
  obtain ⟨t, b, rfl, rfl, b0, bs, q⟩ := hw
  have bn : b ≠ 0 := by omega
  have ed : dvs t b = ((Int.gcd t b : Nat) : Int) := by unfold dvs; rw [if_neg (by omega)]
  have cd : CDivZ 0 ((Int.gcd t b : Nat) : Int) := ed ▸ ⟨dvs_ne bn, dvs_sm bn bs⟩
  walk_at "D"
  walk_at "c"
  refine ⟨t, b, rfl, rfl, rfl, ?_⟩
  walk_at "D"
  refine wr_Ii cd ?_
  walk_at "D"
  refine wr_Ii cd ?_
  walk_at "D"
  rw [← ed, frac_num bn, frac_den bn]
  exact fin_dat rfl q
/-! ### the law's own figures -/
def wCell : PW0 := fun xs cs post _ => ∃ (ns : List Int) (k : Int), xs = [.dat (.scr (ns.map D.int)), .dat (.int k)] ∧ cs = [] ∧ 0 ≤ k ∧ ∀ n, post (.dat (.int n)) []
theorem fig_short (n : Nat) (h : (n : Int) ≤ 10 ^ 60) : (figN n).length ≤ 31 := by
  rw [fig_len]
  have : (tlN (n / 128)).length ≤ 30 := tlN_len 30 _ (by
    have : n < 10 ^ 60 + 1 := by omega
    have : (10 : Nat) ^ 60 + 1 < 128 ^ 30 := by decide
    omega)
  omega
def wFig : PW0 := fun xs cs post _ => ∃ n : Nat, xs = [.dat (.int n)] ∧ cs = [] ∧ (n : Int) ≤ 10 ^ 60 ∧ post (.new ((figN n).map D.int)) []
theorem ok_l_figures (T : Txt K mg) : FnOk P w K mg base CX0 1 T.a_l_figures T.d_l_figures ["_law_number"] (spG K wFig) := by
  refine T.F_l_figures.ok sc_l_figures (fun vs H Q E h => spG_len h fun xs cs post exc ⟨a, e, _⟩ => by rw [e]; rfl) (fun cdv A outer s H vs Q E hr h => ⟨_, (pss_cons (ps_set (i := 1) sc_l_figures.nd rfl (Or.inl rfl) (pe_lst (pa_cons (pe_op op_mod (pv 0) pe_int) pa_nil)))
      (pss_cons (ps_while PassesOwn.never (pt_cmpR op_ge (pv 0) pe_int (nomark _)) (pss_cons (ps_set (i := 0) sc_l_figures.nd rfl (Or.inl rfl) (pe_op op_fdiv (pv 0) pe_int))
      (pss_one (ps_set (i := 1) sc_l_figures.nd rfl (Or.inl rfl) (pe_op op_catF (pe_lst (pa_cons (pe_op op_add pe_int (pe_op op_mod (pv 0) pe_int)) pa_nil)) (pv 1))))))
      (pss_one (ps_ret (pv 1))))), enter h fun F xs cs post hE hw => ?_⟩)
  obtain ⟨n, rfl, rfl, hn, q⟩ := hw
  have hs := fig_short n hn
  walk_at "D"
  refine wr_Ii (by decide) ?_
  walk_at "D"
  rw [show ((n : Int) % 128) = ((n % 128 : Nat) : Int) by omega]
  refine ws_while (fun m ρ => ∃ (ds : List Int) (cs : List Cell) (j : Nat), ρ = ⟨[some (.dat (.int (m : Int))), some (.cel j)], cs⟩ ∧ cs[j]? = some (.lst (ds.map D.int)) ∧ (tlN (m / 128)).reverse ++ ds = figN n) n ⟨[((n % 128 : Nat) : Int)], _, 0, rfl, rfl, rfl⟩ ?_
  rintro m ρ ⟨ds, cs, j, rfl, hc, hd⟩
  walk_at "D"
  refine ifC (fun c => ?_) (fun c => ?_)
  · have c := of_decide_eq_true c
    have m0 : m / 128 ≠ 0 := by omega
    rw [tlN_s m0, List.reverse_cons, List.append_assoc] at hd
    have hl : ds.length ≤ 31 := by
      have := congrArg List.length hd
      rw [List.length_append, List.length_append] at this
      omega
    walk_at "D"
    refine wr_Ii ⟨by decide, by decide⟩ ?_
    walk_at "D"
    refine wr_Ii (by decide) ?_
    walk_at "D"
    walk_at "nrm"
    have hj : j < cs.length := (List.getElem?_eq_some_iff.mp hc).1
    refine wr_cat (ds := [.int (128 + (m : Int) / 128 % 128)]) (es := ds.map D.int) (.cel (by simp)) (.cel (by rw [List.getElem?_append_left hj]; exact hc)) (by rw [List.length_map]; simp only [List.length]; omega) ?_
    walk_at "D"
    have e1 : ((m : Int) / 128) = ((m / 128 : Nat) : Int) := by omega
    have e2 : (128 + ((m / 128 : Nat) : Int) % 128) = ((128 + m / 128 % 128 : Nat) : Int) := by omega
    rw [e1, e2]
    refine ⟨m / 128, by omega, ((128 + m / 128 % 128 : Nat) : Int) :: ds, (cs ++ [Cell.lst [.int ((128 + m / 128 % 128 : Nat) : Int)]]) ++ [Cell.lst (.int ((128 + m / 128 % 128 : Nat) : Int) :: ds.map D.int)], (cs ++ [Cell.lst [.int ((128 + m / 128 % 128 : Nat) : Int)]]).length, rfl, ?_, hd⟩
    rw [List.getElem?_concat_length]
    rfl
  · have c := of_decide_eq_false c
    rw [show m / 128 = 0 by omega, tlN_0] at hd
    have hd : ds = figN n := hd
    subst hd
    walk_at "D"
    exact ⟨_, .cel (Nat.zero_le _) hc, rfl, q⟩
theorem wsp_fig {F : Fx} {ρ : En} {k : AV → En → Prop} {E : L2.St → XK} {n : Nat} {x : AV} (hx : x = .dat (.int n)) (hn : (n : Int) ≤ 10 ^ 60) (hk : k (.cel ρ.ce.length) (ρ.add ((figN n).map D.int))) : WpSp K F (spG K wFig) E [x] ρ k := by
  subst hx
  exact wspE (.dat .nil) ⟨n, rfl, rfl, hn, rfl, hk⟩
/-! the law's own numbers of an index, and their bytes -/
def wAllFigs : PW0 := fun xs cs post _ => ∃ ns : List Int, xs = [.dat (.lst (ns.map D.int))] ∧ cs = [] ∧ Nums ns ∧ ns.length ≤ 100000 ∧ post (.new ((bodyI ns).map D.int)) []
theorem ok_l_all_figures (T : Txt K mg) : FnOk P w K mg base CX0 2 T.a_l_all_figures T.d_l_all_figures ["_law_numbers"] (spG K wAllFigs) := by
  refine T.F_l_all_figures.ok sc_l_all_figures (fun vs H Q E h => spG_len h fun xs cs post exc ⟨a, e, _⟩ => by rw [e]; rfl) (fun cdv A outer s H vs Q E hr h => ⟨_, (pss_cons (ps_set (i := 1) sc_l_all_figures.nd rfl (Or.inl rfl) (pe_lst pa_nil))
      (pss_cons (ps_for PassesOwn.never rfl (pi_list (pv 0)) (pg_name (i := 2) sc_l_all_figures.nd rfl (Or.inl rfl))
        (pss_one (ps_expr (pe_bm PySem.F.plainAttrs_list PySem.F.slot_list_extend PySem.F.type_list_extend mt_extend (pv 1) (pa_cons (pe_call (ok_l_figures T) (hr.mono (by decide)) (by rfl) T.g_l_figures T.F_l_figures.kp T.b_l_figures .nil pass0 (pa_cons (pv 2) pa_nil)) pa_nil)))))
      (pss_one (ps_ret (pv 1))))), enter h fun F xs cs post hE hw => ?_⟩)
  obtain ⟨ns, rfl, rfl, hn, hl, q⟩ := hw
  walk_at "D"
  refine loop_cut (fun es ρ => ∃ (done rest : List Int) (x : Option AV), ns = done ++ rest ∧ es = rest.map D.int ∧ ρ = ⟨[some (.dat (.lst (ns.map D.int))), some (.cel 0), x], [.lst ((bodyI done).map D.int)]⟩) ⟨[], ns, none, rfl, rfl, rfl⟩ ?_ ?_
  · rintro ρ ⟨done, rest, x, e1, e2, rfl⟩
    have : rest = [] := by cases rest with | nil => rfl | cons => cases e2
    subst this
    rw [List.append_nil] at e1
    subst e1
    refine ⟨.dat _, ?_⟩
    walk_at "D"
    exact ⟨_, .cel (Nat.zero_le _) rfl, rfl, q⟩
  · rintro d es ρ ⟨done, rest, x, e1, e2, rfl⟩
    cases rest with
    | nil => cases e2
    | cons n rest =>
      obtain ⟨rfl, rfl⟩ := List.cons.inj e2
      have h1 := hn n (by rw [e1]; exact List.mem_append_right _ List.mem_cons_self)
      obtain ⟨m, rfl⟩ : ∃ m : Nat, n = m := ⟨n.toNat, by omega⟩
      have ln := (bodyI_len (ns := done) fun y hy => hn y (by rw [e1]; exact List.mem_append_left _ hy)).2
      have lf := figN_long m h1.2
      have : ns.length = done.length + (rest.length + 1) := by rw [e1, List.length_append, List.length_cons]
      refine ⟨.dat _, ?_⟩
      walk_at "D"
      refine wsp_fig rfl h1.2 ?_
      walk_at "D"
      refine wm_extend (ds := (bodyI done).map D.int) (es := (figN m).map D.int) (.cel rfl) rfl (by rw [List.length_map, List.length_map]; omega) ?_
      walk_at "D"
      refine now ⟨done ++ [(m : Int)], rest, some (.dat (.int m)), by rw [e1, List.append_assoc]; rfl, rfl, ?_⟩
      rw [bodyI_app, List.map_append]
      show _ = En.mk _ [Cell.lst ((bodyI done).map D.int ++ (figN m ++ []).map D.int)]
      rw [List.append_nil]
      rfl
/-! ### the law's own numbers of a head -/
theorem ok_l_edit_numbers (T : Txt K mg) : FnOk P w K mg base CX0 1 T.a_l_edit_numbers T.d_l_edit_numbers ["_law_row"] (spG K wEditNumbers) := by
  refine T.F_l_edit_numbers.ok sc_l_edit_numbers (fun vs H Q E h => spG_len h fun xs cs post exc ⟨a, e, _⟩ => by rw [e]; rfl) (fun cdv A outer s H vs Q E hr h => ⟨_, (pss_cons (ps_asg (pv 0) (pg_tup rfl (pgs_cons (pg_name (i := 1) sc_l_edit_numbers.nd rfl (Or.inl rfl)) (pgs_cons (pg_name (i := 2) sc_l_edit_numbers.nd rfl (Or.inl rfl)) (pgs_cons (pg_name (i := 3) sc_l_edit_numbers.nd rfl (Or.inl rfl)) pgs_nil)))))
      (pss_cons (ps_if (pt_cmpR op_isN (pv 2) pe_non (nomark _)) (pss_one (ps_ret (pe_lst (pa_cons (pe_ix ix_tup (pv 1) pe_int (fun _ _ => rfl)) (pa_cons (pe_ix ix_tup (pv 1) pe_int (fun _ _ => rfl)) (pa_cons pe_int pa_nil)))))) pss_nil)
      (pss_one (ps_ret (pe_lst (pa_cons (pe_ix ix_tup (pv 1) pe_int (fun _ _ => rfl)) (pa_cons (pe_ix ix_tup (pv 1) pe_int (fun _ _ => rfl)) (pa_cons pe_int (pa_cons (pe_ix ix_tup (pv 2) pe_int (fun _ _ => rfl)) (pa_cons (pe_ix ix_tup (pv 2) pe_int (fun _ _ => rfl)) (pa_cons (pe_ix ix_tup (pv 3) pe_int (fun _ _ => rfl)) (pa_cons (pe_ix ix_tup (pv 3) pe_int (fun _ _ => rfl)) pa_nil)))))))))))), enter h fun F xs cs post hE hw => ?_⟩)
  obtain ⟨⟨sp, st, ra⟩, rfl, rfl, q⟩ := hw
  cases st with
  | none =>
    have q : post (.new [.int sp.num, .int (sp.den : Int), .int 0]) [] := q
    show WpS K F _ (En.start _ [.dat (.tup [.tup [.int sp.num, .int (sp.den : Int)], .non, fD ra])] []) _
    walk_at "D"
    exact ⟨_, .cel (j := 0) (Nat.zero_le _) rfl, rfl, q⟩
  | some so =>
    have q : post (.new [.int sp.num, .int (sp.den : Int), .int 1, .int so.num, .int (so.den : Int), .int ra.num, .int (ra.den : Int)]) [] := q
    show WpS K F _ (En.start _ [.dat (.tup [.tup [.int sp.num, .int (sp.den : Int)], .tup [.int so.num, .int (so.den : Int)], .tup [.int ra.num, .int (ra.den : Int)]])] []) _
    walk_at "D"
    exact ⟨_, .cel (j := 0) (Nat.zero_le _) rfl, rfl, q⟩
local macro_rules | `(tactic| walk_at "G") => `(tactic| repeat ((fail_if_success (with_reducible refine ws_seq ?_)); first
  | walk_at "d"
  | refine ifT rfl ?_
  | refine ifF rfl ?_))
def wHeadNums : PW0 := fun xs cs post _ => ∃ (s v : Int) (ls : List Hl), xs = [.dat (hdD s v ls)] ∧ cs = [] ∧ HdOk s v ls ∧ post (.dat (.lst ((hdN s v ls).map D.int))) []
theorem ok_l_head_numbers (T : Txt K mg) : FnOk P w K mg base CX0 2 T.a_l_head_numbers T.d_l_head_numbers ["_law_head_here"] (spG K wHeadNums) := by
  refine T.F_l_head_numbers.ok sc_l_head_numbers (fun vs H Q E h => spG_len h fun xs cs post exc ⟨a, b, c, e, _⟩ => by rw [e]; rfl) (fun cdv A outer s H vs Q E hr h => ⟨_, (pss_cons (ps_asg (pv 0) (pg_tup rfl (pgs_cons (pg_name (i := 1) sc_l_head_numbers.nd rfl (Or.inl rfl)) (pgs_cons (pg_name (i := 2) sc_l_head_numbers.nd rfl (Or.inl rfl)) (pgs_cons (pg_name (i := 3) sc_l_head_numbers.nd rfl (Or.inl rfl)) pgs_nil)))))
      (pss_cons (ps_set (i := 4) sc_l_head_numbers.nd rfl (Or.inl rfl) (pe_lst (pa_cons (pv 1) (pa_cons (pv 2) (pa_cons (pe_callB call_len_seq (by rfl) T.m_len (by decide +kernel) (pa_cons (pv 3) pa_nil)) pa_nil)))))
      (pss_cons (ps_for PassesOwn.never rfl (pi_list (pv 3)) (pg_tup rfl (pgs_cons (pg_name (i := 5) sc_l_head_numbers.nd rfl (Or.inl rfl)) (pgs_cons (pg_name (i := 6) sc_l_head_numbers.nd rfl (Or.inl rfl)) (pgs_cons (pg_name (i := 7) sc_l_head_numbers.nd rfl (Or.inl rfl)) pgs_nil))))
        (pss_cons (ps_set (i := 4) sc_l_head_numbers.nd rfl (Or.inl rfl) (pe_op op_catF (pv 4) (pe_lst (pa_cons (pv 5) (pa_cons (pv 6) (pa_cons (pe_callB call_len_seq (by rfl) T.m_len (by decide +kernel) (pa_cons (pv 7) pa_nil)) pa_nil))))))
      (pss_one (ps_for PassesOwn.never rfl (pi_list (pv 7)) (pg_name (i := 8) sc_l_head_numbers.nd rfl (Or.inl rfl))
        (pss_one (ps_set (i := 4) sc_l_head_numbers.nd rfl (Or.inl rfl) (pe_op op_catF (pv 4) (pe_call (ok_l_edit_numbers T) (hr.mono (by decide)) (by rfl) T.g_l_edit_numbers T.F_l_edit_numbers.kp T.b_l_edit_numbers .nil pass0 (pa_cons (pv 8) pa_nil)))))))))
      (pss_one (ps_ret (pv 4)))))), enter h fun F xs cs post hE hw => ?_⟩)
  obtain ⟨s, v, ls, rfl, rfl, ok, q⟩ := hw
  have ln := ok.2.2.1
  unfold hdD
  refine ws_seq ?_
  walk_at "G"
  refine ws_seq ?_
  walk_at "G"
  rw [List.length_map]
  walk_at "nr2"
  refine ws_frz (j := 0) (ds := [.int s, .int v, .int ls.length]) rfl ?_
  walk_at "nr4"
  walk_at "D"
  walk_at "nr4"
  refine loop_any (fun es ρ => ∃ (done rest : List Hl) (x y z : Option AV) (u : Option D), ls = done ++ rest ∧ es = rest.map Hl.told ∧ ρ = ⟨[some (.dat (hdD s v ls)), some (.dat (.int s)), some (.dat (.int v)), some (.dat (.lst (ls.map Hl.told))), some (.dat (.lst ((s :: v :: (ls.length : Int) :: (done.map hlN).flatten).map D.int))), x, y, z, u.map AV.dat], [.gone]⟩) ⟨[], ls, none, none, none, none, rfl, rfl, rfl⟩ ?_ ?_
  · rintro ρ ⟨done, rest, x, y, z, u, e1, e2, rfl⟩
    have e3 : rest = [] := by cases rest with | nil => rfl | cons => cases e2
    subst e3
    rw [List.append_nil] at e1
    subst e1
    refine ⟨.dat _, ?_⟩
    walk_at "D"
    exact fin_dat rfl q
  · rintro d es ρ ⟨done, rest, x, y, z, u, e1, e2, rfl⟩
    cases rest with
    | nil => cases e2
    | cons r rest =>
      obtain ⟨rfl, rfl⟩ := List.cons.inj e2
      have h6 : ls.length = done.length + (rest.length + 1) := by rw [e1, List.length_append, List.length_cons]
      have okr := ok.2.2.2 r (by rw [e1]; exact List.mem_append_right _ List.mem_cons_self)
      have hd6 := (hls_nums (ls := done) fun y hy => ok.2.2.2 y (by rw [e1]; exact List.mem_append_left _ hy)).2
      have hr6 := (hlN_ok okr).2
      have hr7 : (r.es.map edN).flatten.length + 1 + 1 + 1 ≤ 423 := hr6
      refine ⟨.dat _, ?_⟩
      show WpG K F _ (.dat (.tup [.int r.u, .int r.c, .lst (r.es.map eD)])) _ _
      refine wg_tup rfl ?_
      walk_at "D"
      refine wr_frz ?_
      rw [List.length_map]
      refine wr_cat (ds := (s :: v :: (ls.length : Int) :: (done.map hlN).flatten).map D.int) (es := [.int r.u, .int r.c, .int (r.es.length : Int)]) (.dat _) (.cel rfl) (by rw [List.length_map]; simp only [List.length_cons, List.length_nil]; omega) ⟨_, _, rfl, rfl, ?_⟩
      walk_at "D"
      walk_at "nr4"
      refine loop_any (fun es ρ => ∃ (dn rs : List Ed) (u : Option D), r.es = dn ++ rs ∧ es = rs.map eD ∧ ρ = ⟨[some (.dat (hdD s v ls)), some (.dat (.int s)), some (.dat (.int v)), some (.dat (.lst (ls.map Hl.told))), some (.dat (.lst ((s :: v :: (ls.length : Int) :: ((done.map hlN).flatten ++ (r.u :: r.c :: (r.es.length : Int) :: (dn.map edN).flatten))).map D.int))), some (.dat (.int r.u)), some (.dat (.int r.c)), some (.dat (.lst (r.es.map eD))), u.map AV.dat], [.gone, .lst [.int r.u, .int r.c, .int (r.es.length : Int)], .gone]⟩) ⟨[], r.es, u, rfl, rfl, ?_⟩ ?_ ?_
      · rw [List.map_nil, List.flatten_nil, show List.map D.int (s :: v :: (ls.length : Int) :: ((done.map hlN).flatten ++ r.u :: r.c :: (r.es.length : Int) :: [])) = D.int s :: D.int v :: D.int (ls.length : Int) :: ((done.map hlN).flatten.map D.int ++ [D.int r.u, D.int r.c, D.int (r.es.length : Int)]) by simp only [List.map_cons, List.map_append, List.map_nil]]
        cases u <;> rfl
      · rintro ρ ⟨dn, rs, u2, e3, e4, rfl⟩
        have e5 : rs = [] := by cases rs with | nil => rfl | cons => cases e4
        subst e5
        rw [List.append_nil] at e3
        subst e3
        refine ⟨.dat _, ?_⟩
        refine now ⟨_, .cut, done ++ [r], rest, some (.dat (.int r.u)), some (.dat (.int r.c)), some (.dat (.lst (r.es.map eD))), u2, by rw [e1, List.append_assoc]; rfl, rfl, ?_⟩
        rw [flat_snocH, show hlN r = r.u :: r.c :: (r.es.length : Int) :: (r.es.map edN).flatten from rfl]
        cases u2 <;> rfl
      · rintro d es ρ ⟨dn, rs, u, e3, e4, rfl⟩
        cases rs with
        | nil => cases e4
        | cons y rs =>
          obtain ⟨rfl, rfl⟩ := List.cons.inj e4
          have g1 : (dn.map edN).flatten.length ≤ 420 := by
            rw [e3, List.map_append, List.flatten_append, List.length_append] at hr7
            omega
          have g2 := (edN_len y).2
          refine ⟨.dat _, ?_⟩
          walk_at "D"
          walk_at "c"
          refine ⟨y, rfl, rfl, aft_hards (hards_int _) ?_⟩
          walk_at "nr2"
          refine wr_frz ?_
          refine wr_cat (ds := (s :: v :: (ls.length : Int) :: ((done.map hlN).flatten ++ (r.u :: r.c :: (r.es.length : Int) :: (dn.map edN).flatten))).map D.int) (es := (edN y).map D.int) (.dat _) (.cel rfl) (by rw [List.length_map, List.length_map]; simp only [List.length_cons, List.length_append]; omega) ⟨_, _, rfl, rfl, ?_⟩
          rw [← List.map_append]
          walk_at "D"
          walk_at "nr4"
          refine now ⟨_, .cut, dn ++ [y], rs, some (eD y), by rw [e3, List.append_assoc]; rfl, rfl, ?_⟩
          rw [flat_snocE]
          simp only [List.append_assoc, List.cons_append]
          rfl
end

section
variable {P : Program} {w : World} {K : PySem.W.Frag} {mg : Str → Option Value} {base : Heap}
/-! ### the law's own edits and heads -/
theorem p30 : (10 : Int) ^ Int.toNat 30 = 1000000000000000000000000000000 := by decide
theorem p6 : (10 : Int) ^ Int.toNat 6 = 1000000 := by decide
theorem p9 : (10 : Int) ^ Int.toNat 9 = 1000000000 := by decide
theorem div_facts {t b : Int} (t0 : 0 ≤ t) (b0 : 0 < b) : 0 ≤ Rat.divInt t b ∧ (Rat.divInt t b).num ≤ t ∧ ((Rat.divInt t b).den : Int) ≤ b ∧ (0 < t → 0 < Rat.divInt t b) := by
  have bn : b ≠ 0 := by omega
  have g0 := gcd_pos (t := t) bn
  have gt : ((Int.gcd t b : Nat) : Int) ∣ t := Int.gcd_dvd_left t b
  have gb : ((Int.gcd t b : Nat) : Int) ∣ b := Int.gcd_dvd_right t b
  have ed : dvs t b = ((Int.gcd t b : Nat) : Int) := by unfold dvs; rw [if_neg (by omega)]
  have e1 := frac_num (t := t) bn
  have e2 := frac_den (t := t) bn
  rw [ed, Int.fdiv_eq_ediv_of_dvd gt] at e1
  rw [ed, Int.fdiv_eq_ediv_of_dvd gb] at e2
  have n0 : 0 ≤ (Rat.divInt t b).num := by rw [← e1]; exact Int.ediv_nonneg t0 (by omega)
  refine ⟨num_nonneg.mp n0, by rw [← e1]; exact Int.ediv_le_self _ t0, by rw [← e2]; exact Int.ediv_le_self _ (by omega), fun t1 => ?_⟩
  have h := Int.ediv_mul_cancel gt
  rw [e1] at h
  refine Rat.not_le.mp fun z => ?_
  have z2 := Rat.le_antisymm z (num_nonneg.mp n0)
  rw [z2, show (0 : Rat).num = 0 from rfl, Int.zero_mul] at h
  omega
/-- a moment within 10 ^ 30 -/
def Cap (q : Rat) : Prop := 0 ≤ q ∧ q.num ≤ 1000000000000000000000000000000 ∧ (q.den : Int) ≤ 1000000000000000000000000000000
theorem Cap.capD {q : Rat} (h : Cap q) : LK.capD (fD q) = true := by
  show (decide (q.num ≤ 1000000000000000000000000000000) && decide ((q.den : Int) ≤ 1000000000000000000000000000000)) = true
  rw [decide_eq_true h.2.1, decide_eq_true h.2.2]
  rfl
theorem EdS.of {sp ra : Rat} {st : Option Rat} (h0 : 0 < sp) (h1 : Cap sp) (h2 : ∀ q, st = some q → Cap q) (h3 : Cap ra) (h4 : st = none → ra = 0) : EdS ⟨sp, st, ra⟩ := by
  refine ⟨⟨h0, fun q e => (h2 q e).1, h3.1, h4⟩, ?_⟩
  show (LK.capD (fD sp) && (LK.capD (oD st) && (LK.capD (fD ra) && true))) = true
  rw [h1.capD, h3.capD]
  cases st with
  | none => rfl
  | some q => rw [show oD (some q) = fD q from rfl, (h2 q rfl).capD]; rfl
theorem cap_div {t b : Int} (t0 : 0 ≤ t) (b0 : 0 < b) (t1 : t ≤ 1000000000000000000000000000000) (b1 : b ≤ 1000000000000000000000000000000) : Cap (Rat.divInt t b) := by
  obtain ⟨h1, h2, h3, _⟩ := div_facts t0 b0
  exact ⟨h1, by omega, by omega⟩
theorem sm100 {x : Int} (h0 : 0 ≤ x) (h1 : x ≤ 1000000000000000000000000000000) : Sm 8000 x := by
  have : Sm 100 x := by
    unfold Sm
    have : (2 : Nat) ^ 100 = 1267650600228229401496703205376 := by decide
    omega
  exact this.mono (by decide)
def wMoment : PW0 := fun xs cs post _ => ∃ m : Int, xs = [.cel 0, .dat (.int m)] ∧ cs = [.drw] ∧ 0 < m ∧ m ≤ 1000000000000000000000000000000 ∧ ∀ q, Cap q → post (.dat (fD q)) [.drw]
theorem ok_l_moment (T : Txt K mg) : FnOk P w K mg base CX0 3 T.a_l_moment T.d_l_moment ["_law_state", "_law_most"] (spG K wMoment) := by
  refine T.F_l_moment.ok sc_l_moment (fun vs H Q E h => spG_len h fun xs cs post exc ⟨m, e, _⟩ => by rw [e]; rfl) (fun cdv A outer s H vs Q E hr h => ⟨_, (pss_one (ps_ret (pe_call (ok_l_lowest T) (hr.mono (by decide)) (by rfl) T.g_l_lowest T.F_l_lowest.kp T.b_l_lowest .nil pass0 (pa_cons (pe_call (ok_l_digit T) (hr.mono (by decide)) (by rfl) T.g_l_digit T.F_l_digit.kp T.b_l_digit .nil pass0 (pa_cons (pv 0) (pa_cons (pv 1) pa_nil))) (pa_cons (pe_op op_add pe_int (pe_call (ok_l_digit T) (hr.mono (by decide)) (by rfl) T.g_l_digit T.F_l_digit.kp T.b_l_digit .nil pass0 (pa_cons (pv 0) (pa_cons (pe_ix ix_list (pe_lst (pa_cons pe_int (pa_cons pe_int (pa_cons (pe_op op_pow pe_int pe_int) pa_nil)))) (pe_call (ok_l_digit T) (hr.mono (by decide)) (by rfl) T.g_l_digit T.F_l_digit.kp T.b_l_digit .nil pass0 (pa_cons (pv 0) (pa_cons pe_int pa_nil))) (fun _ _ => rfl)) pa_nil)))) pa_nil))))), enter h fun F xs cs post hE hw => ?_⟩)
  obtain ⟨m, rfl, rfl, m0, m1, q⟩ := hw
  walk_at "D"
  refine wsp_digit rfl m0 (by omega) fun a a0 a1 => ?_
  walk_at "D"
  refine wr_Ii ⟨by decide, by decide, by decide⟩ ?_
  rw [p30]
  walk_at "D"
  refine wsp_digit rfl (by decide) (by decide) fun g g0 g1 => ?_
  walk_at "D"
  refine wr_ixA (by walk_at "il") g0 (by show g < ((3 : Nat) : Int); exact g1) fun bd hd => ?_
  obtain ⟨b, rfl, b0, b1⟩ : ∃ b : Int, bd = .int b ∧ 0 < b ∧ b ≤ 1000000000000000000000000000000 := by
    simp only [List.mem_cons, List.not_mem_nil, or_false] at hd
    rcases hd with rfl | rfl | rfl <;> exact ⟨_, rfl, by decide, by decide⟩
  clear hd
  walk_at "D"
  refine wsp_digit rfl b0 (by omega) fun d d0 d1 => ?_
  walk_at "D"
  walk_at "c"
  refine ⟨_, _, rfl, rfl, by omega, sm100 (by omega) (by omega), rfl, ?_⟩
  walk_at "D"
  exact fin_dat rfl (q _ (cap_div a0 (by omega) (by omega) (by omega)))
def wEdit : PW0 := fun xs cs post _ => xs = [.cel 0] ∧ cs = [.drw] ∧ ∀ e : Ed, EdS e → post (.dat (eD e)) [.drw]
theorem ok_l_edit (T : Txt K mg) : FnOk P w K mg base CX0 4 T.a_l_edit T.d_l_edit ["_law_state"] (spG K wEdit) := by
  refine T.F_l_edit.ok sc_l_edit (fun vs H Q E h => spG_len h fun xs cs post exc ⟨e, _⟩ => by rw [e]; rfl) (fun cdv A outer s H vs Q E hr h => ⟨_, (pss_cons (ps_set (i := 1) sc_l_edit.nd rfl (Or.inl rfl) (pe_ix ix_list (pe_lst (pa_cons pe_int (pa_cons pe_int (pa_cons (pe_op op_pow pe_int pe_int) pa_nil)))) (pe_call (ok_l_digit T) (hr.mono (by decide)) (by rfl) T.g_l_digit T.F_l_digit.kp T.b_l_digit .nil pass0 (pa_cons (pv 0) (pa_cons pe_int pa_nil))) (fun _ _ => rfl)))
      (pss_cons (ps_set (i := 2) sc_l_edit.nd rfl (Or.inl rfl) (pe_call (ok_l_lowest T) (hr.mono (by decide)) (by rfl) T.g_l_lowest T.F_l_lowest.kp T.b_l_lowest .nil pass0 (pa_cons (pe_op op_add pe_int (pe_call (ok_l_digit T) (hr.mono (by decide)) (by rfl) T.g_l_digit T.F_l_digit.kp T.b_l_digit .nil pass0 (pa_cons (pv 0) (pa_cons (pv 1) pa_nil)))) (pa_cons (pe_op op_add pe_int (pe_call (ok_l_digit T) (hr.mono (by decide)) (by rfl) T.g_l_digit T.F_l_digit.kp T.b_l_digit .nil pass0 (pa_cons (pv 0) (pa_cons pe_int pa_nil)))) pa_nil))))
      (pss_cons (ps_if (pt_cmpR op_eq (pe_call (ok_l_digit T) (hr.mono (by decide)) (by rfl) T.g_l_digit T.F_l_digit.kp T.b_l_digit .nil pass0 (pa_cons (pv 0) (pa_cons pe_int pa_nil))) pe_int (nomark _)) (pss_one (ps_ret (pe_tup (pa_cons (pv 2) (pa_cons pe_non (pa_cons (pe_tup (pa_cons pe_int (pa_cons pe_int pa_nil))) pa_nil)))))) pss_nil)
      (pss_one (ps_ret (pe_tup (pa_cons (pv 2) (pa_cons (pe_call (ok_l_moment T) (hr.mono (by decide)) (by rfl) T.g_l_moment T.F_l_moment.kp T.b_l_moment .nil pass0 (pa_cons (pv 0) (pa_cons (pv 1) pa_nil))) (pa_cons (pe_call (ok_l_moment T) (hr.mono (by decide)) (by rfl) T.g_l_moment T.F_l_moment.kp T.b_l_moment .nil pass0 (pa_cons (pv 0) (pa_cons pe_int pa_nil))) pa_nil))))))))), enter h fun F xs cs post hE hw => ?_⟩)
  obtain ⟨rfl, rfl, q⟩ := hw
  walk_at "D"
  refine wr_Ii ⟨by decide, by decide, by decide⟩ ?_
  rw [p30]
  walk_at "D"
  refine wsp_digit rfl (by decide) (by decide) fun g g0 g1 => ?_
  walk_at "D"
  refine wr_ixA (by walk_at "il") g0 (by show g < ((3 : Nat) : Int); exact g1) fun bd hd => ?_
  obtain ⟨m, rfl, m0, m1⟩ : ∃ b : Int, bd = .int b ∧ 0 < b ∧ b ≤ 1000000000000000000000000000000 := by
    simp only [List.mem_cons, List.not_mem_nil, or_false] at hd
    rcases hd with rfl | rfl | rfl <;> exact ⟨_, rfl, by decide, by decide⟩
  clear hd
  walk_at "D"
  refine wsp_digit rfl m0 (by omega) fun a a0 a1 => ?_
  walk_at "D"
  refine wsp_digit rfl (by decide) (by decide) fun b b0 b1 => ?_
  walk_at "D"
  walk_at "c"
  refine ⟨_, _, rfl, rfl, by omega, sm100 (by omega) (by omega), rfl, ?_⟩
  have sp0 := (div_facts (t := 1 + a) (b := 1 + b) (by omega) (by omega)).2.2.2 (by omega)
  have sp := cap_div (t := 1 + a) (b := 1 + b) (by omega) (by omega) (by omega) (by omega)
  generalize Rat.divInt (1 + a) (1 + b) = S at *
  walk_at "D"
  refine wsp_digit rfl (by decide) (by decide) fun u u0 u1 => ?_
  walk_at "D"
  refine ifC (fun z => ?_) (fun z => ?_)
  · walk_at "D"
    exact fin_dat rfl (q ⟨S, none, 0⟩ (EdS.of sp0 sp (fun _ z => nomatch z) ⟨by decide, by decide, by decide⟩ (fun _ => rfl)))
  · walk_at "D"
    walk_at "cd"
    refine ⟨m, rfl, rfl, m0, m1, fun x hx => ⟨rfl, rfl, ?_⟩⟩
    walk_at "D"
    walk_at "cd"
    refine ⟨5, rfl, rfl, by decide, by decide, fun y hy => ⟨rfl, rfl, ?_⟩⟩
    walk_at "D"
    exact fin_dat rfl (q ⟨S, some x, y⟩ (EdS.of sp0 sp (fun _ z => by cases z; exact hx) hy (fun z => nomatch z)))
end

section
variable {P : Program} {w : World} {K : PySem.W.Frag} {mg : Str → Option Value} {base : Heap}
section
variable {X : Cx} {K : PySem.W.Frag}
theorem call_list_ofK (h : X.K = K) : CallR X (.type "list") (fun xs H Q => ∃ p ys, xs = [.ref p] ∧ (SqL K H p ys ∨ SqT K H p ys) ∧ ∀ l, H l = none → Q (.ref l) (upd H l (.lst ys))) := h ▸ call_list_of
end
local macro_rules | `(tactic| walk_at "G") => `(tactic| repeat ((fail_if_success (with_reducible refine ws_seq ?_)); first
  | walk_at "d"
  | refine ifT rfl ?_
  | refine ifF rfl ?_))
def wHead : PW0 := fun xs cs post _ => xs = [.cel 0] ∧ cs = [.drw] ∧ ∀ (s v : Int) (ls : List Hl), HdOk s v ls → (∀ x ∈ ls, x.es.length ≤ 4) → post (.dat (hdD s v ls)) [.drw]
theorem hards_app {A B : List D} (h : hards A = true) (k : hards B = true) : hards (A ++ B) = true := by
  induction A with
  | nil => exact k
  | cons a A ih =>
    have h : (hard a && hards A) = true := h
    rw [Bool.and_eq_true] at h
    show (hard a && hards (A ++ B)) = true
    rw [h.1, ih h.2]
    rfl
theorem ok_l_head (T : Txt K mg) : FnOk P w K mg base CX0 5 T.a_l_head T.d_l_head ["_law_state"] (spG K wHead) := by
  refine T.F_l_head.ok sc_l_head (fun vs H Q E h => spG_len h fun xs cs post exc ⟨e, _⟩ => by rw [e]; rfl) (fun cdv A outer s H vs Q E hr h => ⟨_, (pss_cons (ps_set (i := 1) sc_l_head.nd rfl (Or.inl rfl) (pe_lst pa_nil))
      (pss_cons (ps_for PassesOwn.never rfl (pi_range1 (by rfl) T.m_range (pa_cons (pe_op op_add pe_int (pe_call (ok_l_digit T) (hr.mono (by decide)) (by rfl) T.g_l_digit T.F_l_digit.kp T.b_l_digit .nil pass0 (pa_cons (pv 0) (pa_cons (pe_ix ix_list (pe_lst (pa_cons pe_int (pa_cons pe_int pa_nil))) (pe_call (ok_l_digit T) (hr.mono (by decide)) (by rfl) T.g_l_digit T.F_l_digit.kp T.b_l_digit .nil pass0 (pa_cons (pv 0) (pa_cons pe_int pa_nil))) (fun _ _ => rfl)) pa_nil)))) pa_nil)) (pg_name (i := 2) sc_l_head.nd rfl (Or.inl rfl))
        (pss_cons (ps_setLc (i := 3) (own := [("_law_j", 5)]) (g := gName 5) (tt := tYes) (by rfl) sc_l_head.nd rfl rfl (sw_true rfl rfl rfl (by decide +kernel)) (pi_range1 (by rfl) T.m_range (pa_cons (pe_call (ok_l_digit T) (hr.mono (by decide)) (by rfl) T.g_l_digit T.F_l_digit.kp T.b_l_digit .nil pass0 (pa_cons (pv 0) (pa_cons pe_int pa_nil))) pa_nil)) (blkOk_by (own := [("_law_j", 5)]) (N := N_l_head) (sc := defScope s_l_head) (by decide +kernel)) (fun _ _ _ _ _ => (pg_name (i := 5) sc_l_head.nd rfl (Or.inl rfl))) (fun _ _ _ _ _ => pts_nil) (fun _ _ _ _ _ => (pe_call (ok_l_edit T) (hr.mono (by decide)) (by rfl) T.g_l_edit T.F_l_edit.kp T.b_l_edit .nil pass0 (pa_cons (pv 0) pa_nil))))
      (pss_cons (ps_set (i := 4) sc_l_head.nd rfl (Or.inl rfl) (pe_ix ix_list (pe_lst (pa_cons pe_int (pa_cons pe_int (pa_cons (pe_op op_add pe_int (pe_call (ok_l_digit T) (hr.mono (by decide)) (by rfl) T.g_l_digit T.F_l_digit.kp T.b_l_digit .nil pass0 (pa_cons (pv 0) (pa_cons (pe_op op_pow pe_int pe_int) pa_nil)))) pa_nil)))) (pe_call (ok_l_digit T) (hr.mono (by decide)) (by rfl) T.g_l_digit T.F_l_digit.kp T.b_l_digit .nil pass0 (pa_cons (pv 0) (pa_cons pe_int pa_nil))) (fun _ _ => rfl)))
      (pss_one (ps_expr (pe_bm PySem.F.plainAttrs_list PySem.F.slot_list_append PySem.F.type_list_append mt_append (pv 1) (pa_cons (pe_tup (pa_cons (pv 4) (pa_cons (pe_call (ok_l_digit T) (hr.mono (by decide)) (by rfl) T.g_l_digit T.F_l_digit.kp T.b_l_digit .nil pass0 (pa_cons (pv 0) (pa_cons pe_int pa_nil))) (pa_cons (pv 3) pa_nil)))) pa_nil)))))))
      (pss_one (ps_ret (pe_tup (pa_cons (pe_call (ok_l_digit T) (hr.mono (by decide)) (by rfl) T.g_l_digit T.F_l_digit.kp T.b_l_digit .nil pass0 (pa_cons (pv 0) (pa_cons (pe_op op_add (pe_op op_pow pe_int pe_int) pe_int) pa_nil))) (pa_cons (pe_op op_add pe_int (pe_call (ok_l_digit T) (hr.mono (by decide)) (by rfl) T.g_l_digit T.F_l_digit.kp T.b_l_digit .nil pass0 (pa_cons (pv 0) (pa_cons pe_int pa_nil)))) (pa_cons (pv 1) pa_nil)))))))), enter h fun F xs cs post hE hw => ?_⟩)
  obtain ⟨rfl, rfl, q⟩ := hw
  walk_at "D"
  refine wsp_digit rfl (by decide) (by decide) fun g g0 g1 => ?_
  walk_at "D"
  refine wr_ixA (by walk_at "il") g0 (by show g < ((2 : Nat) : Int); exact g1) fun bd hd => ?_
  obtain ⟨m, rfl, m0, m1⟩ : ∃ b : Int, bd = .int b ∧ 0 < b ∧ b ≤ 8 := by
    simp only [List.mem_cons, List.not_mem_nil, or_false] at hd
    rcases hd with rfl | rfl <;> exact ⟨_, rfl, by decide, by decide⟩
  clear hd
  walk_at "D"
  refine wsp_digit rfl m0 (by omega) fun t t0 t1 => ?_
  obtain ⟨n, rfl⟩ : ∃ n : Nat, t = n := ⟨t.toNat, by omega⟩
  walk_at "D"
  refine ⟨⟨by omega, by omega⟩, ?_⟩
  rw [show (1 + (n : Int)).toNat = n + 1 by omega]
  walk_at "nr2"
  refine loop_rng (fun i ρ => ∃ (ls : List Hl) (a : Option AV) (b c : Option D), ρ = ⟨[some (.cel 0), some (.cel 1), a, b.map .dat, c.map .dat, none], [.drw, .lst (ls.map Hl.told), .lst [.int 3, .int 8]]⟩ ∧ ls.length = i ∧ (∀ l ∈ ls, l.ok) ∧ ∀ l ∈ ls, l.es.length ≤ 4) ⟨[], _, none, none, rfl, rfl, (fun _ m => nomatch m), fun _ m => nomatch m⟩ ?_ ?_
  · rintro ρ ⟨ls, a, b, c, rfl, hl, hv, hw4⟩
    refine ⟨trivial, ?_⟩
    walk_at "nr2"
    refine ws_frz (j := 1) (ds := ls.map Hl.told) rfl ?_
    walk_at "nr4"
    walk_at "D"
    refine wr_Ii ⟨by decide, by decide, by decide⟩ ?_
    rw [p9]
    walk_at "D"
    refine wsp_digit rfl (by decide) (by decide) fun s s0 s1 => ?_
    walk_at "D"
    refine wsp_digit rfl (by decide) (by decide) fun v v0 v1 => ?_
    walk_at "D"
    exact fin_dat rfl (q s (1 + v) ls ⟨⟨s0, by omega⟩, ⟨by omega, by omega⟩, ⟨by omega, by omega⟩, hv⟩ hw4)
  · rintro i ρ hi ⟨ls, a, b, c, rfl, hl, hv, hw4⟩
    refine ⟨trivial, ?_⟩
    walk_at "G"
    refine ws_seq ?_
    walk_at "G"
    refine wsp_digit rfl (by decide) (by decide) fun t t0 t1 => ?_
    obtain ⟨k, rfl⟩ : ∃ n : Nat, t = n := ⟨t.toNat, by omega⟩
    walk_at "G"
    refine ⟨⟨by omega, by omega⟩, ?_⟩
    rw [show ((k : Int)).toNat = k by omega]
    walk_at "nr2"
    refine loopC_rng (fun y ρ => ∃ (es : List Ed), ρ = ⟨[some (.cel 0), some (.cel 1), some (.dat (.int (0 + (i : Int)))), b.map .dat, c.map .dat, none], [.drw, .lst (ls.map Hl.told), .lst [.int 3, .int 8], .lst (es.map eD)]⟩ ∧ es.length = y ∧ ∀ e ∈ es, EdS e) ⟨[], rfl, rfl, fun _ m => nomatch m⟩ ?_ ?_
    · rintro ρ ⟨es, rfl, hel, hev⟩
      refine ⟨trivial, ?_⟩
      walk_at "G"
      walk_at "nr2"
      refine ws_frz (j := 3) (ds := es.map eD) rfl ?_
      walk_at "nr4"
      walk_at "D"
      refine wr_Ii ⟨by decide, by decide, by decide⟩ ?_
      rw [p6]
      walk_at "D"
      refine wsp_digit rfl (by decide) (by decide) fun x x0 x1 => ?_
      walk_at "D"
      refine wsp_digit rfl (by decide) (by decide) fun z z0 z1 => ?_
      walk_at "D"
      refine wr_ixA (by walk_at "il") z0 (by show z < ((3 : Nat) : Int); exact z1) fun bd hd => ?_
      obtain ⟨u, rfl, u0, u1⟩ : ∃ b : Int, bd = .int b ∧ 1 ≤ b ∧ b ≤ 1000000 := by
        simp only [List.mem_cons, List.not_mem_nil, or_false] at hd
        rcases hd with rfl | rfl | rfl
        · exact ⟨_, rfl, by decide, by decide⟩
        · exact ⟨_, rfl, by decide, by decide⟩
        · exact ⟨_, rfl, by omega, by omega⟩
      clear hd
      walk_at "D"
      refine wsp_digit rfl (by decide) (by decide) fun y y0 y1 => ?_
      walk_at "D"
      · rw [List.length_map]; omega
      refine now ⟨ls ++ [⟨u, y, es⟩], some (.dat (.int (0 + (i : Int)))), some (.lst (es.map eD)), some (.int u), ?_, by rw [List.length_append, hl]; rfl, fun v hv2 => ?_, fun v hv2 => ?_⟩
      · rw [List.map_append]; rfl
      · rcases List.mem_append.mp hv2 with hv2 | hv2
        · exact hv v hv2
        · rw [List.mem_singleton.mp hv2]; exact ⟨⟨u0, u1⟩, ⟨y0, by show y ≤ 200; omega⟩, by show es.length ≤ 60; omega, hev⟩
      · rcases List.mem_append.mp hv2 with hv2 | hv2
        · exact hw4 v hv2
        · rw [List.mem_singleton.mp hv2]; show es.length ≤ 4; omega
    · rintro y ρ hy ⟨es, rfl, hel, hev⟩
      refine ⟨trivial, ?_⟩
      walk_at "D"
      walk_at "cd"
      refine ⟨rfl, rfl, fun e he => ⟨rfl, rfl, ?_⟩⟩
      walk_at "D"
      · rw [List.length_map]; omega
      refine now ⟨es ++ [e], ?_, by rw [List.length_append, hel]; rfl, fun v hv2 => ?_⟩
      · rw [List.map_append]; cases b <;> cases c <;> rfl
      · rcases List.mem_append.mp hv2 with hv2 | hv2
        · exact hev v hv2
        · rw [List.mem_singleton.mp hv2]; exact he
/-! kept, kinds -/
def wKept : PW0 := fun xs cs post _ => ∃ (s v : Int) (ls : List Hl), xs = [.dat (hdD s v ls)] ∧ cs = [] ∧ HdOk s v ls ∧ post (.dat (hdD s v ls)) []
theorem ok_l_kept (T : Txt K mg) : FnOk P w K mg base CX0 1 T.a_l_kept T.d_l_kept ["_law_head_here"] (spG K wKept) := by
  refine T.F_l_kept.ok sc_l_kept (fun vs H Q E h => spG_len h fun xs cs post exc ⟨a, b, c, e, _⟩ => by rw [e]; rfl) (fun cdv A outer s H vs Q E hr h => ⟨_, (pss_one (ps_ret (pe_tup (pa_cons (pe_ix ix_tup (pv 0) pe_int (fun _ _ => rfl)) (pa_cons (pe_ix ix_tup (pv 0) pe_int (fun _ _ => rfl)) (pa_cons (pe_lc (own := [("_law_units", 1), ("_law_count", 2), ("_law_rows", 3)]) (g := gTup K 3 (gCons (gName 1) (gCons (gName 2) (gCons (gName 3) gNil)))) (tt := tYes) (by rfl) sc_l_kept.nd (pi_list (pe_ix ix_tup (pv 0) pe_int (fun _ _ => rfl))) (blkOk_by (own := [("_law_units", 1), ("_law_count", 2), ("_law_rows", 3)]) (N := N_l_kept) (sc := defScope s_l_kept) (by decide +kernel)) (fun _ _ _ _ _ => (pg_tup rfl (pgs_cons (pg_name (i := 1) sc_l_kept.nd rfl (Or.inl rfl)) (pgs_cons (pg_name (i := 2) sc_l_kept.nd rfl (Or.inl rfl)) (pgs_cons (pg_name (i := 3) sc_l_kept.nd rfl (Or.inl rfl)) pgs_nil))))) (fun _ _ _ _ _ => pts_nil) (fun _ _ _ _ _ => (pe_tup (pa_cons (pv 1) (pa_cons (pv 2) (pa_cons (pe_callTy (call_list_ofK (K := K) rfl) (by rfl) T.m_list (by decide +kernel) (pa_cons (pv 3) pa_nil)) pa_nil)))))) pa_nil)))))), enter h fun F xs cs post hE hw => ?_⟩)
  obtain ⟨s, v, ls, rfl, rfl, ok, q⟩ := hw
  unfold hdD
  walk_at "D"
  refine loopC_by (fun dd ρ => ∃ (done rest : List Hl), ls = done ++ rest ∧ dd = rest.map Hl.told ∧ ρ = ⟨[some (.dat (hdD s v ls)), none, none, none], [.lst (done.map Hl.told)]⟩) ⟨[], ls, rfl, rfl, rfl⟩ ?_ ?_
  · rintro ρ ⟨done, rest, e1, e2, rfl⟩
    have e3 : rest = [] := by cases rest with | nil => rfl | cons => cases e2
    subst e3
    rw [List.append_nil] at e1
    subst e1
    refine ⟨.dat _, ?_⟩
    walk_at "D"
    exact fin_dat rfl q
  · rintro d dd ρ ⟨done, rest, e1, e2, rfl⟩
    cases rest with
    | nil => cases e2
    | cons r rest =>
      obtain ⟨rfl, rfl⟩ := List.cons.inj e2
      have h6 : ls.length = done.length + (rest.length + 1) := by rw [e1, List.length_append, List.length_cons]
      have ln := ok.2.2.1
      refine ⟨.dat _, ?_⟩
      show WpG K F _ (.dat (.tup [.int r.u, .int r.c, .lst (r.es.map eD)])) _ _
      refine wg_tup rfl ?_
      walk_at "D"
      · rw [List.length_map]; omega
      refine now ⟨done ++ [r], rest, by rw [e1, List.append_assoc]; rfl, rfl, ?_⟩
      rw [List.map_append]
      rfl
theorem isT_tup (ds : List D) : isT "tuple" (.tup ds) = true := (show isT "tuple" (D.tup ds) = isT "tuple" (D.tup []) from rfl).trans (by decide +kernel)
theorem isT_lst (ds : List D) : isT "list" (.lst ds) = true := (show isT "list" (D.lst ds) = isT "list" (D.lst []) from rfl).trans (by decide +kernel)
def wKinds : PW0 := fun xs cs post _ => ∃ (s v : Int) (ls : List Hl), xs = [.dat (hdD s v ls)] ∧ cs = [] ∧ ls.length ≤ 8 ∧ post (.dat (.bl true)) []
theorem ok_l_kinds (T : Txt K mg) : FnOk P w K mg base CX0 1 T.a_l_kinds T.d_l_kinds ["_law_head_here"] (spG K wKinds) := by
  refine T.F_l_kinds.ok sc_l_kinds (fun vs H Q E h => spG_len h fun xs cs post exc ⟨a, b, c, e, _⟩ => by rw [e]; rfl) (fun cdv A outer s H vs Q E hr h => ⟨_, (pss_cons (ps_if (PW.pt (pw_or (pt_not (pt_val (pe_callB call_isi (by rfl) T.m_isinstance (by decide +kernel) (pa_cons (pv 0) (pa_cons (pe_bltn (v := .ty "tuple") (by rfl) T.m_tuple (by decide +kernel) rfl) pa_nil))))) (pw_or1 (pt_not (pt_val (pe_callB call_isi (by rfl) T.m_isinstance (by decide +kernel) (pa_cons (pe_ix ix_tup (pv 0) pe_int (fun _ _ => rfl)) (pa_cons (pe_bltn (v := .ty "list") (by rfl) T.m_list (by decide +kernel) rfl) pa_nil)))))))) (pss_one (ps_ret pe_bl)) pss_nil)
      (pss_one (ps_ret (pe_callB (cr_all rfl) (by rfl) T.m_all (by decide +kernel) (pa_cons (pe_lc (own := [("_law_lane", 1)]) (g := gName 1) (tt := tYes) (by rfl) sc_l_kinds.nd (pi_list (pe_ix ix_tup (pv 0) pe_int (fun _ _ => rfl))) (blkOk_by (own := [("_law_lane", 1)]) (N := N_l_kinds) (sc := defScope s_l_kinds) (by decide +kernel)) (fun _ _ _ _ _ => (pg_name (i := 1) sc_l_kinds.nd rfl (Or.inl rfl))) (fun _ _ _ _ _ => pts_nil) (fun _ _ _ _ _ => (pe_and (pe_callB (call_isiB (K := K) rfl) (by rfl) T.m_isinstance (by decide +kernel) (pa_cons (pv 1) (pa_cons (pe_bltn (v := .ty "tuple") (by rfl) T.m_tuple (by decide +kernel) rfl) pa_nil))) (pe_one (pe_callB (call_isiB (K := K) rfl) (by rfl) T.m_isinstance (by decide +kernel) (pa_cons (pe_ix (ix_tupK (K := K) rfl) (pv 1) pe_int (fun _ _ => rfl)) (pa_cons (pe_bltn (v := .ty "list") (by rfl) T.m_list (by decide +kernel) rfl) pa_nil))))))) pa_nil))))), enter h fun F xs cs post hE hw => ?_⟩)
  obtain ⟨s, v, ls, rfl, rfl, ln, q⟩ := hw
  unfold hdD
  walk_at "D"
  refine loopC_by (fun dd ρ => ∃ (done rest : List Hl), ls = done ++ rest ∧ dd = rest.map Hl.told ∧ ρ = ⟨[some (.dat (hdD s v ls)), none], [.lst ((done.map fun _ => true).map D.bl)]⟩) ⟨[], ls, rfl, rfl, rfl⟩ ?_ ?_
  · rintro ρ ⟨done, rest, e1, e2, rfl⟩
    have e3 : rest = [] := by cases rest with | nil => rfl | cons => cases e2
    subst e3
    rw [List.append_nil] at e1
    subst e1
    refine ⟨.dat _, ?_⟩
    walk_at "D"
    refine wc_all (bs := ls.map fun _ => true) (.cel rfl) ?_
    rw [show (ls.map fun _ => true).all id = true by rw [List.all_eq_true]; intro b hb; obtain ⟨_, _, rfl⟩ := List.mem_map.mp hb; rfl]
    exact fin_dat rfl q
  · rintro d dd ρ ⟨done, rest, e1, e2, rfl⟩
    cases rest with
    | nil => cases e2
    | cons r rest =>
      obtain ⟨rfl, rfl⟩ := List.cons.inj e2
      have h6 : ls.length = done.length + (rest.length + 1) := by rw [e1, List.length_append, List.length_cons]
      refine ⟨.dat _, ?_⟩
      rw [show Hl.told r = .tup [.int r.u, .int r.c, .lst (r.es.map eD)] from rfl]
      walk_at "D"
      · rw [List.length_map, List.length_map]; omega
      refine now ⟨done ++ [r], rest, by rw [e1, List.append_assoc]; rfl, rfl, ?_⟩
      rw [isT_lst, List.map_append, List.map_append]
      rfl
end

section
variable {P : Program} {w : World} {K : PySem.W.Frag} {mg : Str → Option Value} {base : Heap}
/-! ### a thing laid that nobody looks at -/
section
variable {K : PySem.W.Frag} {F : Fx} {ρ : En}
theorem EnvOk.newH {as : List Addr} {σ : L2.St} {H G : Hp} {p : Addr} {o : HO} (e : EnvOk K F ρ as σ H G) (hp : H p = none) : EnvOk K F ρ as σ (upd H p o) G := by
  refine ⟨fun a u h => upd_old hp (e.gh _ _ h), Same.new e.fh hp, e.fg, e.g0, e.nd, e.pr, e.ln, fun j c a hc ha => ?_, e.sn, e.sl, by obtain ⟨Ts, r⟩ := e.rg; exact ⟨Ts, r.same (fun _ _ _ _ h => upd_old hp h) (fun _ _ _ g => g) (fun _ z => z) fun _ _ z => .inl z⟩⟩
  obtain ⟨f, ⟨u, hu⟩, ok⟩ := e.ce j c a hc ha
  refine ⟨f, ⟨u, upd_old hp hu⟩, ?_⟩
  cases c with
  | gone => trivial
  | reg t X => exact ok
  | lst ds => obtain ⟨g, vs, h, r⟩ := ok; exact ⟨g, vs, upd_old hp h, r⟩
  | ins C9 ns9 ds => obtain ⟨g, dx9, vs, h, ln9, r⟩ := ok; exact ⟨g, dx9, vs, upd_old hp h, ln9, r⟩
  | drw => obtain ⟨g, vs, h, r⟩ := ok; exact ⟨g, vs, upd_old hp h, r⟩
  | oth X => obtain ⟨g, o9, h, r⟩ := ok; exact ⟨g, o9, upd_old hp h, r⟩
end
/-! ### isinstance of a caught error, of one class of several; {k: v} -/
section
variable {K : PySem.W.Frag} {F : Fx} {ρ : En} {k : AV → En → Prop}
theorem reps_cls {G : Hp} {as : List Addr} : ∀ {ys : List Addr} {vs : List V}, RepAs K G as (ys.map fun y => .dat (.cls y)) vs → vs = ys.map V.ref
  | [], _, h => by cases h; rfl
  | y :: ys, _, h => by
    cases h with
    | cons a b => cases (show Rep K G (.cls y) _ from a); rw [reps_cls b]; rfl
theorem paired_cls : ∀ (ys : List Addr), Paired ClsV (ys.map V.ref) (ys.map Value.ref)
  | [] => .nil
  | y :: ys => .cons (.own y) (paired_cls ys)
theorem we_isEs {i : Nat} {e C : Addr} (ys : List Addr) {ta : TA} {b : Bool} (hv : ρ.sl[i]? = some (some (.dat (.cls e)))) (hl : Nat.ble ys.length 1000 = true) (xc : ExcC K C) (ka : PySem.W.kitAny K (.ref C) (ys.map Value.ref) = some b) (hta : WpA K F ta ρ fun avs ρ1 => avs = ys.map (fun y => AV.dat (.cls y)) ∧ k (.dat (.bl b)) ρ1) :
    WpE K F (tCB (rIsEs K (.ref C) none e) (tCons (tVar i) (tCons (tTup ta) tNil))) ρ k := fun as σ H G en Q q => by
  obtain ⟨v, hs, rv⟩ := en.sl i _ hv
  cases (show Rep K G (.cls e) v from rv)
  refine ⟨_, hs, hta as σ H G en _ ?_⟩
  rintro avs ρ1 vs as1 H1 G1 ⟨rfl, hk⟩ e1 g1 r1
  have ev := reps_cls r1
  subst ev
  refine ⟨sz (by rw [List.length_map]; exact hl), fun p hp => ?_⟩
  refine ⟨C, p, ys.map V.ref, ys.map Value.ref, b, rfl, rfl, xc, rfl, upd_same, paired_cls ys, ka, ?_⟩
  exact q _ ρ1 _ as1 _ G1 hk (e1.newH hp) g1 (Rep.bl _)
theorem we_disp1 {x : Str} {i : Nat} {av : AV} (hv : ρ.sl[i]? = some (some av)) (h : k (.dat .dic) ρ) : WpE K F (tDisp [(tC (.str x), tVar i)]) ρ k := fun as σ H G e Q q p hp => by
  obtain ⟨v, hs, rv⟩ := e.sl i _ hv
  obtain ⟨e3, g3⟩ := e.newG (o := .dK (mergeK [] [((.inr x : Key), v)])) hp
  refine ⟨v, hs, upd_same, [(.inr x, v)], rfl, Nat.le_of_ble_eq_true rfl, ?_⟩
  rw [upd_upd]
  exact q _ _ _ _ _ _ h e3 g3 (Rep.dic upd_same)
end
/-! ### lists of numbers: what a law compares -/
theorem fines_ints (n : Nat) (ns : List Int) : fines n (ns.map D.int) = true := by
  induction ns with
  | nil => cases n <;> rfl
  | cons x ns ih => cases n <;> exact ih
theorem noBs_ints (ns : List Int) : noBs (ns.map D.int) = true := by
  induction ns with
  | nil => rfl
  | cons x ns ih => exact ih
theorem fine_ints (n : Nat) (ns : List Int) : fine (n + 1) (.lst (ns.map D.int)) = true := by rw [fine]; exact fines_ints n ns
theorem self_ints (ns : List Int) : (!eqD (.lst (ns.map D.int)) (.lst (ns.map D.int))) = false := by
  rw [(eqD_iff (.lst (ns.map D.int)) (.lst (ns.map D.int)) (noBs_ints ns) (noBs_ints ns)).mpr rfl]; rfl
theorem lnR_body (ns : List Int) : lnR (.lst ((bodyI ns).map D.int)) = ((bodyI ns).length : Int) := by
  show (((bodyI ns).map D.int).length : Int) = _
  rw [List.length_map]
theorem mapI_inj {a b : List Int} (h : a.map D.int = b.map D.int) : a = b := (List.map_inj_right (fun x y e => by injection e)).mp h
theorem cut_last (xs : List D) : cutD xs none (some (-1)) = xs.dropLast := by
  unfold cutD
  rw [show HT.sIx xs.length 0 none = 0 from rfl, show HT.sIx xs.length xs.length (some (-1)) = xs.length - 1 by
    show (if (-1 : Int) < 0 then ((-1 : Int) + (xs.length : Int)).toNat else min (-1 : Int).toNat xs.length) = _
    rw [if_pos (by decide)]; omega]
  rw [List.drop_zero, Nat.sub_zero, List.dropLast_eq_take]
/-! ### what is refused -/
theorem rdMany_app {f : List Int → Option (D × List Int)} (hf : ∀ l d r t, f l = some (d, r) → f (l ++ t) = some (d, r ++ t)) : ∀ (n : Nat) (l : List Int) (ds : List D) (r t : List Int), rdMany f n l = some (ds, r) → rdMany f n (l ++ t) = some (ds, r ++ t)
  | 0, l, ds, r, t, h => by cases h; rfl
  | n + 1, l, ds, r, t, h => by
    rw [rdMany] at h ⊢
    cases he : f l with
    | none => rw [he] at h; cases h
    | some x =>
      obtain ⟨d, r2⟩ := x
      rw [he] at h
      rw [hf l d r2 t he]
      have h : (rdMany f n r2).map (fun x => (d :: x.1, x.2)) = some (ds, r) := h
      show (rdMany f n (r2 ++ t)).map (fun x => (d :: x.1, x.2)) = some (ds, r ++ t)
      cases hm : rdMany f n r2 with
      | none => rw [hm] at h; cases h
      | some y =>
        obtain ⟨es, r3⟩ := y
        rw [hm] at h
        cases h
        rw [rdMany_app hf n _ _ _ t hm]
        rfl
theorem rdEdit_app (l : List Int) (d : D) (r t : List Int) (h : rdEdit l = some (d, r)) : rdEdit (l ++ t) = some (d, r ++ t) := by
  match l, h with
  | a :: b :: k :: l, h =>
    have e1 : ∀ x : List Int, rdEdit (a :: b :: k :: x) = if k = 0 then some (.tup [.tup [.int a, .int b], .non, .tup [.int 0, .int 1]], x) else if k = 1 then (if x.length < 4 then none else some (.tup [.tup [.int a, .int b], .tup ((x.take 2).map D.int), .tup (((x.drop 2).take 2).map D.int)], x.drop 4)) else none := fun _ => rfl
    rw [List.cons_append, List.cons_append, List.cons_append, e1]
    rw [e1] at h
    by_cases k0 : k = 0
    · rw [if_pos k0] at h ⊢
      cases h
      rfl
    · rw [if_neg k0] at h ⊢
      by_cases k1 : k = 1
      · rw [if_pos k1] at h ⊢
        match l, h with
        | w :: x :: y :: z :: l, h =>
          rw [if_neg (by simp only [List.length_cons]; omega)] at h
          rw [if_neg (by simp only [List.length_cons, List.cons_append]; omega)]
          cases h
          rfl
        | [], h => cases h
        | [_], h => cases h
        | [_, _], h => cases h
        | [_, _, _], h => cases h
      · rw [if_neg k1] at h; cases h
  | [], h => cases h
  | [_], h => cases h
  | [_, _], h => cases h
theorem rdLane_app (l : List Int) (d : D) (r t : List Int) (h : rdLane l = some (d, r)) : rdLane (l ++ t) = some (d, r ++ t) := by
  match l, h with
  | a :: b :: m :: l, h =>
    have h : (rdMany rdEdit m.toNat l).map (fun x => (D.tup [.int a, .int b, .lst x.1], x.2)) = some (d, r) := h
    show (rdMany rdEdit m.toNat (l ++ t)).map (fun x => (D.tup [.int a, .int b, .lst x.1], x.2)) = some (d, r ++ t)
    cases hm : rdMany rdEdit m.toNat l with
    | none => rw [hm] at h; cases h
    | some y =>
      obtain ⟨es, r3⟩ := y
      rw [hm] at h
      cases h
      rw [rdMany_app rdEdit_app _ _ _ _ t hm]
      rfl
  | [], h => cases h
  | [_], h => cases h
  | [_, _], h => cases h
theorem okLs_app : ∀ (n : Nat) (l t : List Int), okLs n (l ++ t) → okLs n l
  | 0, _, _, _ => trivial
  | n + 1, l, t, h => ⟨fun a b m r e => h.1 a b m (r ++ t) (by rw [e]; rfl), fun d r e => okLs_app n r t (h.2 d (r ++ t) (rdLane_app l d r t e))⟩
theorem okHd_app {l t : List Int} (h : okHd (l ++ t)) : okHd l := fun a b m r e => by
  obtain ⟨h1, h2⟩ := h a b m (r ++ t) (by rw [e]; rfl)
  exact ⟨h1, okLs_app _ r t h2⟩
theorem rdHd_less {l : List Int} {z : Int} {x : Int × Int × List D} (h : rdHd (l ++ [z]) = some x) : rdHd l = none := by
  match l with
  | a :: b :: m :: r =>
    have e1 : ∀ y : List Int, rdHd (a :: b :: m :: y) = match rdMany rdLane m.toNat y with
      | some (ds, []) => if isHd (.tup [.int a, .int b, .lst ds]) = true then some (a, b, ds) else none
      | _ => none := fun _ => rfl
    rw [List.cons_append, List.cons_append, List.cons_append, e1] at h
    rw [e1]
    cases hm : rdMany rdLane m.toNat r with
    | none => rfl
    | some y =>
      obtain ⟨es, r3⟩ := y
      rw [rdMany_app rdLane_app _ _ _ _ [z] hm] at h
      cases r3 with
      | nil => cases h
      | cons => rfl
  | [] => rfl
  | [_] => rfl
  | [_, _] => rfl
def RefH (d : D) : Prop := pl d = true ∧ lnR d ≤ 100000 ∧ ∀ ns : List Int, d = .lst (ns.map D.int) → Byts ns → ∀ ms, parseN ns = some ms → (∀ m ∈ ms, 0 ≤ m) ∧ okHd ms ∧ rdHd ms = none
def wRefused (fr fb : Addr) : PW0 := fun xs cs post _ => ∃ (f : Addr) (d : D), xs = [.dat (.cls f), .dat d] ∧ cs = [] ∧ ((f = fr ∧ RefH d) ∨ (f = fb ∧ pl d = true ∧ isHd d = false)) ∧ post (.dat (.bl true)) []
theorem ok_l_refused (T : Txt K mg) : FnOk P w K mg base CX0 10 T.a_l_refused T.d_l_refused ["_law_ask", "_law_thing"] (spG K (wRefused T.a_read_head T.a_head_body)) := by
  refine T.F_l_refused.ok sc_l_refused (fun vs H Q E h => spG_len h fun xs cs post exc ⟨a, b, e, _⟩ => by rw [e]; rfl) (fun cdv A outer s H vs Q E hr h => ⟨_, (pss_cons (ps_tryT rfl rfl takes0
        (fun W pn xe tk po => (pss_one (ps_expr (pe_either (pe_callLS (i := 0) (ok_read_head T) (hr.mono (by decide)) rfl (Or.inl rfl) T.F_read_head.kp T.b_read_head (fun σ => passAt tk σ) (pa_cons (pv 1) pa_nil)) (pe_callLS (i := 0) (ok_head_body T) (hr.mono (by decide)) rfl (Or.inl rfl) T.F_head_body.kp T.b_head_body (fun σ => passAt tk σ) (pa_cons (pv 1) pa_nil))))))
        (.named (i := 2) sc_l_refused.nd rfl rfl ⟨rfl, by decide, .inl T.g_NoBody⟩ (fun a oe cls d pn hz hf => (pss_one (ps_ret (pe_not (pe_callB (call_isEs (K := K) rfl hz hf) (by rfl) T.m_isinstance (by decide +kernel) (pa_cons (pv 2) (pa_cons (pe_tup (pa_cons (pe_glob (v := .ref T.c_NoBytes) (by rfl) T.g_NoBytes rfl) (pa_cons (pe_glob (v := .ref T.c_NoLeaf) (by rfl) T.g_NoLeaf rfl) (pa_cons (pe_glob (v := .ref T.c_NoNumber) (by rfl) T.g_NoNumber rfl) pa_nil)))) pa_nil))))))) (.bare ⟨rfl, by decide, .inl T.g_ScrollError⟩ (fun a oe cls d pn hz hf => (pss_one (ps_ret pe_bl))) .nil)))
      (pss_one (ps_ret pe_bl))), enter h fun F xs cs post hE hw => ?_⟩)
  obtain ⟨f, d, rfl, rfl, hf, q⟩ := hw
  refine ws_seq ?_
  walk_at "nr2"
  refine ws_tryT (fun C ρ' => C = T.c_NoBody ∧ ρ' = ⟨[some (.dat (.cls f)), some (.dat d), none], []⟩) (fun F1 W _ hW => ?_) (fun C ρ' hx => ?_)
  · refine ws_drop ?_
    rcases hf with ⟨rfl, hp, hl, hr⟩ | ⟨rfl, hp, hi⟩
    · refine we_or1 ?_
      refine we_callLS rfl ?_
      walk_at "D"
      refine wspT hW (by walk_at "as") ⟨d, rfl, rfl, hp, hl, fun _ => ⟨rfl, rfl⟩, fun ns e hb => ⟨fun _ => ⟨rfl, rfl⟩, fun ms hm => ⟨(hr ns e hb ms hm).1, (hr ns e hb ms hm).2.1, fun _ => ⟨rfl, rfl⟩, fun s v ds z => by rw [(hr ns e hb ms hm).2.2] at z; cases z⟩⟩⟩
    · refine we_or2 ?_
      refine we_callLS rfl ?_
      walk_at "D"
      refine wspT hW (by walk_at "as") ⟨d, rfl, rfl, hp, fun _ => ⟨rfl, rfl⟩, fun s v ls e ok => by rw [e, isHd_mk ok] at hi; cases hi⟩
  · obtain ⟨rfl, rfl⟩ := hx
    refine ⟨true, T.em_NoBody_NoBody, fun e => ?_⟩
    refine ws_ret ?_
    refine we_notV ?_
    refine' we_isEs [T.c_NoBytes, T.c_NoLeaf, T.c_NoNumber] ?hv1 rfl T.xc_NoBody (b := false) (kitAny_cons T.io_NoBody_NoBytes (fun _ => kitAny_cons T.io_NoBody_NoLeaf (fun _ => kitAny_cons T.io_NoBody_NoNumber (fun _ => rfl) (fun z => nomatch z)) (fun z => nomatch z)) (fun z => nomatch z)) ?hz1
    (case hv1 => exact rfl)
    walk_at "D"
    refine we_cr (fun _ => Rep.cls _) ?_
    walk_at "D"
    refine we_cr (fun _ => Rep.cls _) ?_
    walk_at "D"
    refine we_cr (fun _ => Rep.cls _) ?_
    walk_at "D"
    refine ⟨rfl, false, rfl, ?_⟩
    exact fin_dat rfl q

theorem hdN_pos {s v : Int} {ls : List Hl} (h : HdOk s v ls) : ∀ n ∈ hdN s v ls, 0 ≤ n := fun n hn => ((hdN_Nums h).1 n hn).1
theorem ref_moreH {s v : Int} {ls : List Hl} (hi : HdOk s v ls) (hl : (bodyI (hdN s v ls)).length ≤ 99000) : RefH (.lst ((bodyI (hdN s v ls)).map D.int ++ [.int 0])) := by
  have e0 : (bodyI (hdN s v ls)).map D.int ++ [D.int 0] = (bodyI (hdN s v ls) ++ [0]).map D.int := by rw [List.map_append]; rfl
  rw [e0]
  refine ⟨by rw [pl]; exact pls_int _, ?_, fun ns e hb ms hm => ?_⟩
  · show (((bodyI (hdN s v ls) ++ [0]).map D.int).length : Int) ≤ _
    rw [List.length_map, List.length_append]
    simp only [List.length]
    omega
  · have e1 : bodyI (hdN s v ls) ++ [0] = ns := mapI_inj (by injection e)
    subst e1
    rw [parse_more (hdN_Nums hi).1] at hm
    cases hm
    refine ⟨fun m hm => ?_, okHd_mk hi [0], rdHd_cons hi [0]⟩
    rcases List.mem_append.mp hm with hm | hm
    · exact hdN_pos hi m hm
    · rw [List.mem_singleton.mp hm]; decide
theorem ref_lessH {s v : Int} {ls : List Hl} (hi : HdOk s v ls) (hl : (bodyI (hdN s v ls)).length ≤ 99000) : RefH (.lst ((bodyI (hdN s v ls)).map D.int).dropLast) := by
  have e0 : ((bodyI (hdN s v ls)).map D.int).dropLast = ((bodyI (hdN s v ls)).dropLast).map D.int := by rw [List.map_dropLast]
  rw [e0]
  refine ⟨by rw [pl]; exact pls_int _, ?_, fun ns e hb ms hm => ?_⟩
  · show ((((bodyI (hdN s v ls)).dropLast).map D.int).length : Int) ≤ _
    rw [List.length_map, List.length_dropLast]
    omega
  · have e1 : (bodyI (hdN s v ls)).dropLast = ns := mapI_inj (by injection e)
    subst e1
    have hn := (hdN_Nums hi).1
    have hs := hdN_pos hi
    have ho := okHd_mk hi []
    have hr := rdHd_cons hi []
    rw [List.append_nil] at ho hr
    have e2 : hdN s v ls = (hdN s v ls).dropLast ++ [(hdN s v ls).getLast (by unfold hdN; simp)] := (List.dropLast_concat_getLast _).symm
    obtain ⟨l2, hl2⟩ : ∃ l2, l2 = (hdN s v ls).dropLast := ⟨_, rfl⟩
    rw [← hl2] at e2
    rw [e2] at hm hn ho hr
    rcases parse_less hn with z | z
    · rw [z] at hm; cases hm
    · rw [z] at hm
      cases hm
      exact ⟨fun m hm => hs m (by rw [e2]; exact List.mem_append_left _ hm), okHd_app ho, rdHd_less hr⟩
theorem odd7H {B : List Int} : ∀ nd ∈ [D.non, D.str (Str.ofString ""), D.tup (B.map D.int), D.dic, D.int 0, D.lst [.int 256], D.lst [.non]], RefH nd := by
  intro nd hd
  simp only [List.mem_cons, List.not_mem_nil, or_false] at hd
  rcases hd with rfl | rfl | rfl | rfl | rfl | rfl | rfl
  · exact ⟨rfl, by decide, fun ns e => nomatch e⟩
  · exact ⟨rfl, by decide, fun ns e => nomatch e⟩
  · exact ⟨by rw [pl]; exact pls_int _, by show (0 : Int) ≤ 100000; decide, fun ns e => nomatch e⟩
  · exact ⟨rfl, by decide, fun ns e => nomatch e⟩
  · exact ⟨rfl, by decide, fun ns e => nomatch e⟩
  · refine ⟨by decide, by decide, fun ns e hb => ?_⟩
    have e1 : [(256 : Int)] = ns := mapI_inj (a := [256]) (by injection e)
    subst e1
    have := (hb 256 (by simp)).2
    omega
  · refine ⟨by decide, by decide, fun ns e hb => ?_⟩
    cases ns with
    | nil => injection e with e; cases e
    | cons x ns => injection e with e; cases e
end

local macro_rules | `(tactic| walk_at "E") => `(tactic| repeat (first
  | (with_reducible refine ws_seq ?_; walk_at "nr2")
  | walk_at "d"
  | refine we_dnew ?_
  | refine ifT rfl ?_
  | refine ifF rfl ?_))
section
variable {P : Program} {w : World} {K : PySem.W.Frag} {mg : Str → Option Value} {base : Heap}
/-! ### slices and sums of tuples by data -/
section
variable {K : PySem.W.Frag} {F : Fx} {ρ : En} {k : AV → En → Prop} {te : TE}
theorem we_slA {tl th : TO} (h : WpE K F te ρ fun x ρ1 => WpO K F tl ρ1 fun lo ρ2 => WpO K F th ρ2 fun hi ρ3 => ∃ ds, x = .dat (.tup ds) ∧ k (.dat (.tup (cutD ds lo hi))) ρ3) : WpE K F (tSl (rSlA K) te tl th) ρ k := fun as σ H G e Q q =>
  h as σ H G e _ fun x ρ1 vx as1 H1 G1 h1 e1 g1 r1 => h1 as1 σ H1 G1 e1 _ fun lo ρ2 as2 H2 G2 h2 e2 g2 => h2 as2 σ H2 G2 e2 _ fun hi ρ3 as3 H3 G3 ⟨ds, ex, h3⟩ e3 g3 => by
    subst ex
    have r3 := r1.mono (g2.trans g3)
    obtain ⟨a, vs, rfl, hs, hr⟩ := Rep.tupE r3
    have hs3 := Same.seqT e3.gh hs
    refine ⟨a, vs, rfl, hs3, fun z => ?_, fun _ p hp => ?_⟩
    · have ec : cutD ds lo hi = ds := by
        unfold cutD
        rw [← hr.length, z.1, z.2, List.drop_zero, Nat.sub_zero, hr.length, List.take_length]
      rw [ec] at h3
      exact q _ ρ3 _ as3 H3 G3 h3 e3 (g1.trans (g2.trans g3)) r3
    · obtain ⟨e4, g4⟩ := e3.newG (o := .tup (cutV vs lo hi)) hp
      exact q _ _ _ _ _ _ h3 e4 (g1.trans (g2.trans (g3.trans g4))) (Rep.tup (SqT.of upd_same) (Reps.mono g4.g _ _ (hr.cut lo hi)))
theorem wr_catA {ds es : List D} (hl : ds.length + es.length ≤ 1000) (hk : k (.dat (.tup (ds ++ es))) ρ) : WpR K F (rCatA K) (.dat (.tup ds)) (.dat (.tup es)) ρ k := fun as σ H G vx vy e r1 r2 Q q => by
  obtain ⟨a, vs, rfl, hs, hr⟩ := Rep.tupE r1
  obtain ⟨b, ws, rfl, hs2, hr2⟩ := Rep.tupE r2
  refine ⟨a, b, vs, ws, rfl, rfl, Same.seqT e.gh hs, Same.seqT e.gh hs2, szn (by rw [hr.length, hr2.length]; exact hl), fun z => ?_, fun _ z => ?_, fun _ _ p hp => ?_⟩
  · subst z
    have : ds = [] := List.length_eq_zero_iff.mp (by rw [← hr.length]; rfl)
    subst this
    exact q _ ρ _ as H G hk e .refl r2
  · subst z
    have : es = [] := List.length_eq_zero_iff.mp (by rw [← hr2.length]; rfl)
    subst this
    rw [List.append_nil] at hk
    exact q _ ρ _ as H G hk e .refl r1
  · obtain ⟨e4, g4⟩ := e.newG (o := .tup (vs ++ ws)) hp
    exact q _ _ _ _ _ _ hk e4 g4 (Rep.tup (SqT.of upd_same) (Reps.mono g4.g _ _ (hr.append hr2)))
end
/-! ### what is no rule, no leaf, no piece -/
theorem pls_of {l : List D} (h : ∀ d ∈ l, pl d = true) : pls l = true := by
  induction l with
  | nil => rfl
  | cons d l ih => rw [pls, h d List.mem_cons_self, ih fun x hx => h x (List.mem_cons_of_mem _ hx)]; rfl
theorem pls_app {A B : List D} (h : pls A = true) (k : pls B = true) : pls (A ++ B) = true := pls_of fun d hd => (List.mem_append.mp hd).elim (pls_mem h d) (pls_mem k d)
theorem pls_cutD {l : List D} (h : pls l = true) (lo hi : Option Int) : pls (cutD l lo hi) = true := pls_of fun d hd => pls_mem h d (List.mem_of_mem_drop (List.mem_of_mem_take hd))
theorem pls_reps {l : List D} (h : pls l = true) (n : Nat) : pls (List.replicate n l).flatten = true := pls_of fun d hd => by
  obtain ⟨y, hy, hd⟩ := List.mem_flatten.mp hd
  rw [List.eq_of_mem_replicate hy] at hd
  exact pls_mem h d hd
theorem cutD_len (l : List D) (lo hi : Option Int) : (cutD l lo hi).length ≤ l.length := by unfold cutD; rw [List.length_take, List.length_drop]; omega
/-- a closed list whose items are plain and none -/
def odds (f : D → Bool) (l : List D) : Bool := l.all fun d => pl d && !f d
theorem odds_of {f : D → Bool} {l : List D} (h : odds f l = true) {d : D} (hd : d ∈ l) : pl d = true ∧ f d = false := by
  have := List.all_eq_true.mp h d hd
  rw [Bool.and_eq_true, Bool.not_eq_true'] at this
  exact this
theorem rep_one (n : Nat) (x : D) : (List.replicate n [x]).flatten = List.replicate n x := by
  induction n with
  | zero => rfl
  | succ n ih => rw [List.replicate_succ, List.flatten_cons, ih, List.replicate_succ]; rfl
theorem pls_rep {x : D} (h : pl x = true) (n : Nat) : pls (List.replicate n x) = true := pls_of fun d hd => by rw [List.eq_of_mem_replicate hd]; exact h
def e0D : D := .tup [.tup [.int 1, .int 2], .tup [.int 0, .int 1], .tup [.int 1, .int 1]]
def okE (d : D) : Bool := isEd d && isSmD d
def wNoEdit : PW0 := fun xs cs post _ => xs = [.cel 0, .dat e0D] ∧ cs = [.drw] ∧ ∀ d, pl d = true → okE d = false → post (.dat d) [.drw]
theorem ok_l_no_edit (T : Txt K mg) : FnOk P w K mg base CX0 2 T.a_l_no_edit T.d_l_no_edit ["_law_state", "_law_row"] (spG K wNoEdit) := by
  refine T.F_l_no_edit.ok sc_l_no_edit (fun vs H Q E h => spG_len h fun xs cs post exc ⟨e, _⟩ => by rw [e]; rfl) (fun cdv A outer s H vs Q E hr h => ⟨_, (pss_cons (ps_set (i := 2) sc_l_no_edit.nd rfl (Or.inl rfl) (pe_lst (pa_cons pe_non (pa_cons (pe_slice sl_tupA (pv 1) po_none (po_some pe_int)) (pa_cons (pe_callTy call_list_of (by rfl) T.m_list (by decide +kernel) (pa_cons (pv 1) pa_nil)) (pa_cons (pe_tup (pa_cons (pe_tup (pa_cons pe_int (pa_cons pe_int pa_nil))) (pa_cons (pe_ix ix_tup (pv 1) pe_int (fun _ _ => rfl)) (pa_cons (pe_ix ix_tup (pv 1) pe_int (fun _ _ => rfl)) pa_nil)))) (pa_cons (pe_tup (pa_cons (pe_tup (pa_cons pe_int (pa_cons pe_int pa_nil))) (pa_cons (pe_ix ix_tup (pv 1) pe_int (fun _ _ => rfl)) (pa_cons (pe_ix ix_tup (pv 1) pe_int (fun _ _ => rfl)) pa_nil)))) (pa_cons (pe_tup (pa_cons (pe_ix ix_tup (pv 1) pe_int (fun _ _ => rfl)) (pa_cons (pe_tup (pa_cons pe_int (pa_cons pe_int pa_nil))) (pa_cons (pe_tup (pa_cons pe_int (pa_cons pe_int pa_nil))) pa_nil)))) pa_nil))))))))
      (pss_cons (ps_set (i := 2) sc_l_no_edit.nd rfl (Or.inl rfl) (pe_op op_catF (pv 2) (pe_lst (pa_cons (pe_tup (pa_cons (pe_tup (pa_cons (pe_un un_neg pe_int) (pa_cons pe_int pa_nil))) (pa_cons (pe_ix ix_tup (pv 1) pe_int (fun _ _ => rfl)) (pa_cons (pe_ix ix_tup (pv 1) pe_int (fun _ _ => rfl)) pa_nil)))) (pa_cons (pe_tup (pa_cons (pe_ix ix_tup (pv 1) pe_int (fun _ _ => rfl)) (pa_cons pe_non (pa_cons (pe_tup (pa_cons pe_int (pa_cons pe_int pa_nil))) pa_nil)))) (pa_cons (pe_tup (pa_cons (pe_ix ix_tup (pv 1) pe_int (fun _ _ => rfl)) (pa_cons (pe_tup (pa_cons pe_int (pa_cons pe_int pa_nil))) (pa_cons (pe_tup (pa_cons (pe_un un_neg pe_int) (pa_cons pe_int pa_nil))) pa_nil)))) (pa_cons (pe_tup (pa_cons (pe_ix ix_tup (pv 1) pe_int (fun _ _ => rfl)) (pa_cons pe_int (pa_cons (pe_tup (pa_cons pe_int (pa_cons pe_int pa_nil))) pa_nil)))) pa_nil)))))))
      (pss_cons (ps_set (i := 2) sc_l_no_edit.nd rfl (Or.inl rfl) (pe_op op_catF (pv 2) (pe_lst (pa_cons (pe_tup (pa_cons (pe_tup (pa_cons (pe_op op_add (pe_op op_pow pe_int pe_int) pe_int) (pa_cons pe_int pa_nil))) (pa_cons pe_non (pa_cons (pe_tup (pa_cons pe_int (pa_cons pe_int pa_nil))) pa_nil)))) (pa_cons (pe_tup (pa_cons (pe_ix ix_tup (pv 1) pe_int (fun _ _ => rfl)) (pa_cons (pe_tup (pa_cons pe_int (pa_cons (pe_op op_add (pe_op op_pow pe_int pe_int) pe_int) pa_nil))) (pa_cons (pe_tup (pa_cons pe_int (pa_cons pe_int pa_nil))) pa_nil)))) (pa_cons (pe_tup (pa_cons (pe_tup (pa_cons (pe_cmpR op_eq pe_int pe_int (nomark _)) (pa_cons pe_int pa_nil))) (pa_cons pe_non (pa_cons (pe_tup (pa_cons pe_int (pa_cons pe_int pa_nil))) pa_nil)))) pa_nil))))))
      (pss_one (ps_ret (pe_ix ix_list (pv 2) (pe_call (ok_l_digit T) (hr.mono (by decide)) (by rfl) T.g_l_digit T.F_l_digit.kp T.b_l_digit .nil pass0 (pa_cons (pv 0) (pa_cons (pe_callB call_len_seq (by rfl) T.m_len (by decide +kernel) (pa_cons (pv 2) pa_nil)) pa_nil))) (fun _ _ => rfl))))))), enter h fun F xs cs post hE hw => ?_⟩)
  obtain ⟨rfl, rfl, q⟩ := hw
  unfold e0D
  walk_at "E"
  refine we_slA ?_
  walk_at "E"
  refine wr_cat (.cel rfl) (.cel rfl) (by simp only [List.length]; omega) ?_
  walk_at "E"
  refine wr_Ii ⟨by decide, by decide, by decide⟩ ?_
  rw [p30]
  walk_at "E"
  refine wr_Ii ⟨by decide, by decide, by decide⟩ ?_
  rw [p30]
  walk_at "E"
  refine wr_cat (.cel rfl) (.cel rfl) (by simp only [List.length_append, List.length]; omega) ?_
  walk_at "E"
  refine wsp_digit rfl (by decide) (by decide) fun u u0 u1 => ?_
  walk_at "E"
  refine wr_ixA (by walk_at "il") u0 u1 fun nd hd => ?_
  have o := odds_of (f := okE) (by decide +kernel) hd
  exact fin_dat rfl (q nd o.1 o.2)
/-! what is no lane -/
theorem isHl_3 (a b c : D) : isHl (.tup [a, b, c]) = (inR 1 1000000 a && (inR 0 200 b && isLnE c)) := rfl
theorem hl_no1 {a b c : D} (h : inR 1 1000000 a = false) : isHl (.tup [a, b, c]) = false := by rw [isHl_3, h]; rfl
theorem hl_no2 {a b c : D} (h : inR 0 200 b = false) : isHl (.tup [a, b, c]) = false := by rw [isHl_3, h, Bool.false_and, Bool.and_false]
theorem hl_no3 {a b c : D} (h : isLnE c = false) : isHl (.tup [a, b, c]) = false := by rw [isHl_3, h, Bool.and_false, Bool.and_false]
theorem lnE_no {A : List D} {d : D} (h : okE d = false) : isLnE (.lst (A ++ [d])) = false := by
  have h : (isEd d && isSmD d) = false := h
  show (isLs 0 60 (.lst (A ++ [d])) && ((A ++ [d]).all isEd && (A ++ [d]).all isSmD)) = false
  rw [List.all_append, List.all_append, List.all_cons, List.all_cons, List.all_nil, List.all_nil, Bool.and_true, Bool.and_true]
  cases he : isEd d with
  | false => rw [Bool.and_false, Bool.false_and, Bool.and_false]
  | true => rw [he, Bool.true_and] at h; rw [h, Bool.and_false, Bool.and_false, Bool.and_false]
theorem pl_tup3 {a b c : D} (h1 : pl a = true) (h2 : pl b = true) (h3 : pl c = true) : pl (.tup [a, b, c]) = true := by rw [pl, pls, pls, pls, h1, h2, h3, pls]; rfl
def wNoLane : PW0 := fun xs cs post _ => ∃ x : Hl, xs = [.cel 0, .dat x.told] ∧ cs = [.drw] ∧ x.ok ∧ ∀ d, pl d = true → isHl d = false → post (.dat d) [.drw]
theorem ok_l_no_lane (T : Txt K mg) : FnOk P w K mg base CX0 3 T.a_l_no_lane T.d_l_no_lane ["_law_state", "_law_lane"] (spG K wNoLane) := by
  refine T.F_l_no_lane.ok sc_l_no_lane (fun vs H Q E h => spG_len h fun xs cs post exc ⟨a, e, _⟩ => by rw [e]; rfl) (fun cdv A outer s H vs Q E hr h => ⟨_, (pss_cons (ps_asg (pv 1) (pg_tup rfl (pgs_cons (pg_name (i := 2) sc_l_no_lane.nd rfl (Or.inl rfl)) (pgs_cons (pg_name (i := 3) sc_l_no_lane.nd rfl (Or.inl rfl)) (pgs_cons (pg_name (i := 4) sc_l_no_lane.nd rfl (Or.inl rfl)) pgs_nil)))))
      (pss_cons (ps_set (i := 5) sc_l_no_lane.nd rfl (Or.inl rfl) (pe_call (ok_l_digit T) (hr.mono (by decide)) (by rfl) T.g_l_digit T.F_l_digit.kp T.b_l_digit .nil pass0 (pa_cons (pv 0) (pa_cons pe_int pa_nil))))
      (pss_cons (ps_if (pt_cmpR op_eq (pv 5) pe_int (nomark _)) (pss_one (ps_ret (pe_tup (pa_cons (pv 2) (pa_cons (pv 3) (pa_cons (pe_op op_catF (pv 4) (pe_lst (pa_cons (pe_call (ok_l_no_edit T) (hr.mono (by decide)) (by rfl) T.g_l_no_edit T.F_l_no_edit.kp T.b_l_no_edit .nil pass0 (pa_cons (pv 0) (pa_cons (pe_tup (pa_cons (pe_tup (pa_cons pe_int (pa_cons pe_int pa_nil))) (pa_cons (pe_tup (pa_cons pe_int (pa_cons pe_int pa_nil))) (pa_cons (pe_tup (pa_cons pe_int (pa_cons pe_int pa_nil))) pa_nil)))) pa_nil))) pa_nil))) pa_nil)))))) pss_nil)
      (pss_cons (ps_if (pt_cmpR op_eq (pv 5) pe_int (nomark _)) (pss_one (ps_ret (pe_tup (pa_cons (pe_ix ix_list (pe_lst (pa_cons pe_int (pa_cons (pe_op op_add (pe_op op_pow pe_int pe_int) pe_int) (pa_cons (pe_un un_neg pe_int) (pa_cons pe_non (pa_cons (pe_cmpR op_eq pe_int pe_int (nomark _)) (pa_cons pe_str (pa_cons (pe_tup (pa_cons pe_int (pa_cons pe_int pa_nil))) pa_nil)))))))) (pe_call (ok_l_digit T) (hr.mono (by decide)) (by rfl) T.g_l_digit T.F_l_digit.kp T.b_l_digit .nil pass0 (pa_cons (pv 0) (pa_cons pe_int pa_nil))) (fun _ _ => rfl)) (pa_cons (pv 3) (pa_cons (pv 4) pa_nil)))))) pss_nil)
      (pss_cons (ps_if (pt_cmpR op_eq (pv 5) pe_int (nomark _)) (pss_one (ps_ret (pe_tup (pa_cons (pv 2) (pa_cons (pe_ix ix_list (pe_lst (pa_cons pe_int (pa_cons (pe_un un_neg pe_int) (pa_cons pe_non (pa_cons (pe_cmpR op_eq pe_int pe_int (nomark _)) (pa_cons pe_str (pa_cons (pe_lst (pa_cons pe_int pa_nil)) pa_nil))))))) (pe_call (ok_l_digit T) (hr.mono (by decide)) (by rfl) T.g_l_digit T.F_l_digit.kp T.b_l_digit .nil pass0 (pa_cons (pv 0) (pa_cons pe_int pa_nil))) (fun _ _ => rfl)) (pa_cons (pv 4) pa_nil)))))) pss_nil)
      (pss_cons (ps_if (pt_cmpR op_eq (pv 5) pe_int (nomark _)) (pss_one (ps_ret (pe_tup (pa_cons (pv 2) (pa_cons (pv 3) (pa_cons (pe_ix ix_list (pe_lst (pa_cons pe_non (pa_cons (pe_callTy call_tuple_of (by rfl) T.m_tuple (by decide +kernel) (pa_cons (pv 4) pa_nil)) (pa_cons pe_dnewK (pa_cons pe_str (pa_cons pe_int (pa_cons (pe_op op_rep (pe_lst (pa_cons (pe_tup (pa_cons (pe_tup (pa_cons pe_int (pa_cons pe_int pa_nil))) (pa_cons pe_non (pa_cons (pe_tup (pa_cons pe_int (pa_cons pe_int pa_nil))) pa_nil)))) pa_nil)) pe_int) pa_nil))))))) (pe_call (ok_l_digit T) (hr.mono (by decide)) (by rfl) T.g_l_digit T.F_l_digit.kp T.b_l_digit .nil pass0 (pa_cons (pv 0) (pa_cons pe_int pa_nil))) (fun _ _ => rfl)) pa_nil)))))) pss_nil)
      (pss_one (ps_ret (pe_ix ix_list (pe_lst (pa_cons pe_non (pa_cons (pe_lst (pa_cons (pv 2) (pa_cons (pv 3) (pa_cons (pv 4) pa_nil)))) (pa_cons (pe_tup (pa_cons (pv 2) (pa_cons (pv 3) pa_nil))) (pa_cons (pe_tup (pa_cons (pv 2) (pa_cons (pv 3) (pa_cons (pv 4) (pa_cons pe_int pa_nil))))) (pa_cons (pe_tup pa_nil) (pa_cons pe_str pa_nil))))))) (pe_call (ok_l_digit T) (hr.mono (by decide)) (by rfl) T.g_l_digit T.F_l_digit.kp T.b_l_digit .nil pass0 (pa_cons (pv 0) (pa_cons pe_int pa_nil))) (fun _ _ => rfl)))))))))), enter h fun F xs cs post hE hw => ?_⟩)
  obtain ⟨⟨u, c, es⟩, rfl, rfl, ok, q⟩ := hw
  obtain ⟨_, _, le, _⟩ := ok
  dsimp only at le
  have i1 : ∀ i : Int, pl (.int i) = true := fun _ => rfl
  have pL := pls_eD es
  have lL : (es.map eD).length = es.length := List.length_map ..
  have pLl : pl (.lst (es.map eD)) = true := by rw [pl]; exact pL
  unfold Hl.told
  dsimp only
  generalize es.map eD = L at pL lL pLl ⊢
  walk_at "E"
  refine wsp_digit rfl (by decide) (by decide) fun a a0 a1 => ?_
  obtain rfl | rfl | rfl | rfl | rfl : a = 0 ∨ a = 1 ∨ a = 2 ∨ a = 3 ∨ a = 4 := by omega
  · walk_at "E"
    walk_at "cd"
    refine ⟨rfl, rfl, fun d dp di => ⟨rfl, rfl, ?_⟩⟩
    walk_at "E"
    refine wr_cat (ds := L) (es := [d]) (.dat _) (.cel rfl) (by simp only [List.length]; omega) ?_
    walk_at "E"
    exact fin_dat rfl (q _ (pl_tup3 (i1 _) (i1 _) (by rw [pl]; exact pls_app pL (by rw [pls, dp]; rfl))) (hl_no3 (lnE_no di)))
  · walk_at "E"
    refine wr_Ii ⟨by decide, by decide, by decide⟩ ?_
    rw [p6]
    walk_at "E"
    refine wsp_digit rfl (by decide) (by decide) fun u u0 u1 => ?_
    walk_at "E"
    refine wr_ixA (by walk_at "il") u0 (by show u < ((7 : Nat) : Int); exact u1) fun nd hd => ?_
    have o := odds_of (f := inR 1 1000000) (by decide +kernel) hd
    clear hd
    walk_at "E"
    exact fin_dat rfl (q _ (pl_tup3 o.1 (i1 _) pLl) (hl_no1 o.2))
  · walk_at "E"
    refine wsp_digit rfl (by decide) (by decide) fun u u0 u1 => ?_
    walk_at "E"
    refine wr_ixA (by walk_at "il") u0 (by show u < ((6 : Nat) : Int); exact u1) fun nd hd => ?_
    have o := odds_of (f := inR 0 200) (by decide +kernel) hd
    clear hd
    walk_at "E"
    exact fin_dat rfl (q _ (pl_tup3 (i1 _) o.1 pLl) (hl_no2 o.2))
  · walk_at "E"
    refine wr_rep (.cel rfl) (by decide) (by decide) (by decide) ?_
    rw [rep_one]
    walk_at "E"
    refine wsp_digit rfl (by decide) (by decide) fun u u0 u1 => ?_
    walk_at "E"
    refine wr_ixA (by walk_at "il") u0 (by show u < ((6 : Nat) : Int); exact u1) fun nd hd => ?_
    have o : pl nd = true ∧ isLnE nd = false := by
      simp only [List.mem_cons, List.not_mem_nil, or_false] at hd
      rcases hd with rfl | rfl | rfl | rfl | rfl | rfl
      · exact ⟨rfl, rfl⟩
      · exact ⟨by rw [pl]; exact pL, rfl⟩
      · exact ⟨rfl, rfl⟩
      · exact ⟨rfl, rfl⟩
      · exact ⟨rfl, rfl⟩
      · exact ⟨by decide +kernel, by decide +kernel⟩
    clear hd
    walk_at "E"
    exact fin_dat rfl (q _ (pl_tup3 (i1 _) (i1 _) o.1) (hl_no3 o.2))
  · walk_at "E"
    refine wsp_digit rfl (by decide) (by decide) fun v v0 v1 => ?_
    walk_at "E"
    refine wr_ixA (by walk_at "il") v0 (by show v < ((6 : Nat) : Int); exact v1) fun nd hd => ?_
    have o : pl nd = true ∧ isHl nd = false := by
      simp only [List.mem_cons, List.not_mem_nil, or_false] at hd
      rcases hd with rfl | rfl | rfl | rfl | rfl | rfl
      · exact ⟨rfl, rfl⟩
      · exact ⟨by rw [pl, pls, pls, pls, i1, i1, pLl]; rfl, rfl⟩
      · exact ⟨rfl, rfl⟩
      · exact ⟨by rw [pl, pls, pls, pls, pls, i1, i1, i1, pLl]; rfl, rfl⟩
      · exact ⟨rfl, rfl⟩
      · exact ⟨rfl, rfl⟩
    exact fin_dat rfl (q nd o.1 o.2)
/-! what is no head -/
theorem isHd_no1 {a b c : D} (h : inR 0 1000000000 a = false) : isHd (.tup [a, b, c]) = false := by
  cases c <;> first | rfl | (show (inR 0 1000000000 a && _) = false; rw [h]; rfl)
theorem isHd_no2 {a b c : D} (h : inR 1 16 b = false) : isHd (.tup [a, b, c]) = false := by
  cases c <;> first | rfl | (show (inR 0 1000000000 a && (inR 1 16 b && _)) = false; rw [h, Bool.false_and, Bool.and_false])
theorem isHd_no3 {a b c : D} (h : isLs 1 8 c = false) : isHd (.tup [a, b, c]) = false := by
  cases c <;> first | rfl | (rename_i ls; show (inR 0 1000000000 a && (inR 1 16 b && (isLs 1 8 (.lst ls) && _))) = false; rw [h, Bool.false_and, Bool.and_false, Bool.and_false])
theorem isHd_no4 {a b d : D} {A B : List D} (h : isHl d = false) : isHd (.tup [a, b, .lst (A ++ [d] ++ B)]) = false := by
  show (inR 0 1000000000 a && (inR 1 16 b && (isLs 1 8 (.lst (A ++ [d] ++ B)) && (A ++ [d] ++ B).all isHl))) = false
  rw [List.all_append, List.all_append, List.all_cons, h, Bool.false_and, Bool.and_false, Bool.false_and, Bool.and_false, Bool.and_false, Bool.and_false]
def wNoHead : PW0 := fun xs cs post _ => ∃ (s v : Int) (ls : List Hl), xs = [.cel 0, .dat (hdD s v ls)] ∧ cs = [.drw] ∧ HdOk s v ls ∧ ∀ d, pl d = true → isHd d = false → post (.dat d) [.drw]
theorem ok_l_no_head (T : Txt K mg) : FnOk P w K mg base CX0 4 T.a_l_no_head T.d_l_no_head ["_law_state", "_law_head_here"] (spG K wNoHead) := by
  refine T.F_l_no_head.ok sc_l_no_head (fun vs H Q E h => spG_len h fun xs cs post exc ⟨a, b, c, e, _⟩ => by rw [e]; rfl) (fun cdv A outer s H vs Q E hr h => ⟨_, (pss_cons (ps_asg (pv 1) (pg_tup rfl (pgs_cons (pg_name (i := 2) sc_l_no_head.nd rfl (Or.inl rfl)) (pgs_cons (pg_name (i := 3) sc_l_no_head.nd rfl (Or.inl rfl)) (pgs_cons (pg_name (i := 4) sc_l_no_head.nd rfl (Or.inl rfl)) pgs_nil)))))
      (pss_cons (ps_set (i := 5) sc_l_no_head.nd rfl (Or.inl rfl) (pe_call (ok_l_digit T) (hr.mono (by decide)) (by rfl) T.g_l_digit T.F_l_digit.kp T.b_l_digit .nil pass0 (pa_cons (pv 0) (pa_cons pe_int pa_nil))))
      (pss_cons (ps_if (pt_cmpR op_eq (pv 5) pe_int (nomark _)) (pss_one (ps_ret (pe_ix ix_list (pe_lst (pa_cons pe_non (pa_cons (pe_lst (pa_cons (pv 2) (pa_cons (pv 3) (pa_cons (pv 4) pa_nil)))) (pa_cons (pe_tup (pa_cons (pv 2) (pa_cons (pv 3) pa_nil))) (pa_cons (pe_tup (pa_cons (pv 2) (pa_cons (pv 3) (pa_cons (pv 4) (pa_cons pe_int pa_nil))))) (pa_cons (pe_tup pa_nil) (pa_cons pe_str (pa_cons pe_dnewK pa_nil)))))))) (pe_call (ok_l_digit T) (hr.mono (by decide)) (by rfl) T.g_l_digit T.F_l_digit.kp T.b_l_digit .nil pass0 (pa_cons (pv 0) (pa_cons pe_int pa_nil))) (fun _ _ => rfl)))) pss_nil)
      (pss_cons (ps_if (pt_cmpR op_eq (pv 5) pe_int (nomark _)) (pss_one (ps_ret (pe_tup (pa_cons (pe_ix ix_list (pe_lst (pa_cons (pe_un un_neg pe_int) (pa_cons (pe_op op_add (pe_op op_pow pe_int pe_int) pe_int) (pa_cons pe_non (pa_cons (pe_cmpR op_eq pe_int pe_int (nomark _)) (pa_cons pe_str pa_nil)))))) (pe_call (ok_l_digit T) (hr.mono (by decide)) (by rfl) T.g_l_digit T.F_l_digit.kp T.b_l_digit .nil pass0 (pa_cons (pv 0) (pa_cons pe_int pa_nil))) (fun _ _ => rfl)) (pa_cons (pv 3) (pa_cons (pv 4) pa_nil)))))) pss_nil)
      (pss_cons (ps_if (pt_cmpR op_eq (pv 5) pe_int (nomark _)) (pss_one (ps_ret (pe_tup (pa_cons (pv 2) (pa_cons (pe_ix ix_list (pe_lst (pa_cons pe_int (pa_cons pe_int (pa_cons (pe_un un_neg pe_int) (pa_cons pe_non (pa_cons (pe_cmpR op_eq pe_int pe_int (nomark _)) (pa_cons pe_str pa_nil))))))) (pe_call (ok_l_digit T) (hr.mono (by decide)) (by rfl) T.g_l_digit T.F_l_digit.kp T.b_l_digit .nil pass0 (pa_cons (pv 0) (pa_cons pe_int pa_nil))) (fun _ _ => rfl)) (pa_cons (pv 4) pa_nil)))))) pss_nil)
      (pss_cons (ps_if (pt_cmpR op_eq (pv 5) pe_int (nomark _)) (pss_one (ps_ret (pe_tup (pa_cons (pv 2) (pa_cons (pv 3) (pa_cons (pe_ix ix_list (pe_lst (pa_cons (pe_lst pa_nil) (pa_cons pe_non (pa_cons (pe_callTy call_tuple_of (by rfl) T.m_tuple (by decide +kernel) (pa_cons (pv 4) pa_nil)) (pa_cons pe_dnewK (pa_cons (pe_slice sl_list (pe_op op_rep (pv 4) pe_int) po_none (po_some pe_int)) pa_nil)))))) (pe_call (ok_l_digit T) (hr.mono (by decide)) (by rfl) T.g_l_digit T.F_l_digit.kp T.b_l_digit .nil pass0 (pa_cons (pv 0) (pa_cons pe_int pa_nil))) (fun _ _ => rfl)) pa_nil)))))) pss_nil)
      (pss_cons (ps_set (i := 6) sc_l_no_head.nd rfl (Or.inl rfl) (pe_call (ok_l_digit T) (hr.mono (by decide)) (by rfl) T.g_l_digit T.F_l_digit.kp T.b_l_digit .nil pass0 (pa_cons (pv 0) (pa_cons (pe_callB call_len_seq (by rfl) T.m_len (by decide +kernel) (pa_cons (pv 4) pa_nil)) pa_nil))))
      (pss_one (ps_ret (pe_tup (pa_cons (pv 2) (pa_cons (pv 3) (pa_cons (pe_op op_catF (pe_op op_catF (pe_slice sl_list (pv 4) po_none (po_some (pv 6))) (pe_lst (pa_cons (pe_call (ok_l_no_lane T) (hr.mono (by decide)) (by rfl) T.g_l_no_lane T.F_l_no_lane.kp T.b_l_no_lane .nil pass0 (pa_cons (pv 0) (pa_cons (pe_ix ix_list (pv 4) (pv 6) (fun _ _ => rfl)) pa_nil))) pa_nil))) (pe_slice sl_list (pv 4) (po_some (pe_op op_add (pv 6) pe_int)) po_none)) pa_nil))))))))))))), enter h fun F xs cs post hE hw => ?_⟩)
  obtain ⟨s, v, ls, rfl, rfl, ⟨_, _, ⟨n0, n1⟩, ok⟩, q⟩ := hw
  have i1 : ∀ i : Int, pl (.int i) = true := fun _ => rfl
  have pL := pls_hls ls
  have lL : (ls.map Hl.told).length = ls.length := List.length_map ..
  have pLl : pl (.lst (ls.map Hl.told)) = true := by rw [pl]; exact pL
  have aL : ∀ d ∈ ls.map Hl.told, ∃ x : Hl, d = x.told ∧ x.ok := fun d hd => by
    obtain ⟨x, hx, rfl⟩ := List.mem_map.mp hd
    exact ⟨x, rfl, ok x hx⟩
  unfold hdD
  generalize ls.map Hl.told = L at pL lL pLl aL ⊢
  walk_at "E"
  refine wsp_digit rfl (by decide) (by decide) fun a a0 a1 => ?_
  by_cases c0 : a = 0
  · subst c0
    walk_at "E"
    refine wsp_digit rfl (by decide) (by decide) fun u u0 u1 => ?_
    walk_at "E"
    refine wr_ixA (by walk_at "il") u0 (by show u < ((7 : Nat) : Int); exact u1) fun nd hd => ?_
    have o : pl nd = true ∧ isHd nd = false := by
      simp only [List.mem_cons, List.not_mem_nil, or_false] at hd
      rcases hd with rfl | rfl | rfl | rfl | rfl | rfl | rfl
      · exact ⟨rfl, rfl⟩
      · exact ⟨by rw [pl, pls, pls, pls, i1, i1, pLl]; rfl, rfl⟩
      · exact ⟨rfl, rfl⟩
      · exact ⟨by rw [pl, pls, pls, pls, pls, i1, i1, i1, pLl]; rfl, rfl⟩
      · exact ⟨rfl, rfl⟩
      · exact ⟨rfl, rfl⟩
      · exact ⟨rfl, rfl⟩
    exact fin_dat rfl (q nd o.1 o.2)
  by_cases c1 : a = 1
  · subst c1
    walk_at "E"
    refine wr_Ii ⟨by decide, by decide, by decide⟩ ?_
    rw [p9]
    walk_at "E"
    refine wsp_digit rfl (by decide) (by decide) fun u u0 u1 => ?_
    walk_at "E"
    refine wr_ixA (by walk_at "il") u0 (by show u < ((5 : Nat) : Int); exact u1) fun nd hd => ?_
    have o := odds_of (f := inR 0 1000000000) (by decide +kernel) hd
    clear hd
    walk_at "E"
    exact fin_dat rfl (q _ (pl_tup3 o.1 (i1 _) pLl) (isHd_no1 o.2))
  by_cases c2 : a = 2
  · subst c2
    walk_at "E"
    refine wsp_digit rfl (by decide) (by decide) fun u u0 u1 => ?_
    walk_at "E"
    refine wr_ixA (by walk_at "il") u0 (by show u < ((6 : Nat) : Int); exact u1) fun nd hd => ?_
    have o := odds_of (f := inR 1 16) (by decide +kernel) hd
    clear hd
    walk_at "E"
    exact fin_dat rfl (q _ (pl_tup3 (i1 _) o.1 pLl) (isHd_no2 o.2))
  by_cases c3 : a = 3
  · subst c3
    walk_at "E"
    refine wr_rep (.dat _) (by decide) (by decide) (by rw [lL, show (9 : Int).toNat = 9 from rfl]; omega) ?_
    rw [show (9 : Int).toNat = 9 from rfl]
    have hb := pls_reps pL 9
    have hl : (List.replicate 9 L).flatten.length = 9 * L.length := by
      rw [List.length_flatten, List.map_replicate, List.sum_replicate_nat]
    generalize (List.replicate 9 L).flatten = big at hb hl ⊢
    walk_at "E"
    walk_at "nr4"
    refine wsp_digit rfl (by decide) (by decide) fun u u0 u1 => ?_
    walk_at "E"
    refine wr_ixA (by walk_at "il") u0 (by show u < ((5 : Nat) : Int); exact u1) fun nd hd => ?_
    have o : pl nd = true ∧ isLs 1 8 nd = false := by
      simp only [List.mem_cons, List.not_mem_nil, or_false] at hd
      rcases hd with rfl | rfl | rfl | rfl | rfl
      · exact ⟨rfl, rfl⟩
      · exact ⟨rfl, rfl⟩
      · exact ⟨by rw [pl]; exact pL, rfl⟩
      · exact ⟨rfl, rfl⟩
      · refine ⟨by rw [pl]; exact pls_cutD hb _ _, ?_⟩
        have l2 : (cutD big none (some 9)).length = 9 := by
          unfold cutD
          rw [show HT.sIx big.length 0 none = 0 from rfl, show HT.sIx big.length big.length (some 9) = min 9 big.length from rfl, List.length_take, List.length_drop]
          omega
        show (decide (1 ≤ (cutD big none (some 9)).length) && decide ((cutD big none (some 9)).length ≤ 8)) = false
        rw [l2]; rfl
    clear hd
    walk_at "E"
    walk_at "nr4"
    exact fin_dat rfl (q _ (pl_tup3 (i1 _) (i1 _) o.1) (isHd_no3 o.2))
  obtain rfl : a = 4 := by omega
  walk_at "E"
  refine wsp_digit rfl (by omega) (by omega) fun u u0 u1 => ?_
  walk_at "E"
  have pa := pls_cutD pL none (some u)
  have la := cutD_len L none (some u)
  generalize cutD L none (some u) = ca at pa la ⊢
  refine wr_ixA (.dat _) u0 u1 fun nd hd => ?_
  obtain ⟨x, rfl, hx⟩ := aL nd hd
  walk_at "E"
  walk_at "cd"
  refine ⟨x, rfl, rfl, hx, fun d dp di => ⟨rfl, rfl, ?_⟩⟩
  walk_at "E"
  walk_at "nr4"
  refine wr_cat (ds := ca) (es := [d]) (.cel rfl) (.cel rfl) (by simp only [List.length]; omega) ?_
  walk_at "E"
  have pb := fun i => pls_cutD pL (some i) none
  have lb := fun i => cutD_len L (some i) none
  walk_at "nr4"
  refine wr_cat (ds := ca ++ [d]) (.cel rfl) (.cel rfl) (by have := lb (u + 1); rw [List.length_append]; simp only [List.length]; omega) ?_
  walk_at "E"
  exact fin_dat rfl (q _ (pl_tup3 (i1 _) (i1 _) (by rw [pl]; exact pls_app (pls_app pa (by rw [pls, dp]; rfl)) (pb _))) (isHd_no4 di))
end

local macro_rules | `(tactic| walk_at "cat") => `(tactic| refine wr_cat (by walk_at "il") (by walk_at "il") (by simp only [List.length_append, List.length_map, List.length_cons, List.length_nil]; omega) ?_)
local macro_rules | `(tactic| walk_at "E") => `(tactic| repeat (first
  | (with_reducible refine ws_seq ?_; walk_at "nr2")
  | walk_at "d"
  | refine we_dnew ?_
  | refine ifT rfl ?_
  | refine ifF rfl ?_))
local macro_rules | `(tactic| walk_at "G") => `(tactic| repeat ((fail_if_success (with_reducible refine ws_seq ?_)); first
  | walk_at "d"
  | refine ifT rfl ?_
  | refine ifF rfl ?_))
section
variable {P : Program} {w : World} {K : PySem.W.Frag} {mg : Str → Option Value} {base : Heap}
/-! ### a call with keywords; a law's promise -/
theorem we_callN {K : PySem.W.Frag} {F : Fx} {ρ : En} {k : AV → En → Prop} {n m : Nat} {sp : Sp} {gV : List V → List V → List V} {E : XK} {t tk : TA} (h : WpA K F t ρ fun xs ρ1 => WpA K F tk ρ1 fun ys ρ2 => ∃ zs, xs.length = n ∧ ys.length = m ∧ (∀ G as vs ws, RepAs K G as xs vs → RepAs K G as ys ws → RepAs K G as zs (gV vs ws)) ∧ WpSp K F sp (fun _ => E) zs ρ2 k) : WpE K F (L2.tCallN n m sp gV E t tk) ρ k := fun as σ H G e Q q =>
  h as σ H G e _ fun xs ρ1 vs as1 H1 G1 h1 e1 g1 r1 => h1 as1 σ H1 G1 e1 _ fun ys ρ2 ws as2 H2 G2 ⟨zs, l1, l2, hg, h2⟩ e2 g2 r2 => ⟨by rw [r1.length]; exact l1, by rw [r2.length]; exact l2, h2 as2 σ H2 G2 _ e2 (hg _ _ _ _ (r1.mono g2) r2) Q (q.imp (g1.trans g2) fun _ _ z => z)⟩
def spLaw (K : PySem.W.Frag) : Sp := fun vs H Q _ => ∃ (a : Addr) (ns : List Int), vs = [.ref a] ∧ SqL K H a (ns.map V.int) ∧ ns.length ≤ 63 ∧ ∀ H', Q (.bl true) H'
def wLaw : PW0 := fun xs cs post _ => ∃ ns : List Int, xs = [.dat (.scr (ns.map D.int))] ∧ cs = [] ∧ ns.length ≤ 63 ∧ post (.dat (.bl true)) []
theorem law_of {K : PySem.W.Frag} {vs : List V} {H : Hp} {Q : VK} {E : XK} (h : spLaw K vs H Q E) : spG K wLaw vs H Q E := by
  obtain ⟨a, ns, rfl, hs, hl, q⟩ := h
  refine ⟨H, [], fun _ _ => none, [.dat (.scr (ns.map D.int))], [], fun r _ => r = .dat (.bl true), fun _ => False, Same.refl _, ⟨rfl, List.nodup_nil, fun j c a hc => by simp at hc⟩, RegsAt.no (fun j t X z => by simp at z), .cons (Rep.scr hs Reps.ofV) .nil, ⟨ns, rfl, rfl, hl, rfl⟩, ?_, fun _ _ z => z.elim⟩
  intro r cs v H' G' Ts' hp _ _ _ _ _ _ _ rr
  subst hp
  rw [Rep.blE rr]
  exact q H'
theorem cut_ints (ns : List Int) (lo hi : Option Int) : ∃ ms : List Int, cutD (ns.map D.int) lo hi = ms.map D.int ∧ ms.length ≤ ns.length := by
  refine ⟨(ns.drop (HT.sIx ns.length 0 lo)).take (HT.sIx ns.length ns.length hi - HT.sIx ns.length 0 lo), ?_, ?_⟩
  · unfold cutD
    rw [List.length_map, List.map_take, List.map_drop]
  · rw [List.length_take, List.length_drop]
    omega
/-! ### a block whose writes touch nothing that stood before it -/
theorem EnvOk.later {K : PySem.W.Frag} {F : Fx} {ρ : En} {as : List Addr} {σ : L2.St} {H H' G : Hp} (e : EnvOk K F ρ as σ H G) (s : Same H H') : EnvOk K F ρ as σ H' G := by
  refine ⟨fun a u h => s _ _ (e.gh _ _ h), Same.trans e.fh s, e.fg, e.g0, e.nd, e.pr, e.ln, fun j c a hc ha => ?_, e.sn, e.sl, by obtain ⟨Ts, r⟩ := e.rg; exact ⟨Ts, r.same (fun _ _ _ _ h => s _ _ h) (fun _ _ _ g => g) (fun _ z => z) fun _ _ z => .inl z⟩⟩
  obtain ⟨f, ⟨u, hu⟩, ok⟩ := e.ce j c a hc ha
  refine ⟨f, ⟨u, s _ _ hu⟩, ?_⟩
  cases c with
  | gone => trivial
  | reg t X => exact ok
  | lst ds => obtain ⟨g, vs, h, r⟩ := ok; exact ⟨g, vs, s _ _ h, r⟩
  | ins C9 ns9 ds => obtain ⟨g, dx9, vs, h, ln9, r⟩ := ok; exact ⟨g, dx9, vs, s _ _ h, ln9, r⟩
  | drw => obtain ⟨g, vs, h, r⟩ := ok; exact ⟨g, vs, s _ _ h, r⟩
  | oth X => obtain ⟨g, o9, h, r⟩ := ok; exact ⟨g, o9, s _ _ h, r⟩
theorem dp_of {K : PySem.W.Frag} {H : Hp} {d : D} {v : V} {n : Nat} (rr : Rep K H d v) (hf : fine n d = true) (hn : n ≤ 64) : Dp K H v (py d) ∧ SeqAt.shaped (py d) = true := by
  obtain ⟨x, y, z⟩ := fine_dp n d v hf rr
  refine ⟨x, ?_⟩
  unfold SeqAt.shaped
  rw [y, decide_eq_true (by omega : PyData.depth (py d) ≤ 64)]
  rfl
theorem ne_same {K : PySem.W.Frag} {H : Hp} {d : D} {v w : V} {n : Nat} {Q : VK} (r1 : Rep K H d v) (r2 : Rep K H d w) (hf : fine n d = true) (hn : n ≤ 64) (nb : noB d = true) (q : Q (.bl false) H) : rNeD K v w H Q := by
  obtain ⟨a, b⟩ := dp_of r1 hf hn
  obtain ⟨a2, b2⟩ := dp_of r2 hf hn
  refine ⟨_, _, a, a2, b, b2, ?_⟩
  rw [show PyData.eqv (py d) (py d) = true from (eqD_iff d d nb nb).mpr rfl]
  exact q
theorem SqT.keep {K : PySem.W.Frag} {H : Hp} {t b : Addr} {xs ys zs : List V} (h : SqT K H t xs) (hb : H b = some (.lst ys)) : SqT K (upd H b (.lst zs)) t xs := by
  refine LK.SqT.hard (fun a o ha => ?_) h
  by_cases c : a = b
  · subst c
    rw [hb] at ha
    cases ha
    exact .inr ⟨_, rfl⟩
  · exact .inl (by rw [upd_ne c]; exact ha)
theorem reps_ints {K : PySem.W.Frag} {G : Hp} : ∀ {ns : List Int} {vs : List V}, Reps K G (ns.map D.int) vs → vs = ns.map V.int
  | [], _, h => h.nilE
  | n :: ns, _, h => by
    obtain ⟨v, ws, rfl, r1, r2⟩ := Reps.consE (d := D.int n) (ds := ns.map D.int) h
    rw [r1.intE, reps_ints r2]
    rfl
theorem ws_lowT {K : PySem.W.Frag} {F : Fx} {ρ : En} {t R : TS} {ks : KS} (vs : List Nat) (h : ∀ as σ H G D, EnvOk K F ρ as σ H G → (∀ σ' H', Same H H' → L2.wipe σ' vs = L2.wipe σ vs → R D σ' H') → t D σ H) (hk : WpS K F R (ρ.wipe vs) ks) : WpS K F t ρ ks := fun as σ H G e D q =>
  h as σ H G D e fun σ' H' s w => hk as σ' H' G ((e.later s).wipe w) D q
theorem len9 {σ : L2.St} (h : σ.length = 9) : ∃ s0 s1 s2 s3 s4 s5 s6 s7 s8, σ = [s0, s1, s2, s3, s4, s5, s6, s7, s8] := by
  match σ, h with
  | [s0, s1, s2, s3, s4, s5, s6, s7, s8], _ => exact ⟨s0, s1, s2, s3, s4, s5, s6, s7, s8, rfl⟩
theorem call_fresh1 {K : PySem.W.Frag} {W : PW0} {d : D} {p : Addr} {ns : List Int} {H : Hp} {Q : VK} {E : XK} (hp : H p = some (.lst (ns.map V.int))) (hw : ∀ (post : RV → List Cell → Prop) exc, post (.dat d) [] → W [.dat (.lst (ns.map D.int))] [] post exc)
    (q : ∀ (v : V) (T H' : Hp), Same H H' → Same T H' → Rep K T d v → (∀ b o, T b = some o → b = p ∨ H b = none) → Q v H') : spG K W [.ref p] H Q E := by
  refine ⟨fun b => if b = p then some (.lst (ns.map V.int)) else none, [], fun _ _ => none, [.dat (.lst (ns.map D.int))], [], fun r cs => r = .dat d, fun _ => False, fun b o h => ?_, ⟨rfl, List.nodup_nil, fun j c a hc => by simp at hc⟩, RegsAt.no (fun j t X z => by simp at z), .cons (Rep.lst (if_pos rfl) Reps.ofV) .nil, hw _ _ rfl, ?_, fun _ _ z => z.elim⟩
  · have h : (if b = p then some (HO.lst (ns.map V.int)) else none) = some o := h
    by_cases c : b = p
    · rw [if_pos c] at h
      cases h
      subst c
      exact hp
    · rw [if_neg c] at h; cases h
  · rintro r cs v H' G' Ts' rfl fr sG gh' nw ck rg' nwT rr
    refine q v G' H' (fun b o h => fr b o (fun z => nomatch z) (fun _ => rfl) h) gh' rr fun b o h => ?_
    rcases nw b o h with z | z | ⟨i, z⟩
    · have z : (if b = p then some (HO.lst (ns.map V.int)) else none) = some o := z
      by_cases c : b = p
      · exact .inl c
      · rw [if_neg c] at z; cases z
    · exact .inr z
    · exact absurd rfl z
theorem call_bl {K : PySem.W.Frag} {W : PW0} {d : D} {b : Bool} {v : V} {T H : Hp} {Q : VK} {E : XK} (s : Same T H) (r : Rep K T d v) (hw : ∀ (post : RV → List Cell → Prop) exc, post (.dat (.bl b)) [] → W [.dat d] [] post exc) (q : ∀ H', Same H H' → Q (.bl b) H') : spG K W [v] H Q E := by
  refine ⟨T, [], fun _ _ => none, [.dat d], [], fun r _ => r = .dat (.bl b), fun _ => False, s, ⟨rfl, List.nodup_nil, fun j c a hc => by simp at hc⟩, RegsAt.no (fun j t X z => by simp at z), .cons r .nil, hw _ _ rfl, ?_, fun _ _ z => z.elim⟩
  rintro r cs v H' G' Ts' rfl fr sG gh' nw ck rg' nwT rr
  rw [Rep.blE rr]
  exact q H' fun b o h => fr b o (fun z => nomatch z) (fun _ => rfl) h
theorem hlN_short {x : Hl} (h : x.es.length ≤ 4) : (hlN x).length ≤ 31 := by
  have := esN_len x.es
  show (esN x.es).length + 1 + 1 ≤ 31
  omega
theorem hdN_short {s v : Int} {ls : List Hl} (hl : ls.length ≤ 8) (h : ∀ x ∈ ls, x.es.length ≤ 4) : (hdN s v ls).length ≤ 251 := by
  have : (ls.map hlN).flatten.length ≤ 31 * ls.length := by
    clear hl
    induction ls with
    | nil => exact Nat.le_refl _
    | cons l ls ih =>
      have h1 := hlN_short (h l List.mem_cons_self)
      have h2 := ih fun x hx => h x (List.mem_cons_of_mem _ hx)
      rw [List.map_cons, List.flatten_cons, List.length_append, List.length_cons]
      omega
  show (ls.map hlN).flatten.length + 1 + 1 + 1 ≤ _
  omega
theorem fine_hl (x : Hl) : fine 4 x.told = true := by
  show (true && (true && (fines 2 (x.es.map eD) && true))) = true
  rw [fines_eD]; rfl
theorem fines_hls (ls : List Hl) : fines 4 (ls.map Hl.told) = true := by
  induction ls with
  | nil => rfl
  | cons r rs ih => rw [List.map_cons, fines, fine_hl, ih]; rfl
theorem fine_hd (s v : Int) (ls : List Hl) : fine 6 (hdD s v ls) = true := by
  show (true && (true && (fines 4 (ls.map Hl.told) && true))) = true
  rw [fines_hls]; rfl
theorem noB_hl (x : Hl) : noB x.told = true := by
  show (true && (true && (noBs (x.es.map eD) && true))) = true
  rw [noBs_eD]; rfl
theorem noBs_hls (ls : List Hl) : noBs (ls.map Hl.told) = true := by
  induction ls with
  | nil => rfl
  | cons r rs ih => rw [List.map_cons, noBs, noB_hl, ih]; rfl
theorem noB_hd (s v : Int) (ls : List Hl) : noB (hdD s v ls) = true := by
  show (true && (true && (noBs (ls.map Hl.told) && true))) = true
  rw [noBs_hls]; rfl
theorem self_hd (s v : Int) (ls : List Hl) : (!eqD (hdD s v ls) (hdD s v ls)) = false := by
  rw [(eqD_iff _ _ (noB_hd s v ls) (noB_hd s v ls)).mpr rfl]; rfl
theorem head_parts {K : PySem.W.Frag} {T H1 H3 : Hp} {N : List Int} {p : Addr} {s v : Int} {ls : List Hl} {v0 : V} (ok : HdOk s v ls) (s13 : Same H1 H3) (sT : Same T H3) (r : Rep K T (hdD s v ls) v0) (hp : H1 p = some (.lst (N.map V.int))) (hn : 1 ≤ N.length) (fr : ∀ b o, T b = some o → b = p ∨ H1 b = none) :
    ∃ (t b t1 e : Addr) (x1 x2 y1 y2 : V) (ys zs : List V), v0 = .ref t ∧ SqT K H3 t [x1, x2, .ref b] ∧ H3 b = some (.lst (.ref t1 :: ys)) ∧ ys.length ≤ 8 ∧ SqT K H3 t1 [y1, y2, .ref e] ∧ H3 e = some (.lst zs) ∧ zs.length ≤ 60 ∧ H1 b = none ∧ H1 e = none := by
  obtain ⟨_, _, ⟨n0, n1⟩, okL⟩ := ok
  obtain ⟨n, N', rfl⟩ : ∃ n N', N = n :: N' := by cases N with | nil => simp at hn | cons n N => exact ⟨n, N, rfl⟩
  obtain ⟨t, us, rfl, h1, h2⟩ := Rep.tupE (ds := [.int s, .int v, .lst (ls.map Hl.told)]) r
  obtain ⟨x1, us1, rfl, _, h2⟩ := h2.consE
  obtain ⟨x2, us2, rfl, _, h2⟩ := h2.consE
  obtain ⟨x3, us3, rfl, h3, h2⟩ := h2.consE
  rw [h2.nilE] at h1
  obtain ⟨b, ws, rfl, hb, hr⟩ := Rep.lstE h3
  obtain ⟨x, rest, rfl⟩ : ∃ x rest, ls = x :: rest := by cases ls with | nil => simp at n0 | cons x l => exact ⟨x, l, rfl⟩
  have lw := hr.length
  rw [List.length_map, List.length_cons] at lw
  obtain ⟨w1, ys, rfl, r1, hr⟩ := Reps.consE (d := x.told) (ds := rest.map Hl.told) hr
  obtain ⟨t1, vs, rfl, g1, g2⟩ := Rep.tupE (ds := [.int x.u, .int x.c, .lst (x.es.map eD)]) r1
  obtain ⟨y1, vs1, rfl, _, g2⟩ := g2.consE
  obtain ⟨y2, vs2, rfl, _, g2⟩ := g2.consE
  obtain ⟨y3, vs3, rfl, g3, g2⟩ := g2.consE
  rw [g2.nilE] at g1
  obtain ⟨e, zs, rfl, he, hz⟩ := Rep.lstE g3
  have lz := hz.length
  rw [List.length_map] at lz
  have h60 := (okL x List.mem_cons_self).2.2.1
  rw [List.length_cons] at lw n1
  refine ⟨t, b, t1, e, x1, x2, y1, y2, ys, zs, rfl, Same.seqT sT h1, sT _ _ hb, by omega, Same.seqT sT g1, sT _ _ he, by omega, ?_, ?_⟩
  · rcases fr b _ hb with z | z
    · subst z
      have a := sT _ _ hb
      rw [s13 _ _ hp] at a
      cases a
    · exact z
  · rcases fr e _ he with z | z
    · subst z
      have a := sT _ _ he
      rw [s13 _ _ hp] at a
      injection a with a
      injection a with a
      cases hx : x.es with
      | nil => rw [hx] at lz; rw [← a] at lz; simp at lz
      | cons y es =>
        rw [hx] at hz
        obtain ⟨q1, qs, rfl, q2, _⟩ := Reps.consE (d := eD y) (ds := es.map eD) hz
        obtain ⟨q, _, rfl, _⟩ := Rep.tupE (ds := [fD y.span, oD y.start, fD y.rate]) q2
        rw [List.map_cons] at a
        cases a
    · exact z
theorem ask_readH {s v : Int} {ls : List Hl} {C : Addr} {exc : Addr → Prop} {post : RV → List Cell → Prop} (hi : HdOk s v ls) (hb : (bodyI (hdN s v ls)).length ≤ 100000) (q : post (.dat (hdD s v ls)) []) : wReadHd C [.dat (.lst ((bodyI (hdN s v ls)).map D.int))] [] post exc := by
  refine ⟨_, rfl, rfl, by rw [pl]; exact pls_int _, by rw [lnR_body]; omega, fun z => absurd (rw_is (bodyI_byts (hdN s v ls))) (by rw [z]; decide), fun ns e hb2 => ?_⟩
  have e1 : bodyI (hdN s v ls) = ns := mapI_inj (by injection e)
  subst e1
  rw [parse_body (hdN_Nums hi).1]
  refine ⟨(fun z => nomatch z), fun ms hm => ?_⟩
  cases hm
  have ho := okHd_mk hi []
  have hr := rdHd_cons hi []
  rw [List.append_nil] at ho hr
  refine ⟨hdN_pos hi, ho, fun z => (by rw [hr] at z; cases z), fun s2 v2 ds h2 => ?_⟩
  rw [hr] at h2
  cases h2
  exact q
theorem ok_law (T : Txt K mg) : FnOk P w K mg base CX0 11 T.a_law T.d_law ["_law_script"] (spLaw K) := by
  refine FnOk.imp (sp := spG K wLaw) ?_ (fun vs H Q E h => law_of h)
  refine T.F_law.ok sc_law (fun vs H Q E h => spG_len h fun xs cs post exc ⟨a, e, _⟩ => by rw [e]; rfl) (fun cdv A outer s H vs Q E hr h => ⟨_, (pss_cons (ps_if (pt_cmpR (op_neD hr.units) (pe_tup (pa_cons (pe_glob (v := .int 1) (by rfl) T.g_HEAD ⟨_, rfl⟩) (pa_cons (pe_glob (v := .int 2) (by rfl) T.g_PIECE ⟨_, rfl⟩) (pa_cons (pe_glob (v := .int 3) (by rfl) T.g_INDEX ⟨_, rfl⟩) pa_nil)))) (pe_tup (pa_cons pe_int (pa_cons pe_int (pa_cons pe_int pa_nil)))) (nomark _)) (pss_one (ps_ret pe_bl)) pss_nil)
      (pss_cons (ps_for PassesOwn.never rfl (pi_list (pe_op op_catF (pe_slice sl_list (pv 0) po_none (po_some pe_int)) (pe_lst (pa_cons pe_int (pa_cons pe_int pa_nil))))) (pg_name (i := 1) sc_law.nd rfl (Or.inl rfl))
        (pss_cons (ps_set (i := 2) sc_law.nd rfl (Or.inl rfl) (pe_lst (pa_cons (pv 1) pa_nil)))
      (pss_cons (ps_set (i := 3) sc_law.nd rfl (Or.inl rfl) (pe_call (ok_l_head T) (hr.mono (by decide)) (by rfl) T.g_l_head T.F_l_head.kp T.b_l_head .nil pass0 (pa_cons (pv 2) pa_nil)))
      (pss_cons (ps_set (i := 4) sc_law.nd rfl (Or.inl rfl) (pe_call (ok_l_all_figures T) (hr.mono (by decide)) (by rfl) T.g_l_all_figures T.F_l_all_figures.kp T.b_l_all_figures .nil pass0 (pa_cons (pe_call (ok_l_head_numbers T) (hr.mono (by decide)) (by rfl) T.g_l_head_numbers T.F_l_head_numbers.kp T.b_l_head_numbers .nil pass0 (pa_cons (pv 3) pa_nil)) pa_nil)))
      (pss_cons (ps_for PassesOwn.never rfl (pi_range1 (by rfl) T.m_range (pa_cons pe_int pa_nil)) (pg_name (i := 5) sc_law.nd rfl (Or.inl rfl))
        (pss_cons (ps_set (i := 6) sc_law.nd rfl (Or.inl rfl) (pe_call (ok_l_kept T) (hr.mono (by decide)) (by rfl) T.g_l_kept T.F_l_kept.kp T.b_l_kept .nil pass0 (pa_cons (pv 3) pa_nil)))
      (pss_cons (ps_set (i := 7) sc_law.nd rfl (Or.inl rfl) (pe_call (ok_head_body T) (hr.mono (by decide)) (by rfl) T.g_head_body T.F_head_body.kp T.b_head_body .nil passL (pa_cons (pv 6) pa_nil)))
      (pss_cons (ps_if (PW.pt (pw_or (pt_not (pt_val (pe_callB call_isi (by rfl) T.m_isinstance (by decide +kernel) (pa_cons (pv 7) (pa_cons (pe_bltn (v := .ty "list") (by rfl) T.m_list (by decide +kernel) rfl) pa_nil))))) (pw_or (pt_cmpR (op_neD hr.units) (pv 7) (pv 4) (nomark _)) (pw_or1 (pt_cmpR (op_neD hr.units) (pv 6) (pv 3) (nomark _)))))) (pss_one (ps_ret pe_bl)) pss_nil)
      (pss_cons (ps_set (i := 8) sc_law.nd rfl (Or.inl rfl) (pe_call (ok_read_head T) (hr.mono (by decide)) (by rfl) T.g_read_head T.F_read_head.kp T.b_read_head .nil passL (pa_cons (pv 7) pa_nil)))
      (pss_cons (ps_if (PW.pt (pw_or (pt_cmpR (op_neD hr.units) (pv 8) (pv 3) (nomark _)) (pw_or (pt_not (pt_val (pe_call (ok_l_kinds T) (hr.mono (by decide)) (by rfl) T.g_l_kinds T.F_l_kinds.kp T.b_l_kinds .nil pass0 (pa_cons (pv 8) pa_nil)))) (pw_or1 (pt_cmpR (op_neD hr.units) (pv 7) (pv 4) (nomark _)))))) (pss_one (ps_ret pe_bl)) pss_nil)
      (pss_cons (ps_expr (pe_bm PySem.F.plainAttrs_list PySem.F.slot_list_append PySem.F.type_list_append mt_append (pe_ix ix_tup (pe_ix ix_list (pe_ix ix_tup (pv 8) pe_int (fun _ _ => rfl)) pe_int (fun _ _ => rfl)) pe_int (fun _ _ => rfl)) (pa_cons pe_int pa_nil)))
      (pss_cons (ps_expr (pe_bm PySem.F.plainAttrs_list PySem.F.slot_list_append PySem.F.type_list_append mt_append (pe_ix ix_tup (pv 8) pe_int (fun _ _ => rfl)) (pa_cons pe_non pa_nil)))
      (pss_cons (ps_expr (pe_bm PySem.F.plainAttrs_list PySem.F.slot_list_append PySem.F.type_list_append mt_append (pv 7) (pa_cons pe_int pa_nil)))
      (pss_cons (ps_if (PW.pt (pw_or (pt_not (pt_val (pe_call (ok_l_refused T) (hr.mono (by decide)) (by rfl) T.g_l_refused T.F_l_refused.kp T.b_l_refused .nil pass0 (pa_cons (pe_glob (v := .ref T.a_read_head) (by rfl) T.g_read_head rfl) (pa_cons (pv 7) pa_nil))))) (pw_or1 (pt_not (pt_val (pe_call (ok_l_refused T) (hr.mono (by decide)) (by rfl) T.g_l_refused T.F_l_refused.kp T.b_l_refused .nil pass0 (pa_cons (pe_glob (v := .ref T.a_read_head) (by rfl) T.g_read_head rfl) (pa_cons (pe_slice sl_list (pv 4) po_none (po_some (pe_un un_neg pe_int))) pa_nil)))))))) (pss_one (ps_ret pe_bl)) pss_nil)
      (pss_one (ps_expr (pe_bm0 PySem.F.plainAttrs_list PySem.F.slot_list_clear PySem.F.type_list_clear mt_clear (pv 7))))))))))))))
      (pss_cons (ps_if (pt_not (pt_val (pe_call (ok_l_refused T) (hr.mono (by decide)) (by rfl) T.g_l_refused T.F_l_refused.kp T.b_l_refused .nil pass0 (pa_cons (pe_glob (v := .ref T.a_head_body) (by rfl) T.g_head_body rfl) (pa_cons (pe_call (ok_l_no_head T) (hr.mono (by decide)) (by rfl) T.g_l_no_head T.F_l_no_head.kp T.b_l_no_head .nil pass0 (pa_cons (pv 2) (pa_cons (pv 3) pa_nil))) pa_nil))))) (pss_one (ps_ret pe_bl)) pss_nil)
      (pss_one (ps_if (pt_not (pt_val (pe_call (ok_l_refused T) (hr.mono (by decide)) (by rfl) T.g_l_refused T.F_l_refused.kp T.b_l_refused .nil pass0 (pa_cons (pe_glob (v := .ref T.a_read_head) (by rfl) T.g_read_head rfl) (pa_cons (pe_ix ix_list (pe_lst (pa_cons pe_non (pa_cons pe_str (pa_cons (pe_callTy call_tuple_of (by rfl) T.m_tuple (by decide +kernel) (pa_cons (pv 4) pa_nil)) (pa_cons pe_dnewK (pa_cons pe_int (pa_cons (pe_lst (pa_cons pe_int pa_nil)) (pa_cons (pe_lst (pa_cons pe_non pa_nil)) pa_nil)))))))) (pe_call (ok_l_digit T) (hr.mono (by decide)) (by rfl) T.g_l_digit T.F_l_digit.kp T.b_l_digit .nil pass0 (pa_cons (pv 2) (pa_cons pe_int pa_nil))) (fun _ _ => rfl)) pa_nil))))) (pss_one (ps_ret pe_bl)) pss_nil))))))))
      (pss_one (ps_ret pe_bl)))), enter h fun F xs cs post hE hw => ?_⟩)
  obtain ⟨ns, rfl, rfl, hn, q⟩ := hw
  walk_at "E"
  refine wr_neD 2 (.dat _) (.dat _) rfl rfl (by decide) ?_
  rw [show (!eqD (D.tup [.int 1, .int 2, .int 3]) (D.tup [.int 1, .int 2, .int 3])) = false from rfl]
  walk_at "E"
  obtain ⟨X, eX, lX⟩ := cut_ints ns none (some 8)
  rw [eX]
  walk_at "cat"
  walk_at "E"
  walk_at "nr2"
  refine loop_cut (fun ds ρ => ∃ (ms : List Int) (a1 a2 a3 a4 a5 a6 a7 a8 : Option AV), ds = ms.map D.int ∧ ρ = ⟨[some (.dat (.scr (ns.map D.int))), a1, a2, a3, a4, a5, a6, a7, a8], [.lst (X.map D.int), .lst [.int 0, .int 1], .lst (X.map D.int ++ [.int 0, .int 1])]⟩) ⟨X ++ [0, 1], _, _, _, _, _, _, _, _, by rw [List.map_append]; rfl, rfl⟩ ?_ ?_
  · rintro ρ ⟨ms, a1, a2, a3, a4, a5, a6, a7, a8, hm, rfl⟩
    refine ⟨.cel rfl, ?_⟩
    walk_at "E"
    exact fin_dat rfl q
  · rintro d ds ρ ⟨ms, a1, a2, a3, a4, a5, a6, a7, a8, hm, rfl⟩
    refine ⟨.cel rfl, ?_⟩
    cases ms with
    | nil => cases hm
    | cons c ms =>
    obtain ⟨rfl, rfl⟩ := List.cons.inj hm
    walk_at "E"
    refine wsp_drw (j := 3) rfl ?_
    walk_at "nr2"
    walk_at "cd"
    refine ⟨rfl, rfl, fun s v ls ok h4 => ⟨rfl, rfl, ?_⟩⟩
    have ln := ok.2.2.1
    have hs := hdN_short (s := s) (v := v) ln.2 h4
    have nums := (hdN_Nums ok).1
    have hb2 := bodyI_len nums
    walk_at "E"
    walk_at "c"
    refine ⟨s, v, ls, rfl, rfl, ok, rfl, ?_⟩
    walk_at "E"
    walk_at "c"
    refine ⟨hdN s v ls, rfl, rfl, nums, by omega, aft_hards (hards_int _) ?_⟩
    walk_at "E"
    refine ⟨by decide, ?_⟩
    rw [show (2 : Int).toNat = 2 from rfl]
    walk_at "nr4"
    refine loop_rng (fun t ρ => ∃ (c5 c6 c7 c8 : Option AV), ρ = ⟨[some (.dat (.scr (ns.map D.int))), some (.dat (.int c)), some (.cel 3), some (.dat (hdD s v ls)), some (.cel 4), c5, c6, c7, c8], [.lst (X.map D.int), .lst [.int 0, .int 1], .lst (X.map D.int ++ [.int 0, .int 1]), .drw, .lst ((bodyI (hdN s v ls)).map D.int)]⟩) ⟨_, _, _, _, rfl⟩ ?_ ?_
    · rintro ρ ⟨c5, c6, c7, c8, rfl⟩
      refine ⟨trivial, ?_⟩
      walk_at "E"
      walk_at "nr4"
      refine we_cr (fun _ => Rep.cls _) ?_
      walk_at "E"
      walk_at "nr4"
      walk_at "cd"
      refine ⟨s, v, ls, rfl, rfl, ok, fun d dp di => ⟨rfl, by rw [show onlyC 3 [AV.cel 3, AV.dat (hdD s v ls)] = true from rfl]; rfl, ?_⟩⟩
      walk_at "E"
      walk_at "nr4"
      walk_at "c"
      refine ⟨_, d, rfl, rfl, .inr ⟨rfl, dp, di⟩, aft_hard rfl ?_⟩
      walk_at "E"
      walk_at "nr4"
      refine we_cr (fun _ => Rep.cls _) ?_
      walk_at "E"
      walk_at "nr4"
      refine wsp_digit rfl (by decide) (by decide) fun u u0 u1 => ?_
      walk_at "E"
      refine wr_ixA (by walk_at "il") u0 (by show u < ((7 : Nat) : Int); exact u1) fun nd hd => ?_
      have rf := odd7H nd hd
      clear hd
      walk_at "E"
      walk_at "nr4"
      walk_at "c"
      refine ⟨_, nd, rfl, rfl, .inl ⟨rfl, rf⟩, aft_hard rfl ?_⟩
      walk_at "E"
      walk_at "nr4"
      exact now ⟨ms, _, _, _, _, _, _, _, _, rfl, rfl⟩
    · rintro t ρ hlt ⟨c5, c6, c7, c8, rfl⟩
      refine ⟨trivial, ?_⟩
      walk_at "E"
      walk_at "nr4"
      walk_at "c"
      refine ⟨s, v, ls, rfl, rfl, ok, rfl, ?_⟩
      walk_at "E"
      walk_at "nr4"
      walk_at "c"
      refine ⟨hdD s v ls, rfl, rfl, pl_hdD _ _ _, fun z => absurd (isHd_mk ok) (by rw [z]; decide), fun s2 v2 ls2 e2 _ => ?_⟩
      obtain ⟨rfl, rfl, rfl⟩ := hdD_inj e2
      refine aft_hards (hards_int _) ?_
      walk_at "E"
      walk_at "nr4"
      refine wr_neD 1 (.cel rfl) (.cel rfl) (fine_ints 0 _) (fine_ints 0 _) (by decide) ?_
      rw [self_ints]
      walk_at "E"
      walk_at "nr4"
      refine wr_neD 6 (.dat _) (.dat _) (fine_hd s v ls) (fine_hd s v ls) (by decide) ?_
      rw [self_hd]
      walk_at "G"
      walk_at "nr4"
      generalize hR : (tSeq (tDrop (tBM _ _ _ (tVar 7) _)) _ : TS) = R
      refine ws_lowT [8] (R := R) (fun as σ H1 G DD e kk => ?_) ?_
      · obtain ⟨vt, et, rt⟩ := e.sl 7 _ rfl
        obtain ⟨vd, ed, rd⟩ := e.sl 4 _ rfl
        obtain ⟨vh, eh, rh⟩ := e.sl 3 _ rfl
        obtain ⟨p, hp, rfl⟩ := rt
        obtain ⟨_, _, _, wp, hpH, hpR⟩ := e.ce 5 _ p rfl hp
        have ewp := reps_ints hpR
        subst ewp
        obtain ⟨dq, hdq, rfl⟩ := rd
        obtain ⟨_, _, _, wd, hdH, hdR⟩ := e.ce 4 _ dq rfl hdq
        have ewd := reps_ints hdR
        subst ewd
        have rh1 : Rep K H1 (hdD s v ls) vh := Rep.mono e.gh _ _ rh
        obtain ⟨s0, s1, s2, s3, s4, s5, s6, s7, s8, rfl⟩ := len9 e.sn
        have et2 : s7 = some (.ref p) := by injection et
        have ed2 : s4 = some (.ref dq) := by injection ed
        have eh2 : s3 = some vh := by injection eh
        clear e et ed eh rh hpR hdR hp hdq
        subst et2 ed2 eh2
        refine ⟨_, rfl, call_fresh1 (p := p) (ns := bodyI (hdN s v ls)) hpH (fun post exc q => ask_readH ok (by omega) q) fun v0 T2 H2 s12 sT rT fr => ?_⟩
        refine ⟨_, rfl, _, rfl, ne_same (Rep.mono sT _ _ rT) (Rep.mono s12 _ _ rh1) (fine_hd s v ls) (by decide) (noB_hd s v ls) ⟨false, rfl, ?_⟩⟩
        refine ifF rfl ?_
        refine ⟨_, rfl, call_bl (T := T2) (b := true) sT rT (fun post exc q => ⟨s, v, ls, rfl, rfl, ln.2, q⟩) fun H3 s23 => ⟨true, rfl, ?_⟩⟩
        refine ifF rfl ?_
        have s13 := Same.trans s12 s23
        have rpo : Rep K H3 (.lst ((bodyI (hdN s v ls)).map .int)) (.ref p) := .lst (s13 _ _ hpH) Reps.ofV
        have rdo : Rep K H3 (.lst ((bodyI (hdN s v ls)).map .int)) (.ref dq) := .lst (s13 _ _ hdH) Reps.ofV
        refine ⟨_, rfl, _, rfl, ne_same (n := 1) rpo rdo (fine_ints 0 _) (by decide) (noBs_ints _) ⟨false, rfl, ?_⟩⟩
        refine ifF rfl ?_
        have n3 : 3 ≤ (hdN s v ls).length := by
          show 3 ≤ (ls.map hlN).flatten.length + 1 + 1 + 1
          omega
        obtain ⟨tt, b, t1, ee, x1, x2, y1, y2, ys, zs, rfl, ht, hb, hyl, ht1, he, hzl, nb, ne⟩ := head_parts ok s13 (Same.trans sT s23) rT hpH (by omega) fr
        refine ⟨_, rfl, tt, _, 2, .ref b, rfl, rfl, ht, rfl, b, _, 0, .ref t1, rfl, rfl, SqL.of hb, atI_nat (j := 0) rfl, t1, _, 2, .ref ee, rfl, rfl, ht1, rfl, .inl ⟨rfl, _, SqL.of he⟩, ee, zs, .int 0, rfl, rfl, he, szbl (by omega), ?_⟩
        obtain ⟨us, hu, lu⟩ : ∃ us, (upd H3 ee (.lst (zs ++ [V.int 0]))) b = some (.lst us) ∧ us.length ≤ 70 := by
          by_cases c : b = ee
          · subst c
            exact ⟨_, upd_same, by rw [List.length_append, List.length_singleton]; omega⟩
          · exact ⟨_, (upd_ne c).trans hb, by rw [List.length_cons]; omega⟩
        refine ⟨_, rfl, tt, _, 2, .ref b, rfl, rfl, SqT.keep ht he, rfl, .inl ⟨rfl, _, SqL.of hu⟩, b, us, .non, rfl, rfl, hu, szbl (by omega), ?_⟩
        exact kk _ _ (Same.own (Same.own s13 ne) nb) rfl
      · subst hR
        show WpS K F _ ⟨[some (.dat (.scr (ns.map D.int))), some (.dat (.int c)), some (.cel 3), some (.dat (hdD s v ls)), some (.cel 4), some (.dat (.int (0 + (t : Int)))), some (.dat (hdD s v ls)), some (.cel 5), none], [.lst (X.map D.int), .lst [.int 0, .int 1], .lst (X.map D.int ++ [.int 0, .int 1]), .drw, .lst ((bodyI (hdN s v ls)).map D.int), .lst ((bodyI (hdN s v ls)).map D.int)]⟩ _
        walk_at "E"
        · rw [List.length_map]; omega
        walk_at "E"
        walk_at "nr4"
        refine we_cr (fun _ => Rep.cls _) ?_
        walk_at "E"
        walk_at "nr4"
        walk_at "c"
        refine ⟨_, _, rfl, rfl, .inl ⟨rfl, ref_moreH ok (by omega)⟩, aft_hard rfl ?_⟩
        walk_at "E"
        walk_at "nr4"
        refine we_cr (fun _ => Rep.cls _) ?_
        walk_at "E"
        walk_at "nr4"
        rw [cut_last]
        walk_at "c"
        refine ⟨_, _, rfl, rfl, .inl ⟨rfl, ref_lessH ok (by omega)⟩, aft_hard rfl ?_⟩
        walk_at "E"
        walk_at "nr4"
        refine wm_clear rfl ?_
        exact now ⟨_, _, _, _, rfl⟩
end
theorem all_mk {l : PySem.W.OpenLaw} {w : World} {K : PySem.W.Frag} {h : Heap} {mg : Str → Option Value} {fa : Addr} (X : K.In h) (G : h.Ns mainGlobals mg) (hfa : mg "law" = some (.ref fa))
    {f0 : Addr} {od0 an0 : Option Addr} {sl0 : Array (Option Value)} {oc0 kV0 dc0 pm0 cd0 ct0 : Value}
    (a0 : PySem.W.nsIn K mainGlobals "is_number" = some (some (.ref f0)))
    (l0 : K.lookup f0 = some ⟨oc0, od0, .func (PySem.W.fnOf "is_number" "is_number" (defArgs s_is_number) (defBody s_is_number) (defScope s_is_number) .none kV0 dc0 pm0 an0 cd0 ct0), sl0⟩) (c0 : PySem.W.codeIn K cd0 "is_number" = true) (k0 : PySem.W.keepIn K (.ref f0) = true)
    {f1 : Addr} {od1 an1 : Option Addr} {sl1 : Array (Option Value)} {oc1 kV1 dc1 pm1 cd1 ct1 : Value}
    (a1 : PySem.W.nsIn K mainGlobals "is_whole" = some (some (.ref f1)))
    (l1 : K.lookup f1 = some ⟨oc1, od1, .func (PySem.W.fnOf "is_whole" "is_whole" (defArgs s_is_whole) (defBody s_is_whole) (defScope s_is_whole) .none kV1 dc1 pm1 an1 cd1 ct1), sl1⟩) (c1 : PySem.W.codeIn K cd1 "is_whole" = true) (k1 : PySem.W.keepIn K (.ref f1) = true)
    {f2 : Addr} {od2 an2 : Option Addr} {sl2 : Array (Option Value)} {oc2 kV2 dc2 pm2 cd2 ct2 : Value}
    (a2 : PySem.W.nsIn K mainGlobals "is_bytes" = some (some (.ref f2)))
    (l2 : K.lookup f2 = some ⟨oc2, od2, .func (PySem.W.fnOf "is_bytes" "is_bytes" (defArgs s_is_bytes) (defBody s_is_bytes) (defScope s_is_bytes) .none kV2 dc2 pm2 an2 cd2 ct2), sl2⟩) (c2 : PySem.W.codeIn K cd2 "is_bytes" = true) (k2 : PySem.W.keepIn K (.ref f2) = true)
    {f3 : Addr} {od3 an3 : Option Addr} {sl3 : Array (Option Value)} {oc3 kV3 dc3 pm3 cd3 ct3 : Value}
    (a3 : PySem.W.nsIn K mainGlobals "common_divisor" = some (some (.ref f3)))
    (l3 : K.lookup f3 = some ⟨oc3, od3, .func (PySem.W.fnOf "common_divisor" "common_divisor" (defArgs s_common_divisor) (defBody s_common_divisor) (defScope s_common_divisor) .none kV3 dc3 pm3 an3 cd3 ct3), sl3⟩) (c3 : PySem.W.codeIn K cd3 "common_divisor" = true) (k3 : PySem.W.keepIn K (.ref f3) = true)
    {f4 : Addr} {od4 an4 : Option Addr} {sl4 : Array (Option Value)} {oc4 kV4 dc4 pm4 cd4 ct4 : Value}
    (a4 : PySem.W.nsIn K mainGlobals "is_fraction" = some (some (.ref f4)))
    (l4 : K.lookup f4 = some ⟨oc4, od4, .func (PySem.W.fnOf "is_fraction" "is_fraction" (defArgs s_is_fraction) (defBody s_is_fraction) (defScope s_is_fraction) .none kV4 dc4 pm4 an4 cd4 ct4), sl4⟩) (c4 : PySem.W.codeIn K cd4 "is_fraction" = true) (k4 : PySem.W.keepIn K (.ref f4) = true)
    {f5 : Addr} {od5 an5 : Option Addr} {sl5 : Array (Option Value)} {oc5 kV5 dc5 pm5 cd5 ct5 : Value}
    (a5 : PySem.W.nsIn K mainGlobals "is_moment" = some (some (.ref f5)))
    (l5 : K.lookup f5 = some ⟨oc5, od5, .func (PySem.W.fnOf "is_moment" "is_moment" (defArgs s_is_moment) (defBody s_is_moment) (defScope s_is_moment) .none kV5 dc5 pm5 an5 cd5 ct5), sl5⟩) (c5 : PySem.W.codeIn K cd5 "is_moment" = true) (k5 : PySem.W.keepIn K (.ref f5) = true)
    {f6 : Addr} {od6 an6 : Option Addr} {sl6 : Array (Option Value)} {oc6 kV6 dc6 pm6 cd6 ct6 : Value}
    (a6 : PySem.W.nsIn K mainGlobals "is_edit" = some (some (.ref f6)))
    (l6 : K.lookup f6 = some ⟨oc6, od6, .func (PySem.W.fnOf "is_edit" "is_edit" (defArgs s_is_edit) (defBody s_is_edit) (defScope s_is_edit) .none kV6 dc6 pm6 an6 cd6 ct6), sl6⟩) (c6 : PySem.W.codeIn K cd6 "is_edit" = true) (k6 : PySem.W.keepIn K (.ref f6) = true)
    {f7 : Addr} {od7 an7 : Option Addr} {sl7 : Array (Option Value)} {oc7 kV7 dc7 pm7 cd7 ct7 : Value}
    (a7 : PySem.W.nsIn K mainGlobals "is_edits" = some (some (.ref f7)))
    (l7 : K.lookup f7 = some ⟨oc7, od7, .func (PySem.W.fnOf "is_edits" "is_edits" (defArgs s_is_edits) (defBody s_is_edits) (defScope s_is_edits) .none kV7 dc7 pm7 an7 cd7 ct7), sl7⟩) (c7 : PySem.W.codeIn K cd7 "is_edits" = true) (k7 : PySem.W.keepIn K (.ref f7) = true)
    {f8 : Addr} {od8 an8 : Option Addr} {sl8 : Array (Option Value)} {oc8 kV8 dc8 pm8 cd8 ct8 : Value}
    (a8 : PySem.W.nsIn K mainGlobals "is_seal" = some (some (.ref f8)))
    (l8 : K.lookup f8 = some ⟨oc8, od8, .func (PySem.W.fnOf "is_seal" "is_seal" (defArgs s_is_seal) (defBody s_is_seal) (defScope s_is_seal) .none kV8 dc8 pm8 an8 cd8 ct8), sl8⟩) (c8 : PySem.W.codeIn K cd8 "is_seal" = true) (k8 : PySem.W.keepIn K (.ref f8) = true)
    {f9 : Addr} {od9 an9 : Option Addr} {sl9 : Array (Option Value)} {oc9 kV9 dc9 pm9 cd9 ct9 : Value}
    (a9 : PySem.W.nsIn K mainGlobals "is_wide" = some (some (.ref f9)))
    (l9 : K.lookup f9 = some ⟨oc9, od9, .func (PySem.W.fnOf "is_wide" "is_wide" (defArgs s_is_wide) (defBody s_is_wide) (defScope s_is_wide) .none kV9 dc9 pm9 an9 cd9 ct9), sl9⟩) (c9 : PySem.W.codeIn K cd9 "is_wide" = true) (k9 : PySem.W.keepIn K (.ref f9) = true)
    {f10 : Addr} {od10 an10 : Option Addr} {sl10 : Array (Option Value)} {oc10 kV10 dc10 pm10 cd10 ct10 : Value}
    (a10 : PySem.W.nsIn K mainGlobals "is_units" = some (some (.ref f10)))
    (l10 : K.lookup f10 = some ⟨oc10, od10, .func (PySem.W.fnOf "is_units" "is_units" (defArgs s_is_units) (defBody s_is_units) (defScope s_is_units) .none kV10 dc10 pm10 an10 cd10 ct10), sl10⟩) (c10 : PySem.W.codeIn K cd10 "is_units" = true) (k10 : PySem.W.keepIn K (.ref f10) = true)
    {f11 : Addr} {od11 an11 : Option Addr} {sl11 : Array (Option Value)} {oc11 kV11 dc11 pm11 cd11 ct11 : Value}
    (a11 : PySem.W.nsIn K mainGlobals "is_list" = some (some (.ref f11)))
    (l11 : K.lookup f11 = some ⟨oc11, od11, .func (PySem.W.fnOf "is_list" "is_list" (defArgs s_is_list) (defBody s_is_list) (defScope s_is_list) .none kV11 dc11 pm11 an11 cd11 ct11), sl11⟩) (c11 : PySem.W.codeIn K cd11 "is_list" = true) (k11 : PySem.W.keepIn K (.ref f11) = true)
    {f12 : Addr} {od12 an12 : Option Addr} {sl12 : Array (Option Value)} {oc12 kV12 dc12 pm12 cd12 ct12 : Value}
    (a12 : PySem.W.nsIn K mainGlobals "is_small_edit" = some (some (.ref f12)))
    (l12 : K.lookup f12 = some ⟨oc12, od12, .func (PySem.W.fnOf "is_small_edit" "is_small_edit" (defArgs s_is_small_edit) (defBody s_is_small_edit) (defScope s_is_small_edit) .none kV12 dc12 pm12 an12 cd12 ct12), sl12⟩) (c12 : PySem.W.codeIn K cd12 "is_small_edit" = true) (k12 : PySem.W.keepIn K (.ref f12) = true)
    {f13 : Addr} {od13 an13 : Option Addr} {sl13 : Array (Option Value)} {oc13 kV13 dc13 pm13 cd13 ct13 : Value}
    (a13 : PySem.W.nsIn K mainGlobals "is_lane_edits" = some (some (.ref f13)))
    (l13 : K.lookup f13 = some ⟨oc13, od13, .func (PySem.W.fnOf "is_lane_edits" "is_lane_edits" (defArgs s_is_lane_edits) (defBody s_is_lane_edits) (defScope s_is_lane_edits) .none kV13 dc13 pm13 an13 cd13 ct13), sl13⟩) (c13 : PySem.W.codeIn K cd13 "is_lane_edits" = true) (k13 : PySem.W.keepIn K (.ref f13) = true)
    {f14 : Addr} {od14 an14 : Option Addr} {sl14 : Array (Option Value)} {oc14 kV14 dc14 pm14 cd14 ct14 : Value}
    (a14 : PySem.W.nsIn K mainGlobals "written" = some (some (.ref f14)))
    (l14 : K.lookup f14 = some ⟨oc14, od14, .func (PySem.W.fnOf "written" "written" (defArgs s_written) (defBody s_written) (defScope s_written) .none kV14 dc14 pm14 an14 cd14 ct14), sl14⟩) (c14 : PySem.W.codeIn K cd14 "written" = true) (k14 : PySem.W.keepIn K (.ref f14) = true)
    {f15 : Addr} {od15 an15 : Option Addr} {sl15 : Array (Option Value)} {oc15 kV15 dc15 pm15 cd15 ct15 : Value}
    (a15 : PySem.W.nsIn K mainGlobals "number_at" = some (some (.ref f15)))
    (l15 : K.lookup f15 = some ⟨oc15, od15, .func (PySem.W.fnOf "number_at" "number_at" (defArgs s_number_at) (defBody s_number_at) (defScope s_number_at) .none kV15 dc15 pm15 an15 cd15 ct15), sl15⟩) (c15 : PySem.W.codeIn K cd15 "number_at" = true) (k15 : PySem.W.keepIn K (.ref f15) = true)
    {f16 : Addr} {od16 an16 : Option Addr} {sl16 : Array (Option Value)} {oc16 kV16 dc16 pm16 cd16 ct16 : Value}
    {D16 : Addr} (y16 : PySem.W.nsIn K mainGlobals "Numbers" = some (some (.ref D16))) (a16 : PySem.W.findIn K (.ref D16) "__init__" = some (some (.ref f16)))
    (l16 : K.lookup f16 = some ⟨oc16, od16, .func (PySem.W.fnOf "__init__" "Numbers.__init__" (defArgs s_Numbers_init) (defBody s_Numbers_init) (defScope s_Numbers_init) .none kV16 dc16 pm16 an16 cd16 ct16), sl16⟩) (c16 : PySem.W.codeIn K cd16 "Numbers.__init__" = true) (k16 : PySem.W.keepIn K (.ref f16) = true)
    {f17 : Addr} {od17 an17 : Option Addr} {sl17 : Array (Option Value)} {oc17 kV17 dc17 pm17 cd17 ct17 : Value}
    {D17 : Addr} (y17 : PySem.W.nsIn K mainGlobals "Numbers" = some (some (.ref D17))) (a17 : PySem.W.findIn K (.ref D17) "one" = some (some (.ref f17)))
    (l17 : K.lookup f17 = some ⟨oc17, od17, .func (PySem.W.fnOf "one" "Numbers.one" (defArgs s_Numbers_one) (defBody s_Numbers_one) (defScope s_Numbers_one) .none kV17 dc17 pm17 an17 cd17 ct17), sl17⟩) (c17 : PySem.W.codeIn K cd17 "Numbers.one" = true) (k17 : PySem.W.keepIn K (.ref f17) = true)
    {f18 : Addr} {od18 an18 : Option Addr} {sl18 : Array (Option Value)} {oc18 kV18 dc18 pm18 cd18 ct18 : Value}
    {D18 : Addr} (y18 : PySem.W.nsIn K mainGlobals "Numbers" = some (some (.ref D18))) (a18 : PySem.W.findIn K (.ref D18) "some" = some (some (.ref f18)))
    (l18 : K.lookup f18 = some ⟨oc18, od18, .func (PySem.W.fnOf "some" "Numbers.some" (defArgs s_Numbers_some) (defBody s_Numbers_some) (defScope s_Numbers_some) .none kV18 dc18 pm18 an18 cd18 ct18), sl18⟩) (c18 : PySem.W.codeIn K cd18 "Numbers.some" = true) (k18 : PySem.W.keepIn K (.ref f18) = true)
    {f19 : Addr} {od19 an19 : Option Addr} {sl19 : Array (Option Value)} {oc19 kV19 dc19 pm19 cd19 ct19 : Value}
    {D19 : Addr} (y19 : PySem.W.nsIn K mainGlobals "Numbers" = some (some (.ref D19))) (a19 : PySem.W.findIn K (.ref D19) "choice" = some (some (.ref f19)))
    (l19 : K.lookup f19 = some ⟨oc19, od19, .func (PySem.W.fnOf "choice" "Numbers.choice" (defArgs s_Numbers_choice) (defBody s_Numbers_choice) (defScope s_Numbers_choice) .none kV19 dc19 pm19 an19 cd19 ct19), sl19⟩) (c19 : PySem.W.codeIn K cd19 "Numbers.choice" = true) (k19 : PySem.W.keepIn K (.ref f19) = true)
    {f20 : Addr} {od20 an20 : Option Addr} {sl20 : Array (Option Value)} {oc20 kV20 dc20 pm20 cd20 ct20 : Value}
    {D20 : Addr} (y20 : PySem.W.nsIn K mainGlobals "Numbers" = some (some (.ref D20))) (a20 : PySem.W.findIn K (.ref D20) "is_over" = some (some (.ref f20)))
    (l20 : K.lookup f20 = some ⟨oc20, od20, .func (PySem.W.fnOf "is_over" "Numbers.is_over" (defArgs s_Numbers_is_over) (defBody s_Numbers_is_over) (defScope s_Numbers_is_over) .none kV20 dc20 pm20 an20 cd20 ct20), sl20⟩) (c20 : PySem.W.codeIn K cd20 "Numbers.is_over" = true) (k20 : PySem.W.keepIn K (.ref f20) = true)
    {f21 : Addr} {od21 an21 : Option Addr} {sl21 : Array (Option Value)} {oc21 kV21 dc21 pm21 cd21 ct21 : Value}
    (a21 : PySem.W.nsIn K mainGlobals "numbers_in" = some (some (.ref f21)))
    (l21 : K.lookup f21 = some ⟨oc21, od21, .func (PySem.W.fnOf "numbers_in" "numbers_in" (defArgs s_numbers_in) (defBody s_numbers_in) (defScope s_numbers_in) .none kV21 dc21 pm21 an21 cd21 ct21), sl21⟩) (c21 : PySem.W.codeIn K cd21 "numbers_in" = true) (k21 : PySem.W.keepIn K (.ref f21) = true)
    {f22 : Addr} {od22 an22 : Option Addr} {sl22 : Array (Option Value)} {oc22 kV22 dc22 pm22 cd22 ct22 : Value}
    (a22 : PySem.W.nsIn K mainGlobals "body_of" = some (some (.ref f22)))
    (l22 : K.lookup f22 = some ⟨oc22, od22, .func (PySem.W.fnOf "body_of" "body_of" (defArgs s_body_of) (defBody s_body_of) (defScope s_body_of) .none kV22 dc22 pm22 an22 cd22 ct22), sl22⟩) (c22 : PySem.W.codeIn K cd22 "body_of" = true) (k22 : PySem.W.keepIn K (.ref f22) = true)
    {f23 : Addr} {od23 an23 : Option Addr} {sl23 : Array (Option Value)} {oc23 kV23 dc23 pm23 cd23 ct23 : Value}
    (a23 : PySem.W.nsIn K mainGlobals "edit_numbers" = some (some (.ref f23)))
    (l23 : K.lookup f23 = some ⟨oc23, od23, .func (PySem.W.fnOf "edit_numbers" "edit_numbers" (defArgs s_edit_numbers) (defBody s_edit_numbers) (defScope s_edit_numbers) .none kV23 dc23 pm23 an23 cd23 ct23), sl23⟩) (c23 : PySem.W.codeIn K cd23 "edit_numbers" = true) (k23 : PySem.W.keepIn K (.ref f23) = true)
    {f24 : Addr} {od24 an24 : Option Addr} {sl24 : Array (Option Value)} {oc24 kV24 dc24 pm24 cd24 ct24 : Value}
    (a24 : PySem.W.nsIn K mainGlobals "edits_numbers" = some (some (.ref f24)))
    (l24 : K.lookup f24 = some ⟨oc24, od24, .func (PySem.W.fnOf "edits_numbers" "edits_numbers" (defArgs s_edits_numbers) (defBody s_edits_numbers) (defScope s_edits_numbers) .none kV24 dc24 pm24 an24 cd24 ct24), sl24⟩) (c24 : PySem.W.codeIn K cd24 "edits_numbers" = true) (k24 : PySem.W.keepIn K (.ref f24) = true)
    {f25 : Addr} {od25 an25 : Option Addr} {sl25 : Array (Option Value)} {oc25 kV25 dc25 pm25 cd25 ct25 : Value}
    (a25 : PySem.W.nsIn K mainGlobals "taken_edit" = some (some (.ref f25)))
    (l25 : K.lookup f25 = some ⟨oc25, od25, .func (PySem.W.fnOf "taken_edit" "taken_edit" (defArgs s_taken_edit) (defBody s_taken_edit) (defScope s_taken_edit) .none kV25 dc25 pm25 an25 cd25 ct25), sl25⟩) (c25 : PySem.W.codeIn K cd25 "taken_edit" = true) (k25 : PySem.W.keepIn K (.ref f25) = true)
    {f26 : Addr} {od26 an26 : Option Addr} {sl26 : Array (Option Value)} {oc26 kV26 dc26 pm26 cd26 ct26 : Value}
    (a26 : PySem.W.nsIn K mainGlobals "taken_edits" = some (some (.ref f26)))
    (l26 : K.lookup f26 = some ⟨oc26, od26, .func (PySem.W.fnOf "taken_edits" "taken_edits" (defArgs s_taken_edits) (defBody s_taken_edits) (defScope s_taken_edits) .none kV26 dc26 pm26 an26 cd26 ct26), sl26⟩) (c26 : PySem.W.codeIn K cd26 "taken_edits" = true) (k26 : PySem.W.keepIn K (.ref f26) = true)
    {f27 : Addr} {od27 an27 : Option Addr} {sl27 : Array (Option Value)} {oc27 kV27 dc27 pm27 cd27 ct27 : Value}
    (a27 : PySem.W.nsIn K mainGlobals "taken_head_lane" = some (some (.ref f27)))
    (l27 : K.lookup f27 = some ⟨oc27, od27, .func (PySem.W.fnOf "taken_head_lane" "taken_head_lane" (defArgs s_taken_head_lane) (defBody s_taken_head_lane) (defScope s_taken_head_lane) .none kV27 dc27 pm27 an27 cd27 ct27), sl27⟩) (c27 : PySem.W.codeIn K cd27 "taken_head_lane" = true) (k27 : PySem.W.keepIn K (.ref f27) = true)
    {f28 : Addr} {od28 an28 : Option Addr} {sl28 : Array (Option Value)} {oc28 kV28 dc28 pm28 cd28 ct28 : Value}
    (a28 : PySem.W.nsIn K mainGlobals "is_head_lane" = some (some (.ref f28)))
    (l28 : K.lookup f28 = some ⟨oc28, od28, .func (PySem.W.fnOf "is_head_lane" "is_head_lane" (defArgs s_is_head_lane) (defBody s_is_head_lane) (defScope s_is_head_lane) .none kV28 dc28 pm28 an28 cd28 ct28), sl28⟩) (c28 : PySem.W.codeIn K cd28 "is_head_lane" = true) (k28 : PySem.W.keepIn K (.ref f28) = true)
    {f29 : Addr} {od29 an29 : Option Addr} {sl29 : Array (Option Value)} {oc29 kV29 dc29 pm29 cd29 ct29 : Value}
    (a29 : PySem.W.nsIn K mainGlobals "is_head" = some (some (.ref f29)))
    (l29 : K.lookup f29 = some ⟨oc29, od29, .func (PySem.W.fnOf "is_head" "is_head" (defArgs s_is_head) (defBody s_is_head) (defScope s_is_head) .none kV29 dc29 pm29 an29 cd29 ct29), sl29⟩) (c29 : PySem.W.codeIn K cd29 "is_head" = true) (k29 : PySem.W.keepIn K (.ref f29) = true)
    {f30 : Addr} {od30 an30 : Option Addr} {sl30 : Array (Option Value)} {oc30 kV30 dc30 pm30 cd30 ct30 : Value}
    (a30 : PySem.W.nsIn K mainGlobals "head_body" = some (some (.ref f30)))
    (l30 : K.lookup f30 = some ⟨oc30, od30, .func (PySem.W.fnOf "head_body" "head_body" (defArgs s_head_body) (defBody s_head_body) (defScope s_head_body) .none kV30 dc30 pm30 an30 cd30 ct30), sl30⟩) (c30 : PySem.W.codeIn K cd30 "head_body" = true) (k30 : PySem.W.keepIn K (.ref f30) = true)
    {f31 : Addr} {od31 an31 : Option Addr} {sl31 : Array (Option Value)} {oc31 kV31 dc31 pm31 cd31 ct31 : Value}
    (a31 : PySem.W.nsIn K mainGlobals "read_head" = some (some (.ref f31)))
    (l31 : K.lookup f31 = some ⟨oc31, od31, .func (PySem.W.fnOf "read_head" "read_head" (defArgs s_read_head) (defBody s_read_head) (defScope s_read_head) .none kV31 dc31 pm31 an31 cd31 ct31), sl31⟩) (c31 : PySem.W.codeIn K cd31 "read_head" = true) (k31 : PySem.W.keepIn K (.ref f31) = true)
    {f32 : Addr} {od32 an32 : Option Addr} {sl32 : Array (Option Value)} {oc32 kV32 dc32 pm32 cd32 ct32 : Value}
    (a32 : PySem.W.nsIn K mainGlobals "_law_digit" = some (some (.ref f32)))
    (l32 : K.lookup f32 = some ⟨oc32, od32, .func (PySem.W.fnOf "_law_digit" "_law_digit" (defArgs s_l_digit) (defBody s_l_digit) (defScope s_l_digit) .none kV32 dc32 pm32 an32 cd32 ct32), sl32⟩) (c32 : PySem.W.codeIn K cd32 "_law_digit" = true) (k32 : PySem.W.keepIn K (.ref f32) = true)
    {f33 : Addr} {od33 an33 : Option Addr} {sl33 : Array (Option Value)} {oc33 kV33 dc33 pm33 cd33 ct33 : Value}
    (a33 : PySem.W.nsIn K mainGlobals "_law_shared" = some (some (.ref f33)))
    (l33 : K.lookup f33 = some ⟨oc33, od33, .func (PySem.W.fnOf "_law_shared" "_law_shared" (defArgs s_l_shared) (defBody s_l_shared) (defScope s_l_shared) .none kV33 dc33 pm33 an33 cd33 ct33), sl33⟩) (c33 : PySem.W.codeIn K cd33 "_law_shared" = true) (k33 : PySem.W.keepIn K (.ref f33) = true)
    {f34 : Addr} {od34 an34 : Option Addr} {sl34 : Array (Option Value)} {oc34 kV34 dc34 pm34 cd34 ct34 : Value}
    (a34 : PySem.W.nsIn K mainGlobals "_law_lowest" = some (some (.ref f34)))
    (l34 : K.lookup f34 = some ⟨oc34, od34, .func (PySem.W.fnOf "_law_lowest" "_law_lowest" (defArgs s_l_lowest) (defBody s_l_lowest) (defScope s_l_lowest) .none kV34 dc34 pm34 an34 cd34 ct34), sl34⟩) (c34 : PySem.W.codeIn K cd34 "_law_lowest" = true) (k34 : PySem.W.keepIn K (.ref f34) = true)
    {f35 : Addr} {od35 an35 : Option Addr} {sl35 : Array (Option Value)} {oc35 kV35 dc35 pm35 cd35 ct35 : Value}
    (a35 : PySem.W.nsIn K mainGlobals "_law_figures" = some (some (.ref f35)))
    (l35 : K.lookup f35 = some ⟨oc35, od35, .func (PySem.W.fnOf "_law_figures" "_law_figures" (defArgs s_l_figures) (defBody s_l_figures) (defScope s_l_figures) .none kV35 dc35 pm35 an35 cd35 ct35), sl35⟩) (c35 : PySem.W.codeIn K cd35 "_law_figures" = true) (k35 : PySem.W.keepIn K (.ref f35) = true)
    {f36 : Addr} {od36 an36 : Option Addr} {sl36 : Array (Option Value)} {oc36 kV36 dc36 pm36 cd36 ct36 : Value}
    (a36 : PySem.W.nsIn K mainGlobals "_law_edit_numbers" = some (some (.ref f36)))
    (l36 : K.lookup f36 = some ⟨oc36, od36, .func (PySem.W.fnOf "_law_edit_numbers" "_law_edit_numbers" (defArgs s_l_edit_numbers) (defBody s_l_edit_numbers) (defScope s_l_edit_numbers) .none kV36 dc36 pm36 an36 cd36 ct36), sl36⟩) (c36 : PySem.W.codeIn K cd36 "_law_edit_numbers" = true) (k36 : PySem.W.keepIn K (.ref f36) = true)
    {f37 : Addr} {od37 an37 : Option Addr} {sl37 : Array (Option Value)} {oc37 kV37 dc37 pm37 cd37 ct37 : Value}
    (a37 : PySem.W.nsIn K mainGlobals "_law_head_numbers" = some (some (.ref f37)))
    (l37 : K.lookup f37 = some ⟨oc37, od37, .func (PySem.W.fnOf "_law_head_numbers" "_law_head_numbers" (defArgs s_l_head_numbers) (defBody s_l_head_numbers) (defScope s_l_head_numbers) .none kV37 dc37 pm37 an37 cd37 ct37), sl37⟩) (c37 : PySem.W.codeIn K cd37 "_law_head_numbers" = true) (k37 : PySem.W.keepIn K (.ref f37) = true)
    {f38 : Addr} {od38 an38 : Option Addr} {sl38 : Array (Option Value)} {oc38 kV38 dc38 pm38 cd38 ct38 : Value}
    (a38 : PySem.W.nsIn K mainGlobals "_law_all_figures" = some (some (.ref f38)))
    (l38 : K.lookup f38 = some ⟨oc38, od38, .func (PySem.W.fnOf "_law_all_figures" "_law_all_figures" (defArgs s_l_all_figures) (defBody s_l_all_figures) (defScope s_l_all_figures) .none kV38 dc38 pm38 an38 cd38 ct38), sl38⟩) (c38 : PySem.W.codeIn K cd38 "_law_all_figures" = true) (k38 : PySem.W.keepIn K (.ref f38) = true)
    {f39 : Addr} {od39 an39 : Option Addr} {sl39 : Array (Option Value)} {oc39 kV39 dc39 pm39 cd39 ct39 : Value}
    (a39 : PySem.W.nsIn K mainGlobals "_law_refused" = some (some (.ref f39)))
    (l39 : K.lookup f39 = some ⟨oc39, od39, .func (PySem.W.fnOf "_law_refused" "_law_refused" (defArgs s_l_refused) (defBody s_l_refused) (defScope s_l_refused) .none kV39 dc39 pm39 an39 cd39 ct39), sl39⟩) (c39 : PySem.W.codeIn K cd39 "_law_refused" = true) (k39 : PySem.W.keepIn K (.ref f39) = true)
    {f40 : Addr} {od40 an40 : Option Addr} {sl40 : Array (Option Value)} {oc40 kV40 dc40 pm40 cd40 ct40 : Value}
    (a40 : PySem.W.nsIn K mainGlobals "_law_moment" = some (some (.ref f40)))
    (l40 : K.lookup f40 = some ⟨oc40, od40, .func (PySem.W.fnOf "_law_moment" "_law_moment" (defArgs s_l_moment) (defBody s_l_moment) (defScope s_l_moment) .none kV40 dc40 pm40 an40 cd40 ct40), sl40⟩) (c40 : PySem.W.codeIn K cd40 "_law_moment" = true) (k40 : PySem.W.keepIn K (.ref f40) = true)
    {f41 : Addr} {od41 an41 : Option Addr} {sl41 : Array (Option Value)} {oc41 kV41 dc41 pm41 cd41 ct41 : Value}
    (a41 : PySem.W.nsIn K mainGlobals "_law_edit" = some (some (.ref f41)))
    (l41 : K.lookup f41 = some ⟨oc41, od41, .func (PySem.W.fnOf "_law_edit" "_law_edit" (defArgs s_l_edit) (defBody s_l_edit) (defScope s_l_edit) .none kV41 dc41 pm41 an41 cd41 ct41), sl41⟩) (c41 : PySem.W.codeIn K cd41 "_law_edit" = true) (k41 : PySem.W.keepIn K (.ref f41) = true)
    {f42 : Addr} {od42 an42 : Option Addr} {sl42 : Array (Option Value)} {oc42 kV42 dc42 pm42 cd42 ct42 : Value}
    (a42 : PySem.W.nsIn K mainGlobals "_law_head" = some (some (.ref f42)))
    (l42 : K.lookup f42 = some ⟨oc42, od42, .func (PySem.W.fnOf "_law_head" "_law_head" (defArgs s_l_head) (defBody s_l_head) (defScope s_l_head) .none kV42 dc42 pm42 an42 cd42 ct42), sl42⟩) (c42 : PySem.W.codeIn K cd42 "_law_head" = true) (k42 : PySem.W.keepIn K (.ref f42) = true)
    {f43 : Addr} {od43 an43 : Option Addr} {sl43 : Array (Option Value)} {oc43 kV43 dc43 pm43 cd43 ct43 : Value}
    (a43 : PySem.W.nsIn K mainGlobals "_law_no_edit" = some (some (.ref f43)))
    (l43 : K.lookup f43 = some ⟨oc43, od43, .func (PySem.W.fnOf "_law_no_edit" "_law_no_edit" (defArgs s_l_no_edit) (defBody s_l_no_edit) (defScope s_l_no_edit) .none kV43 dc43 pm43 an43 cd43 ct43), sl43⟩) (c43 : PySem.W.codeIn K cd43 "_law_no_edit" = true) (k43 : PySem.W.keepIn K (.ref f43) = true)
    {f44 : Addr} {od44 an44 : Option Addr} {sl44 : Array (Option Value)} {oc44 kV44 dc44 pm44 cd44 ct44 : Value}
    (a44 : PySem.W.nsIn K mainGlobals "_law_no_lane" = some (some (.ref f44)))
    (l44 : K.lookup f44 = some ⟨oc44, od44, .func (PySem.W.fnOf "_law_no_lane" "_law_no_lane" (defArgs s_l_no_lane) (defBody s_l_no_lane) (defScope s_l_no_lane) .none kV44 dc44 pm44 an44 cd44 ct44), sl44⟩) (c44 : PySem.W.codeIn K cd44 "_law_no_lane" = true) (k44 : PySem.W.keepIn K (.ref f44) = true)
    {f45 : Addr} {od45 an45 : Option Addr} {sl45 : Array (Option Value)} {oc45 kV45 dc45 pm45 cd45 ct45 : Value}
    (a45 : PySem.W.nsIn K mainGlobals "_law_no_head" = some (some (.ref f45)))
    (l45 : K.lookup f45 = some ⟨oc45, od45, .func (PySem.W.fnOf "_law_no_head" "_law_no_head" (defArgs s_l_no_head) (defBody s_l_no_head) (defScope s_l_no_head) .none kV45 dc45 pm45 an45 cd45 ct45), sl45⟩) (c45 : PySem.W.codeIn K cd45 "_law_no_head" = true) (k45 : PySem.W.keepIn K (.ref f45) = true)
    {f46 : Addr} {od46 an46 : Option Addr} {sl46 : Array (Option Value)} {oc46 kV46 dc46 pm46 cd46 ct46 : Value}
    (a46 : PySem.W.nsIn K mainGlobals "_law_kept" = some (some (.ref f46)))
    (l46 : K.lookup f46 = some ⟨oc46, od46, .func (PySem.W.fnOf "_law_kept" "_law_kept" (defArgs s_l_kept) (defBody s_l_kept) (defScope s_l_kept) .none kV46 dc46 pm46 an46 cd46 ct46), sl46⟩) (c46 : PySem.W.codeIn K cd46 "_law_kept" = true) (k46 : PySem.W.keepIn K (.ref f46) = true)
    {f47 : Addr} {od47 an47 : Option Addr} {sl47 : Array (Option Value)} {oc47 kV47 dc47 pm47 cd47 ct47 : Value}
    (a47 : PySem.W.nsIn K mainGlobals "_law_kinds" = some (some (.ref f47)))
    (l47 : K.lookup f47 = some ⟨oc47, od47, .func (PySem.W.fnOf "_law_kinds" "_law_kinds" (defArgs s_l_kinds) (defBody s_l_kinds) (defScope s_l_kinds) .none kV47 dc47 pm47 an47 cd47 ct47), sl47⟩) (c47 : PySem.W.codeIn K cd47 "_law_kinds" = true) (k47 : PySem.W.keepIn K (.ref f47) = true)
    {f48 : Addr} {od48 an48 : Option Addr} {sl48 : Array (Option Value)} {oc48 kV48 dc48 pm48 cd48 ct48 : Value}
    (a48 : PySem.W.nsIn K mainGlobals "law" = some (some (.ref f48)))
    (l48 : K.lookup f48 = some ⟨oc48, od48, .func (PySem.W.fnOf "law" "law" (defArgs s_law) (defBody s_law) (defScope s_law) .none kV48 dc48 pm48 an48 cd48 ct48), sl48⟩) (c48 : PySem.W.codeIn K cd48 "law" = true) (k48 : PySem.W.keepIn K (.ref f48) = true)
    (z_abs : PySem.W.nsIn K mainGlobals "abs" = some none)
    (z_all : PySem.W.nsIn K mainGlobals "all" = some none)
    (z_bool : PySem.W.nsIn K mainGlobals "bool" = some none)
    (z_int : PySem.W.nsIn K mainGlobals "int" = some none)
    (z_isinstance : PySem.W.nsIn K mainGlobals "isinstance" = some none)
    (z_len : PySem.W.nsIn K mainGlobals "len" = some none)
    (z_list : PySem.W.nsIn K mainGlobals "list" = some none)
    (z_max : PySem.W.nsIn K mainGlobals "max" = some none)
    (z_range : PySem.W.nsIn K mainGlobals "range" = some none)
    (z_tuple : PySem.W.nsIn K mainGlobals "tuple" = some none)
    {ca_NOUGHT : Addr} {co_NOUGHT : Obj} {cn_NOUGHT : Nat} {cx_NOUGHT_0 cx_NOUGHT_1 : Tok}
    (g_NOUGHT : PySem.W.nsIn K mainGlobals "NOUGHT" = some (some (.ref ca_NOUGHT))) (e_NOUGHT : K.lookup ca_NOUGHT = some co_NOUGHT) (qc_NOUGHT : co_NOUGHT.cls = .type "tuple") (q_NOUGHT : co_NOUGHT.data = .seq #[.int 0 cx_NOUGHT_0, .int 1 cx_NOUGHT_1] cn_NOUGHT)
    {ct_GREATEST_SEAL : Tok} (g_GREATEST_SEAL : PySem.W.nsIn K mainGlobals "GREATEST_SEAL" = some (some (.int 1000000000 ct_GREATEST_SEAL)))
    {ct_GREATEST_WIDE : Tok} (g_GREATEST_WIDE : PySem.W.nsIn K mainGlobals "GREATEST_WIDE" = some (some (.int 16 ct_GREATEST_WIDE)))
    {ct_GREATEST_UNITS : Tok} (g_GREATEST_UNITS : PySem.W.nsIn K mainGlobals "GREATEST_UNITS" = some (some (.int 1000000 ct_GREATEST_UNITS)))
    {ct_MOST_LANES : Tok} (g_MOST_LANES : PySem.W.nsIn K mainGlobals "MOST_LANES" = some (some (.int 8 ct_MOST_LANES)))
    {ct_MOST_LEAVES : Tok} (g_MOST_LEAVES : PySem.W.nsIn K mainGlobals "MOST_LEAVES" = some (some (.int 200 ct_MOST_LEAVES)))
    {ct_MOST_EDITS : Tok} (g_MOST_EDITS : PySem.W.nsIn K mainGlobals "MOST_EDITS" = some (some (.int 60 ct_MOST_EDITS)))
    {ct_GREATEST_IN_EDITS : Tok} (g_GREATEST_IN_EDITS : PySem.W.nsIn K mainGlobals "GREATEST_IN_EDITS" = some (some (.int 1000000000000000000000000000000 ct_GREATEST_IN_EDITS)))
    {ct_GREATEST_NUMBER : Tok} (g_GREATEST_NUMBER : PySem.W.nsIn K mainGlobals "GREATEST_NUMBER" = some (some (.int 1000000000000000000000000000000000000000000000000000000000000 ct_GREATEST_NUMBER)))
    {ct_BASE : Tok} (g_BASE : PySem.W.nsIn K mainGlobals "BASE" = some (some (.int 128 ct_BASE)))
    {ct_HEAD : Tok} (g_HEAD : PySem.W.nsIn K mainGlobals "HEAD" = some (some (.int 1 ct_HEAD)))
    {ct_PIECE : Tok} (g_PIECE : PySem.W.nsIn K mainGlobals "PIECE" = some (some (.int 2 ct_PIECE)))
    {ct_INDEX : Tok} (g_INDEX : PySem.W.nsIn K mainGlobals "INDEX" = some (some (.int 3 ct_INDEX)))
    {C_ScrollError : Addr} (g_ScrollError : PySem.W.nsIn K mainGlobals "ScrollError" = some (some (.ref C_ScrollError)))
    {C_NoLeaf : Addr} (g_NoLeaf : PySem.W.nsIn K mainGlobals "NoLeaf" = some (some (.ref C_NoLeaf)))
    {C_NoNumber : Addr} (g_NoNumber : PySem.W.nsIn K mainGlobals "NoNumber" = some (some (.ref C_NoNumber)))
    (x_NoNumber : PySem.W.excIn K C_NoNumber [.type "ValueError", .type "Exception", .type "BaseException", .type "object"] "ValueError.__new__" = true) (kc_NoNumber : PySem.W.keepIn K (.ref C_NoNumber) = true) (bb_NoNumber : PySem.W.subIn K (.ref C_NoNumber) (.type "BaseException") = some true) (t_NoNumber : PySem.W.typeIn K (.ref C_NoNumber) = some (.type "type"))
    (xa_NoNumber : PySem.W.findIn K (.ref C_NoNumber) "__getattribute__" = some (some (.builtin "BaseException.__getattribute__"))) (xb_NoNumber : PySem.W.findIn K (.ref C_NoNumber) "__getattr__" = some none) (xc_NoNumber : PySem.W.hasDictIn K C_NoNumber = true) (xd_NoNumber : PySem.W.findIn K (.ref C_NoNumber) "__class__" = some (some (.builtin "object.__class__")))
    (xe_NoNumber : PySem.W.specialIn K (.builtin "object.__class__") "__get__" = some (some (.builtin "getset_descriptor.__get__"))) (xf_NoNumber : PySem.W.takesIn K (.builtin "object.__class__") = some true) (xg_NoNumber : PySem.W.mroIn K C_NoNumber (.type "object") = some true)
    {C_NoBytes : Addr} (g_NoBytes : PySem.W.nsIn K mainGlobals "NoBytes" = some (some (.ref C_NoBytes)))
    {C_NoBody : Addr} (g_NoBody : PySem.W.nsIn K mainGlobals "NoBody" = some (some (.ref C_NoBody)))
    (x_NoBody : PySem.W.excIn K C_NoBody [.type "ValueError", .type "Exception", .type "BaseException", .type "object"] "ValueError.__new__" = true) (kc_NoBody : PySem.W.keepIn K (.ref C_NoBody) = true) (bb_NoBody : PySem.W.subIn K (.ref C_NoBody) (.type "BaseException") = some true) (t_NoBody : PySem.W.typeIn K (.ref C_NoBody) = some (.type "type"))
    (xa_NoBody : PySem.W.findIn K (.ref C_NoBody) "__getattribute__" = some (some (.builtin "BaseException.__getattribute__"))) (xb_NoBody : PySem.W.findIn K (.ref C_NoBody) "__getattr__" = some none) (xc_NoBody : PySem.W.hasDictIn K C_NoBody = true) (xd_NoBody : PySem.W.findIn K (.ref C_NoBody) "__class__" = some (some (.builtin "object.__class__")))
    (xe_NoBody : PySem.W.specialIn K (.builtin "object.__class__") "__get__" = some (some (.builtin "getset_descriptor.__get__"))) (xf_NoBody : PySem.W.takesIn K (.builtin "object.__class__") = some true) (xg_NoBody : PySem.W.mroIn K C_NoBody (.type "object") = some true)
    {C_Numbers : Addr} (g_Numbers : PySem.W.nsIn K mainGlobals "Numbers" = some (some (.ref C_Numbers)))
    (p1_Numbers : PySem.W.plainGet K C_Numbers Str.empty = true) (p2_Numbers : PySem.W.hasDictIn K C_Numbers = true) (p3_Numbers : PySem.W.plainOver K C_Numbers = true) (p4_Numbers : PySem.W.findIn K (.ref C_Numbers) "__setattr__" = some (some (.builtin "object.__setattr__"))) (p5_Numbers : PySem.W.makesIn K C_Numbers = true) (p6_Numbers : PySem.W.keepIn K (.ref C_Numbers) = true)
    (na_Numbers_row : PySem.W.findIn K (.ref C_Numbers) "row" = some none)
    (na_Numbers_next_at : PySem.W.findIn K (.ref C_Numbers) "next_at" = some none)
    (ma_Numbers_init : PySem.W.findIn K (.ref C_Numbers) "__init__" = some (some (.ref f16))) (mb_Numbers_init : PySem.W.isFn K (.ref f16) = true)
    (ma_Numbers_one : PySem.W.findIn K (.ref C_Numbers) "one" = some (some (.ref f17))) (mb_Numbers_one : PySem.W.isFn K (.ref f17) = true)
    (ma_Numbers_some : PySem.W.findIn K (.ref C_Numbers) "some" = some (some (.ref f18))) (mb_Numbers_some : PySem.W.isFn K (.ref f18) = true)
    (ma_Numbers_choice : PySem.W.findIn K (.ref C_Numbers) "choice" = some (some (.ref f19))) (mb_Numbers_choice : PySem.W.isFn K (.ref f19) = true)
    (ma_Numbers_is_over : PySem.W.findIn K (.ref C_Numbers) "is_over" = some (some (.ref f20))) (mb_Numbers_is_over : PySem.W.isFn K (.ref f20) = true)
    (sb_NoBody_NoBody : PySem.W.subIn K (.ref C_NoBody) (.ref C_NoBody) = some true) (bs_NoBody_NoBody : PySem.W.subIn K (.ref C_NoBody) (.type "BaseException") = some true) (ts_NoBody_NoBody : PySem.W.typeIn K (.ref C_NoBody) = some (.type "type")) (is_NoBody_NoBody : PySem.W.isClsIn K C_NoBody = true)
    (sb_NoNumber_NoBody : PySem.W.subIn K (.ref C_NoNumber) (.ref C_NoBody) = some false) (bs_NoNumber_NoBody : PySem.W.subIn K (.ref C_NoBody) (.type "BaseException") = some true) (ts_NoNumber_NoBody : PySem.W.typeIn K (.ref C_NoBody) = some (.type "type")) (is_NoNumber_NoBody : PySem.W.isClsIn K C_NoBody = true)
    (sb_NoBody_ScrollError : PySem.W.subIn K (.ref C_NoBody) (.ref C_ScrollError) = some true) (bs_NoBody_ScrollError : PySem.W.subIn K (.ref C_ScrollError) (.type "BaseException") = some true) (ts_NoBody_ScrollError : PySem.W.typeIn K (.ref C_ScrollError) = some (.type "type")) (is_NoBody_ScrollError : PySem.W.isClsIn K C_ScrollError = true)
    (sb_NoNumber_ScrollError : PySem.W.subIn K (.ref C_NoNumber) (.ref C_ScrollError) = some true) (bs_NoNumber_ScrollError : PySem.W.subIn K (.ref C_ScrollError) (.type "BaseException") = some true) (ts_NoNumber_ScrollError : PySem.W.typeIn K (.ref C_ScrollError) = some (.type "type")) (is_NoNumber_ScrollError : PySem.W.isClsIn K C_ScrollError = true)
    (io_NoBody_NoBytes : PySem.W.kitOne K (.ref C_NoBody) (.ref C_NoBytes) = some false)
    (io_NoNumber_NoBytes : PySem.W.kitOne K (.ref C_NoNumber) (.ref C_NoBytes) = some false)
    (io_NoBody_NoLeaf : PySem.W.kitOne K (.ref C_NoBody) (.ref C_NoLeaf) = some false)
    (io_NoNumber_NoLeaf : PySem.W.kitOne K (.ref C_NoNumber) (.ref C_NoLeaf) = some false)
    (io_NoBody_NoNumber : PySem.W.kitOne K (.ref C_NoBody) (.ref C_NoNumber) = some false)
    (io_NoNumber_NoNumber : PySem.W.kitOne K (.ref C_NoNumber) (.ref C_NoNumber) = some true)
    : ∃ fd : FuncData, (∀ (s : Shared) (v : Value), BindsTo s fd ⟨[v], []⟩ [("_law_script", v)]) ∧ ∀ base : Heap, K.In base → base.Ns mainGlobals mg → FnOk l.prog w K mg base CX0 11 fa fd ["_law_script"] (spLaw K) := by
  have e := hfa.symm.trans (PySem.W.mg_of X G a48)
  cases e
  have F0 := fun_mk (st := s_is_number) l0 c0 k0
  have F1 := fun_mk (st := s_is_whole) l1 c1 k1
  have F2 := fun_mk (st := s_is_bytes) l2 c2 k2
  have F3 := fun_mk (st := s_common_divisor) l3 c3 k3
  have F4 := fun_mk (st := s_is_fraction) l4 c4 k4
  have F5 := fun_mk (st := s_is_moment) l5 c5 k5
  have F6 := fun_mk (st := s_is_edit) l6 c6 k6
  have F7 := fun_mk (st := s_is_edits) l7 c7 k7
  have F8 := fun_mk (st := s_is_seal) l8 c8 k8
  have F9 := fun_mk (st := s_is_wide) l9 c9 k9
  have F10 := fun_mk (st := s_is_units) l10 c10 k10
  have F11 := fun_mk (st := s_is_list) l11 c11 k11
  have F12 := fun_mk (st := s_is_small_edit) l12 c12 k12
  have F13 := fun_mk (st := s_is_lane_edits) l13 c13 k13
  have F14 := fun_mk (st := s_written) l14 c14 k14
  have F15 := fun_mk (st := s_number_at) l15 c15 k15
  have F16 := fun_mk (st := s_Numbers_init) l16 c16 k16
  have F17 := fun_mk (st := s_Numbers_one) l17 c17 k17
  have F18 := fun_mk (st := s_Numbers_some) l18 c18 k18
  have F19 := fun_mk (st := s_Numbers_choice) l19 c19 k19
  have F20 := fun_mk (st := s_Numbers_is_over) l20 c20 k20
  have F21 := fun_mk (st := s_numbers_in) l21 c21 k21
  have F22 := fun_mk (st := s_body_of) l22 c22 k22
  have F23 := fun_mk (st := s_edit_numbers) l23 c23 k23
  have F24 := fun_mk (st := s_edits_numbers) l24 c24 k24
  have F25 := fun_mk (st := s_taken_edit) l25 c25 k25
  have F26 := fun_mk (st := s_taken_edits) l26 c26 k26
  have F27 := fun_mk (st := s_taken_head_lane) l27 c27 k27
  have F28 := fun_mk (st := s_is_head_lane) l28 c28 k28
  have F29 := fun_mk (st := s_is_head) l29 c29 k29
  have F30 := fun_mk (st := s_head_body) l30 c30 k30
  have F31 := fun_mk (st := s_read_head) l31 c31 k31
  have F32 := fun_mk (st := s_l_digit) l32 c32 k32
  have F33 := fun_mk (st := s_l_shared) l33 c33 k33
  have F34 := fun_mk (st := s_l_lowest) l34 c34 k34
  have F35 := fun_mk (st := s_l_figures) l35 c35 k35
  have F36 := fun_mk (st := s_l_edit_numbers) l36 c36 k36
  have F37 := fun_mk (st := s_l_head_numbers) l37 c37 k37
  have F38 := fun_mk (st := s_l_all_figures) l38 c38 k38
  have F39 := fun_mk (st := s_l_refused) l39 c39 k39
  have F40 := fun_mk (st := s_l_moment) l40 c40 k40
  have F41 := fun_mk (st := s_l_edit) l41 c41 k41
  have F42 := fun_mk (st := s_l_head) l42 c42 k42
  have F43 := fun_mk (st := s_l_no_edit) l43 c43 k43
  have F44 := fun_mk (st := s_l_no_lane) l44 c44 k44
  have F45 := fun_mk (st := s_l_no_head) l45 c45 k45
  have F46 := fun_mk (st := s_l_kept) l46 c46 k46
  have F47 := fun_mk (st := s_l_kinds) l47 c47 k47
  have F48 := fun_mk (st := s_law) l48 c48 k48
  have b0 := F0.binds (ps := ["thing"]) fun _ _ _ _ _ _ us hl => match us, hl with | [_], _ => rfl
  have b1 := F1.binds (ps := ["thing", "low", "high"]) fun _ _ _ _ _ _ us hl => match us, hl with | [_, _, _], _ => rfl
  have b2 := F2.binds (ps := ["thing"]) fun _ _ _ _ _ _ us hl => match us, hl with | [_], _ => rfl
  have b3 := F3.binds (ps := ["one", "other"]) fun _ _ _ _ _ _ us hl => match us, hl with | [_, _], _ => rfl
  have b4 := F4.binds (ps := ["thing"]) fun _ _ _ _ _ _ us hl => match us, hl with | [_], _ => rfl
  have b5 := F5.binds (ps := ["thing"]) fun _ _ _ _ _ _ us hl => match us, hl with | [_], _ => rfl
  have b6 := F6.binds (ps := ["thing"]) fun _ _ _ _ _ _ us hl => match us, hl with | [_], _ => rfl
  have b7 := F7.binds (ps := ["thing"]) fun _ _ _ _ _ _ us hl => match us, hl with | [_], _ => rfl
  have b8 := F8.binds (ps := ["thing"]) fun _ _ _ _ _ _ us hl => match us, hl with | [_], _ => rfl
  have b9 := F9.binds (ps := ["thing"]) fun _ _ _ _ _ _ us hl => match us, hl with | [_], _ => rfl
  have b10 := F10.binds (ps := ["thing"]) fun _ _ _ _ _ _ us hl => match us, hl with | [_], _ => rfl
  have b11 := F11.binds (ps := ["thing", "low", "high"]) fun _ _ _ _ _ _ us hl => match us, hl with | [_, _, _], _ => rfl
  have b12 := F12.binds (ps := ["edit"]) fun _ _ _ _ _ _ us hl => match us, hl with | [_], _ => rfl
  have b13 := F13.binds (ps := ["thing"]) fun _ _ _ _ _ _ us hl => match us, hl with | [_], _ => rfl
  have b14 := F14.binds (ps := ["number"]) fun _ _ _ _ _ _ us hl => match us, hl with | [_], _ => rfl
  have b15 := F15.binds (ps := ["row", "at"]) fun _ _ _ _ _ _ us hl => match us, hl with | [_, _], _ => rfl
  have b16 := F16.binds (ps := ["self", "body"]) fun _ _ _ _ _ _ us hl => match us, hl with | [_, _], _ => rfl
  have b17 := F17.binds (ps := ["self"]) fun _ _ _ _ _ _ us hl => match us, hl with | [_], _ => rfl
  have b18 := F18.binds (ps := ["self", "many"]) fun _ _ _ _ _ _ us hl => match us, hl with | [_, _], _ => rfl
  have b19 := F19.binds (ps := ["self", "many"]) fun _ _ _ _ _ _ us hl => match us, hl with | [_, _], _ => rfl
  have b20 := F20.binds (ps := ["self"]) fun _ _ _ _ _ _ us hl => match us, hl with | [_], _ => rfl
  have b21 := F21.binds (ps := ["body"]) fun _ _ _ _ _ _ us hl => match us, hl with | [_], _ => rfl
  have b22 := F22.binds (ps := ["numbers"]) fun _ _ _ _ _ _ us hl => match us, hl with | [_], _ => rfl
  have b23 := F23.binds (ps := ["edit"]) fun _ _ _ _ _ _ us hl => match us, hl with | [_], _ => rfl
  have b24 := F24.binds (ps := ["edits"]) fun _ _ _ _ _ _ us hl => match us, hl with | [_], _ => rfl
  have b25 := F25.binds (ps := ["numbers"]) fun _ _ _ _ _ _ us hl => match us, hl with | [_], _ => rfl
  have b26 := F26.binds (ps := ["numbers"]) fun _ _ _ _ _ _ us hl => match us, hl with | [_], _ => rfl
  have b27 := F27.binds (ps := ["numbers"]) fun _ _ _ _ _ _ us hl => match us, hl with | [_], _ => rfl
  have b28 := F28.binds (ps := ["thing"]) fun _ _ _ _ _ _ us hl => match us, hl with | [_], _ => rfl
  have b29 := F29.binds (ps := ["thing"]) fun _ _ _ _ _ _ us hl => match us, hl with | [_], _ => rfl
  have b30 := F30.binds (ps := ["head"]) fun _ _ _ _ _ _ us hl => match us, hl with | [_], _ => rfl
  have b31 := F31.binds (ps := ["body"]) fun _ _ _ _ _ _ us hl => match us, hl with | [_], _ => rfl
  have b32 := F32.binds (ps := ["_law_state", "_law_base"]) fun _ _ _ _ _ _ us hl => match us, hl with | [_, _], _ => rfl
  have b33 := F33.binds (ps := ["_law_one", "_law_other"]) fun _ _ _ _ _ _ us hl => match us, hl with | [_, _], _ => rfl
  have b34 := F34.binds (ps := ["_law_top", "_law_bottom"]) fun _ _ _ _ _ _ us hl => match us, hl with | [_, _], _ => rfl
  have b35 := F35.binds (ps := ["_law_number"]) fun _ _ _ _ _ _ us hl => match us, hl with | [_], _ => rfl
  have b36 := F36.binds (ps := ["_law_row"]) fun _ _ _ _ _ _ us hl => match us, hl with | [_], _ => rfl
  have b37 := F37.binds (ps := ["_law_head_here"]) fun _ _ _ _ _ _ us hl => match us, hl with | [_], _ => rfl
  have b38 := F38.binds (ps := ["_law_numbers"]) fun _ _ _ _ _ _ us hl => match us, hl with | [_], _ => rfl
  have b39 := F39.binds (ps := ["_law_ask", "_law_thing"]) fun _ _ _ _ _ _ us hl => match us, hl with | [_, _], _ => rfl
  have b40 := F40.binds (ps := ["_law_state", "_law_most"]) fun _ _ _ _ _ _ us hl => match us, hl with | [_, _], _ => rfl
  have b41 := F41.binds (ps := ["_law_state"]) fun _ _ _ _ _ _ us hl => match us, hl with | [_], _ => rfl
  have b42 := F42.binds (ps := ["_law_state"]) fun _ _ _ _ _ _ us hl => match us, hl with | [_], _ => rfl
  have b43 := F43.binds (ps := ["_law_state", "_law_row"]) fun _ _ _ _ _ _ us hl => match us, hl with | [_, _], _ => rfl
  have b44 := F44.binds (ps := ["_law_state", "_law_lane"]) fun _ _ _ _ _ _ us hl => match us, hl with | [_, _], _ => rfl
  have b45 := F45.binds (ps := ["_law_state", "_law_head_here"]) fun _ _ _ _ _ _ us hl => match us, hl with | [_, _], _ => rfl
  have b46 := F46.binds (ps := ["_law_head_here"]) fun _ _ _ _ _ _ us hl => match us, hl with | [_], _ => rfl
  have b47 := F47.binds (ps := ["_law_head_here"]) fun _ _ _ _ _ _ us hl => match us, hl with | [_], _ => rfl
  have b48 := F48.binds (ps := ["_law_script"]) fun _ _ _ _ _ _ us hl => match us, hl with | [_], _ => rfl
  exact ⟨_, fun s v => .of_eq rfl, fun base _ _ => ok_law { a_is_number := _, d_is_number := _, F_is_number := F0, b_is_number := b0, g_is_number := PySem.W.mg_of X G a0, a_is_whole := _, d_is_whole := _, F_is_whole := F1, b_is_whole := b1, g_is_whole := PySem.W.mg_of X G a1, a_is_bytes := _, d_is_bytes := _, F_is_bytes := F2, b_is_bytes := b2, g_is_bytes := PySem.W.mg_of X G a2, a_common_divisor := _, d_common_divisor := _, F_common_divisor := F3, b_common_divisor := b3, g_common_divisor := PySem.W.mg_of X G a3, a_is_fraction := _, d_is_fraction := _, F_is_fraction := F4, b_is_fraction := b4, g_is_fraction := PySem.W.mg_of X G a4, a_is_moment := _, d_is_moment := _, F_is_moment := F5, b_is_moment := b5, g_is_moment := PySem.W.mg_of X G a5, a_is_edit := _, d_is_edit := _, F_is_edit := F6, b_is_edit := b6, g_is_edit := PySem.W.mg_of X G a6, a_is_edits := _, d_is_edits := _, F_is_edits := F7, b_is_edits := b7, g_is_edits := PySem.W.mg_of X G a7, a_is_seal := _, d_is_seal := _, F_is_seal := F8, b_is_seal := b8, g_is_seal := PySem.W.mg_of X G a8, a_is_wide := _, d_is_wide := _, F_is_wide := F9, b_is_wide := b9, g_is_wide := PySem.W.mg_of X G a9, a_is_units := _, d_is_units := _, F_is_units := F10, b_is_units := b10, g_is_units := PySem.W.mg_of X G a10, a_is_list := _, d_is_list := _, F_is_list := F11, b_is_list := b11, g_is_list := PySem.W.mg_of X G a11, a_is_small_edit := _, d_is_small_edit := _, F_is_small_edit := F12, b_is_small_edit := b12, g_is_small_edit := PySem.W.mg_of X G a12, a_is_lane_edits := _, d_is_lane_edits := _, F_is_lane_edits := F13, b_is_lane_edits := b13, g_is_lane_edits := PySem.W.mg_of X G a13, a_written := _, d_written := _, F_written := F14, b_written := b14, g_written := PySem.W.mg_of X G a14, a_number_at := _, d_number_at := _, F_number_at := F15, b_number_at := b15, g_number_at := PySem.W.mg_of X G a15, a_Numbers_init := _, d_Numbers_init := _, F_Numbers_init := F16, b_Numbers_init := b16, a_Numbers_one := _, d_Numbers_one := _, F_Numbers_one := F17, b_Numbers_one := b17, a_Numbers_some := _, d_Numbers_some := _, F_Numbers_some := F18, b_Numbers_some := b18, a_Numbers_choice := _, d_Numbers_choice := _, F_Numbers_choice := F19, b_Numbers_choice := b19, a_Numbers_is_over := _, d_Numbers_is_over := _, F_Numbers_is_over := F20, b_Numbers_is_over := b20, a_numbers_in := _, d_numbers_in := _, F_numbers_in := F21, b_numbers_in := b21, g_numbers_in := PySem.W.mg_of X G a21, a_body_of := _, d_body_of := _, F_body_of := F22, b_body_of := b22, g_body_of := PySem.W.mg_of X G a22, a_edit_numbers := _, d_edit_numbers := _, F_edit_numbers := F23, b_edit_numbers := b23, g_edit_numbers := PySem.W.mg_of X G a23, a_edits_numbers := _, d_edits_numbers := _, F_edits_numbers := F24, b_edits_numbers := b24, g_edits_numbers := PySem.W.mg_of X G a24, a_taken_edit := _, d_taken_edit := _, F_taken_edit := F25, b_taken_edit := b25, g_taken_edit := PySem.W.mg_of X G a25, a_taken_edits := _, d_taken_edits := _, F_taken_edits := F26, b_taken_edits := b26, g_taken_edits := PySem.W.mg_of X G a26, a_taken_head_lane := _, d_taken_head_lane := _, F_taken_head_lane := F27, b_taken_head_lane := b27, g_taken_head_lane := PySem.W.mg_of X G a27, a_is_head_lane := _, d_is_head_lane := _, F_is_head_lane := F28, b_is_head_lane := b28, g_is_head_lane := PySem.W.mg_of X G a28, a_is_head := _, d_is_head := _, F_is_head := F29, b_is_head := b29, g_is_head := PySem.W.mg_of X G a29, a_head_body := _, d_head_body := _, F_head_body := F30, b_head_body := b30, g_head_body := PySem.W.mg_of X G a30, a_read_head := _, d_read_head := _, F_read_head := F31, b_read_head := b31, g_read_head := PySem.W.mg_of X G a31, a_l_digit := _, d_l_digit := _, F_l_digit := F32, b_l_digit := b32, g_l_digit := PySem.W.mg_of X G a32, a_l_shared := _, d_l_shared := _, F_l_shared := F33, b_l_shared := b33, g_l_shared := PySem.W.mg_of X G a33, a_l_lowest := _, d_l_lowest := _, F_l_lowest := F34, b_l_lowest := b34, g_l_lowest := PySem.W.mg_of X G a34, a_l_figures := _, d_l_figures := _, F_l_figures := F35, b_l_figures := b35, g_l_figures := PySem.W.mg_of X G a35, a_l_edit_numbers := _, d_l_edit_numbers := _, F_l_edit_numbers := F36, b_l_edit_numbers := b36, g_l_edit_numbers := PySem.W.mg_of X G a36, a_l_head_numbers := _, d_l_head_numbers := _, F_l_head_numbers := F37, b_l_head_numbers := b37, g_l_head_numbers := PySem.W.mg_of X G a37, a_l_all_figures := _, d_l_all_figures := _, F_l_all_figures := F38, b_l_all_figures := b38, g_l_all_figures := PySem.W.mg_of X G a38, a_l_refused := _, d_l_refused := _, F_l_refused := F39, b_l_refused := b39, g_l_refused := PySem.W.mg_of X G a39, a_l_moment := _, d_l_moment := _, F_l_moment := F40, b_l_moment := b40, g_l_moment := PySem.W.mg_of X G a40, a_l_edit := _, d_l_edit := _, F_l_edit := F41, b_l_edit := b41, g_l_edit := PySem.W.mg_of X G a41, a_l_head := _, d_l_head := _, F_l_head := F42, b_l_head := b42, g_l_head := PySem.W.mg_of X G a42, a_l_no_edit := _, d_l_no_edit := _, F_l_no_edit := F43, b_l_no_edit := b43, g_l_no_edit := PySem.W.mg_of X G a43, a_l_no_lane := _, d_l_no_lane := _, F_l_no_lane := F44, b_l_no_lane := b44, g_l_no_lane := PySem.W.mg_of X G a44, a_l_no_head := _, d_l_no_head := _, F_l_no_head := F45, b_l_no_head := b45, g_l_no_head := PySem.W.mg_of X G a45, a_l_kept := _, d_l_kept := _, F_l_kept := F46, b_l_kept := b46, g_l_kept := PySem.W.mg_of X G a46, a_l_kinds := _, d_l_kinds := _, F_l_kinds := F47, b_l_kinds := b47, g_l_kinds := PySem.W.mg_of X G a47, a_law := _, d_law := _, F_law := F48, b_law := b48, g_law := PySem.W.mg_of X G a48, m_abs := PySem.W.mg_none_of X G z_abs, m_all := PySem.W.mg_none_of X G z_all, m_bool := PySem.W.mg_none_of X G z_bool, m_int := PySem.W.mg_none_of X G z_int, m_isinstance := PySem.W.mg_none_of X G z_isinstance, m_len := PySem.W.mg_none_of X G z_len, m_list := PySem.W.mg_none_of X G z_list, m_max := PySem.W.mg_none_of X G z_max, m_range := PySem.W.mg_none_of X G z_range, m_tuple := PySem.W.mg_none_of X G z_tuple, ca_NOUGHT := ca_NOUGHT, g_NOUGHT := PySem.W.mg_of X G g_NOUGHT, cs_NOUGHT := ⟨_, _, _, e_NOUGHT, qc_NOUGHT, q_NOUGHT, .cons ⟨_, rfl⟩ (.cons ⟨_, rfl⟩ (.nil))⟩, ct_GREATEST_SEAL := ct_GREATEST_SEAL, g_GREATEST_SEAL := PySem.W.mg_of X G g_GREATEST_SEAL, ct_GREATEST_WIDE := ct_GREATEST_WIDE, g_GREATEST_WIDE := PySem.W.mg_of X G g_GREATEST_WIDE, ct_GREATEST_UNITS := ct_GREATEST_UNITS, g_GREATEST_UNITS := PySem.W.mg_of X G g_GREATEST_UNITS, ct_MOST_LANES := ct_MOST_LANES, g_MOST_LANES := PySem.W.mg_of X G g_MOST_LANES, ct_MOST_LEAVES := ct_MOST_LEAVES, g_MOST_LEAVES := PySem.W.mg_of X G g_MOST_LEAVES, ct_MOST_EDITS := ct_MOST_EDITS, g_MOST_EDITS := PySem.W.mg_of X G g_MOST_EDITS, ct_GREATEST_IN_EDITS := ct_GREATEST_IN_EDITS, g_GREATEST_IN_EDITS := PySem.W.mg_of X G g_GREATEST_IN_EDITS, ct_GREATEST_NUMBER := ct_GREATEST_NUMBER, g_GREATEST_NUMBER := PySem.W.mg_of X G g_GREATEST_NUMBER, ct_BASE := ct_BASE, g_BASE := PySem.W.mg_of X G g_BASE, ct_HEAD := ct_HEAD, g_HEAD := PySem.W.mg_of X G g_HEAD, ct_PIECE := ct_PIECE, g_PIECE := PySem.W.mg_of X G g_PIECE, ct_INDEX := ct_INDEX, g_INDEX := PySem.W.mg_of X G g_INDEX, c_ScrollError := C_ScrollError, g_ScrollError := PySem.W.mg_of X G g_ScrollError, c_NoLeaf := C_NoLeaf, g_NoLeaf := PySem.W.mg_of X G g_NoLeaf, c_NoNumber := C_NoNumber, g_NoNumber := PySem.W.mg_of X G g_NoNumber, x_NoNumber := x_NoNumber, k_NoNumber := kc_NoNumber, bb_NoNumber := bb_NoNumber, t_NoNumber := t_NoNumber, xc_NoNumber := ⟨xa_NoNumber, xb_NoNumber, bb_NoNumber, xc_NoNumber, xd_NoNumber, xe_NoNumber, xf_NoNumber, xg_NoNumber⟩, c_NoBytes := C_NoBytes, g_NoBytes := PySem.W.mg_of X G g_NoBytes, c_NoBody := C_NoBody, g_NoBody := PySem.W.mg_of X G g_NoBody, x_NoBody := x_NoBody, k_NoBody := kc_NoBody, bb_NoBody := bb_NoBody, t_NoBody := t_NoBody, xc_NoBody := ⟨xa_NoBody, xb_NoBody, bb_NoBody, xc_NoBody, xd_NoBody, xe_NoBody, xf_NoBody, xg_NoBody⟩, c_Numbers := C_Numbers, g_Numbers := PySem.W.mg_of X G g_Numbers, cl_Numbers := ⟨p1_Numbers, p2_Numbers, p3_Numbers, p4_Numbers⟩, mkk_Numbers := p5_Numbers, na_Numbers_row := na_Numbers_row, na_Numbers_next_at := na_Numbers_next_at, mk_Numbers := ⟨p5_Numbers, ma_Numbers_init, mb_Numbers_init, p6_Numbers⟩, mt_Numbers_one := ⟨ma_Numbers_one, mb_Numbers_one, k17⟩, mt_Numbers_some := ⟨ma_Numbers_some, mb_Numbers_some, k18⟩, mt_Numbers_choice := ⟨ma_Numbers_choice, mb_Numbers_choice, k19⟩, mt_Numbers_is_over := ⟨ma_Numbers_is_over, mb_Numbers_is_over, k20⟩, em_NoBody_NoBody := exm_by bs_NoBody_NoBody is_NoBody_NoBody ts_NoBody_NoBody sb_NoBody_NoBody, em_NoNumber_NoBody := exm_by bs_NoNumber_NoBody is_NoNumber_NoBody ts_NoNumber_NoBody sb_NoNumber_NoBody, em_NoBody_ScrollError := exm_by bs_NoBody_ScrollError is_NoBody_ScrollError ts_NoBody_ScrollError sb_NoBody_ScrollError, em_NoNumber_ScrollError := exm_by bs_NoNumber_ScrollError is_NoNumber_ScrollError ts_NoNumber_ScrollError sb_NoNumber_ScrollError, io_NoBody_NoBytes := io_NoBody_NoBytes, io_NoNumber_NoBytes := io_NoNumber_NoBytes, io_NoBody_NoLeaf := io_NoBody_NoLeaf, io_NoNumber_NoLeaf := io_NoNumber_NoLeaf, io_NoBody_NoNumber := io_NoBody_NoNumber, io_NoNumber_NoNumber := io_NoNumber_NoNumber }⟩
end LK
open PySem PySem.W PyProof.Rows
set_option maxHeartbeats 0 in
theorem PySem.Challenge.cw_lanescroll_k41_heads_and_their_bodies_holds : PySem.Challenge.rw_lanescroll_k41_heads_and_their_bodies.Holds := by
  w_on; o_law; k_head; (case hw => w_witness2)
  k_fill
  refine L2.walk_of (l := PySem.Challenge.rw_lanescroll_k41_heads_and_their_bodies) (n := 63) (k := 11) (x := "_law_script") (CX := fun _ => L2.CX0) (sp := fun w => LK.spLaw _) rfl (by decide) rfl ⟨rfl, by decide, by decide⟩ (fun w h Y => PySem.W.kIn_of Y) ?F (fun _ _ a ns hl _ hS => ⟨a, ns, rfl, hS, hl, fun _ => rfl⟩) (fun _ _ _ _ _ h => h)
  case F =>
    intro w mg fa h KX G hmg
    refine' LK.all_mk KX G hmg ?a0 ?l0 ?c0 ?k0 ?a1 ?l1 ?c1 ?k1 ?a2 ?l2 ?c2 ?k2 ?a3 ?l3 ?c3 ?k3 ?a4 ?l4 ?c4 ?k4 ?a5 ?l5 ?c5 ?k5 ?a6 ?l6 ?c6 ?k6 ?a7 ?l7 ?c7 ?k7 ?a8 ?l8 ?c8 ?k8 ?a9 ?l9 ?c9 ?k9 ?a10 ?l10 ?c10 ?k10 ?a11 ?l11 ?c11 ?k11 ?a12 ?l12 ?c12 ?k12 ?a13 ?l13 ?c13 ?k13 ?a14 ?l14 ?c14 ?k14 ?a15 ?l15 ?c15 ?k15 ?y16 ?a16 ?l16 ?c16 ?k16 ?y17 ?a17 ?l17 ?c17 ?k17 ?y18 ?a18 ?l18 ?c18 ?k18 ?y19 ?a19 ?l19 ?c19 ?k19 ?y20 ?a20 ?l20 ?c20 ?k20 ?a21 ?l21 ?c21 ?k21 ?a22 ?l22 ?c22 ?k22 ?a23 ?l23 ?c23 ?k23 ?a24 ?l24 ?c24 ?k24 ?a25 ?l25 ?c25 ?k25 ?a26 ?l26 ?c26 ?k26 ?a27 ?l27 ?c27 ?k27 ?a28 ?l28 ?c28 ?k28 ?a29 ?l29 ?c29 ?k29 ?a30 ?l30 ?c30 ?k30 ?a31 ?l31 ?c31 ?k31 ?a32 ?l32 ?c32 ?k32 ?a33 ?l33 ?c33 ?k33 ?a34 ?l34 ?c34 ?k34 ?a35 ?l35 ?c35 ?k35 ?a36 ?l36 ?c36 ?k36 ?a37 ?l37 ?c37 ?k37 ?a38 ?l38 ?c38 ?k38 ?a39 ?l39 ?c39 ?k39 ?a40 ?l40 ?c40 ?k40 ?a41 ?l41 ?c41 ?k41 ?a42 ?l42 ?c42 ?k42 ?a43 ?l43 ?c43 ?k43 ?a44 ?l44 ?c44 ?k44 ?a45 ?l45 ?c45 ?k45 ?a46 ?l46 ?c46 ?k46 ?a47 ?l47 ?c47 ?k47 ?a48 ?l48 ?c48 ?k48 ?z_abs ?z_all ?z_bool ?z_int ?z_isinstance ?z_len ?z_list ?z_max ?z_range ?z_tuple ?g_NOUGHT ?e_NOUGHT ?qc_NOUGHT ?q_NOUGHT ?g_GREATEST_SEAL ?g_GREATEST_WIDE ?g_GREATEST_UNITS ?g_MOST_LANES ?g_MOST_LEAVES ?g_MOST_EDITS ?g_GREATEST_IN_EDITS ?g_GREATEST_NUMBER ?g_BASE ?g_HEAD ?g_PIECE ?g_INDEX ?g_ScrollError ?g_NoLeaf ?g_NoNumber ?x_NoNumber ?kc_NoNumber ?bb_NoNumber ?t_NoNumber ?xa_NoNumber ?xb_NoNumber ?xc_NoNumber ?xd_NoNumber ?xe_NoNumber ?xf_NoNumber ?xg_NoNumber ?g_NoBytes ?g_NoBody ?x_NoBody ?kc_NoBody ?bb_NoBody ?t_NoBody ?xa_NoBody ?xb_NoBody ?xc_NoBody ?xd_NoBody ?xe_NoBody ?xf_NoBody ?xg_NoBody ?g_Numbers ?p1_Numbers ?p2_Numbers ?p3_Numbers ?p4_Numbers ?p5_Numbers ?p6_Numbers ?na_Numbers_row ?na_Numbers_next_at ?ma_Numbers_init ?mb_Numbers_init ?ma_Numbers_one ?mb_Numbers_one ?ma_Numbers_some ?mb_Numbers_some ?ma_Numbers_choice ?mb_Numbers_choice ?ma_Numbers_is_over ?mb_Numbers_is_over ?sb_NoBody_NoBody ?bs_NoBody_NoBody ?ts_NoBody_NoBody ?is_NoBody_NoBody ?sb_NoNumber_NoBody ?bs_NoNumber_NoBody ?ts_NoNumber_NoBody ?is_NoNumber_NoBody ?sb_NoBody_ScrollError ?bs_NoBody_ScrollError ?ts_NoBody_ScrollError ?is_NoBody_ScrollError ?sb_NoNumber_ScrollError ?bs_NoNumber_ScrollError ?ts_NoNumber_ScrollError ?is_NoNumber_ScrollError ?io_NoBody_NoBytes ?io_NoNumber_NoBytes ?io_NoBody_NoLeaf ?io_NoNumber_NoLeaf ?io_NoBody_NoNumber ?io_NoNumber_NoNumber
    (case a0 => k_is)
    (case l0 => k_is)
    (case c0 => k_is)
    (case k0 => k_is)
    (case a1 => k_is)
    (case l1 => k_is)
    (case c1 => k_is)
    (case k1 => k_is)
    (case a2 => k_is)
    (case l2 => k_is)
    (case c2 => k_is)
    (case k2 => k_is)
    (case a3 => k_is)
    (case l3 => k_is)
    (case c3 => k_is)
    (case k3 => k_is)
    (case a4 => k_is)
    (case l4 => k_is)
    (case c4 => k_is)
    (case k4 => k_is)
    (case a5 => k_is)
    (case l5 => k_is)
    (case c5 => k_is)
    (case k5 => k_is)
    (case a6 => k_is)
    (case l6 => k_is)
    (case c6 => k_is)
    (case k6 => k_is)
    (case a7 => k_is)
    (case l7 => k_is)
    (case c7 => k_is)
    (case k7 => k_is)
    (case a8 => k_is)
    (case l8 => k_is)
    (case c8 => k_is)
    (case k8 => k_is)
    (case a9 => k_is)
    (case l9 => k_is)
    (case c9 => k_is)
    (case k9 => k_is)
    (case a10 => k_is)
    (case l10 => k_is)
    (case c10 => k_is)
    (case k10 => k_is)
    (case a11 => k_is)
    (case l11 => k_is)
    (case c11 => k_is)
    (case k11 => k_is)
    (case a12 => k_is)
    (case l12 => k_is)
    (case c12 => k_is)
    (case k12 => k_is)
    (case a13 => k_is)
    (case l13 => k_is)
    (case c13 => k_is)
    (case k13 => k_is)
    (case a14 => k_is)
    (case l14 => k_is)
    (case c14 => k_is)
    (case k14 => k_is)
    (case a15 => k_is)
    (case l15 => k_is)
    (case c15 => k_is)
    (case k15 => k_is)
    (case y16 => k_is)
    (case a16 => k_is)
    (case l16 => k_is)
    (case c16 => k_is)
    (case k16 => k_is)
    (case y17 => k_is)
    (case a17 => k_is)
    (case l17 => k_is)
    (case c17 => k_is)
    (case k17 => k_is)
    (case y18 => k_is)
    (case a18 => k_is)
    (case l18 => k_is)
    (case c18 => k_is)
    (case k18 => k_is)
    (case y19 => k_is)
    (case a19 => k_is)
    (case l19 => k_is)
    (case c19 => k_is)
    (case k19 => k_is)
    (case y20 => k_is)
    (case a20 => k_is)
    (case l20 => k_is)
    (case c20 => k_is)
    (case k20 => k_is)
    (case a21 => k_is)
    (case l21 => k_is)
    (case c21 => k_is)
    (case k21 => k_is)
    (case a22 => k_is)
    (case l22 => k_is)
    (case c22 => k_is)
    (case k22 => k_is)
    (case a23 => k_is)
    (case l23 => k_is)
    (case c23 => k_is)
    (case k23 => k_is)
    (case a24 => k_is)
    (case l24 => k_is)
    (case c24 => k_is)
    (case k24 => k_is)
    (case a25 => k_is)
    (case l25 => k_is)
    (case c25 => k_is)
    (case k25 => k_is)
    (case a26 => k_is)
    (case l26 => k_is)
    (case c26 => k_is)
    (case k26 => k_is)
    (case a27 => k_is)
    (case l27 => k_is)
    (case c27 => k_is)
    (case k27 => k_is)
    (case a28 => k_is)
    (case l28 => k_is)
    (case c28 => k_is)
    (case k28 => k_is)
    (case a29 => k_is)
    (case l29 => k_is)
    (case c29 => k_is)
    (case k29 => k_is)
    (case a30 => k_is)
    (case l30 => k_is)
    (case c30 => k_is)
    (case k30 => k_is)
    (case a31 => k_is)
    (case l31 => k_is)
    (case c31 => k_is)
    (case k31 => k_is)
    (case a32 => k_is)
    (case l32 => k_is)
    (case c32 => k_is)
    (case k32 => k_is)
    (case a33 => k_is)
    (case l33 => k_is)
    (case c33 => k_is)
    (case k33 => k_is)
    (case a34 => k_is)
    (case l34 => k_is)
    (case c34 => k_is)
    (case k34 => k_is)
    (case a35 => k_is)
    (case l35 => k_is)
    (case c35 => k_is)
    (case k35 => k_is)
    (case a36 => k_is)
    (case l36 => k_is)
    (case c36 => k_is)
    (case k36 => k_is)
    (case a37 => k_is)
    (case l37 => k_is)
    (case c37 => k_is)
    (case k37 => k_is)
    (case a38 => k_is)
    (case l38 => k_is)
    (case c38 => k_is)
    (case k38 => k_is)
    (case a39 => k_is)
    (case l39 => k_is)
    (case c39 => k_is)
    (case k39 => k_is)
    (case a40 => k_is)
    (case l40 => k_is)
    (case c40 => k_is)
    (case k40 => k_is)
    (case a41 => k_is)
    (case l41 => k_is)
    (case c41 => k_is)
    (case k41 => k_is)
    (case a42 => k_is)
    (case l42 => k_is)
    (case c42 => k_is)
    (case k42 => k_is)
    (case a43 => k_is)
    (case l43 => k_is)
    (case c43 => k_is)
    (case k43 => k_is)
    (case a44 => k_is)
    (case l44 => k_is)
    (case c44 => k_is)
    (case k44 => k_is)
    (case a45 => k_is)
    (case l45 => k_is)
    (case c45 => k_is)
    (case k45 => k_is)
    (case a46 => k_is)
    (case l46 => k_is)
    (case c46 => k_is)
    (case k46 => k_is)
    (case a47 => k_is)
    (case l47 => k_is)
    (case c47 => k_is)
    (case k47 => k_is)
    (case a48 => k_is)
    (case l48 => k_is)
    (case c48 => k_is)
    (case k48 => k_is)
    (case z_abs => k_is)
    (case z_all => k_is)
    (case z_bool => k_is)
    (case z_int => k_is)
    (case z_isinstance => k_is)
    (case z_len => k_is)
    (case z_list => k_is)
    (case z_max => k_is)
    (case z_range => k_is)
    (case z_tuple => k_is)
    (case g_NOUGHT => k_is)
    (case e_NOUGHT => first | rfl | k_is | k_exc)
    (case qc_NOUGHT => first | rfl | k_is | k_exc)
    (case q_NOUGHT => first | rfl | k_is | k_exc)
    (case g_GREATEST_SEAL => k_is)
    (case g_GREATEST_WIDE => k_is)
    (case g_GREATEST_UNITS => k_is)
    (case g_MOST_LANES => k_is)
    (case g_MOST_LEAVES => k_is)
    (case g_MOST_EDITS => k_is)
    (case g_GREATEST_IN_EDITS => k_is)
    (case g_GREATEST_NUMBER => k_is)
    (case g_BASE => k_is)
    (case g_HEAD => k_is)
    (case g_PIECE => k_is)
    (case g_INDEX => k_is)
    (case g_ScrollError => k_is)
    (case g_NoLeaf => k_is)
    (case g_NoNumber => k_is)
    (case x_NoNumber => k_exc)
    (case kc_NoNumber => k_is)
    (case bb_NoNumber => k_is)
    (case t_NoNumber => k_is)
    (case xa_NoNumber => k_is)
    (case xb_NoNumber => k_is)
    (case xc_NoNumber => k_is)
    (case xd_NoNumber => k_is)
    (case xe_NoNumber => k_is)
    (case xf_NoNumber => k_is)
    (case xg_NoNumber => k_is)
    (case g_NoBytes => k_is)
    (case g_NoBody => k_is)
    (case x_NoBody => k_exc)
    (case kc_NoBody => k_is)
    (case bb_NoBody => k_is)
    (case t_NoBody => k_is)
    (case xa_NoBody => k_is)
    (case xb_NoBody => k_is)
    (case xc_NoBody => k_is)
    (case xd_NoBody => k_is)
    (case xe_NoBody => k_is)
    (case xf_NoBody => k_is)
    (case xg_NoBody => k_is)
    (case g_Numbers => k_is)
    (case p1_Numbers => k_is)
    (case p2_Numbers => k_is)
    (case p3_Numbers => k_is)
    (case p4_Numbers => k_is)
    (case p5_Numbers => k_is)
    (case p6_Numbers => k_is)
    (case na_Numbers_row => k_is)
    (case na_Numbers_next_at => k_is)
    (case ma_Numbers_init => k_is)
    (case mb_Numbers_init => k_is)
    (case ma_Numbers_one => k_is)
    (case mb_Numbers_one => k_is)
    (case ma_Numbers_some => k_is)
    (case mb_Numbers_some => k_is)
    (case ma_Numbers_choice => k_is)
    (case mb_Numbers_choice => k_is)
    (case ma_Numbers_is_over => k_is)
    (case mb_Numbers_is_over => k_is)
    (case sb_NoBody_NoBody => first | rfl | k_is | k_exc)
    (case bs_NoBody_NoBody => k_is)
    (case ts_NoBody_NoBody => k_is)
    (case is_NoBody_NoBody => k_is)
    (case sb_NoNumber_NoBody => first | rfl | k_is | k_exc)
    (case bs_NoNumber_NoBody => k_is)
    (case ts_NoNumber_NoBody => k_is)
    (case is_NoNumber_NoBody => k_is)
    (case sb_NoBody_ScrollError => first | rfl | k_is | k_exc)
    (case bs_NoBody_ScrollError => k_is)
    (case ts_NoBody_ScrollError => k_is)
    (case is_NoBody_ScrollError => k_is)
    (case sb_NoNumber_ScrollError => first | rfl | k_is | k_exc)
    (case bs_NoNumber_ScrollError => k_is)
    (case ts_NoNumber_ScrollError => k_is)
    (case is_NoNumber_ScrollError => k_is)
    (case io_NoBody_NoBytes => first | rfl | k_is | k_exc)
    (case io_NoNumber_NoBytes => first | rfl | k_is | k_exc)
    (case io_NoBody_NoLeaf => first | rfl | k_is | k_exc)
    (case io_NoNumber_NoLeaf => first | rfl | k_is | k_exc)
    (case io_NoBody_NoNumber => first | rfl | k_is | k_exc)
    (case io_NoNumber_NoNumber => first | rfl | k_is | k_exc)
