import PyProof.Rows.All
import Wide.All
import OpenK.AllK
import Wide.FinOn
import PySem.Challenge.RW_lanescroll_k12_what_is_no_edit
import HandS.ForMost
import HandS.ForExc
import HandS.IsInst
import HandS.TupLe
import HandS.Wide
import HandS.Defaults
import HandS.ExcIs
import HandS.Style
import HandS.Walk
import KE.KCallOwn
import KE.KSuper
import HandS.FStr
import HandS.MakeKwOnly
import HandS.Star
import PyProof.CollectIter
import PyProof.WalksMore
import HandS.CallLocal
import HandS.ExcOwn
set_option Elab.async false
set_option linter.all false
set_option maxRecDepth 100000
set_option maxHeartbeats 4000000
namespace LK
open PySem PySem.Spec PyProof.Rows L2
def topS (i : Nat) : Stmt := PySem.Challenge.pw_lanescroll_k12_what_is_no_edit.main.body.getD i (.Pass ⟨0, 0, 0, 0⟩)
abbrev s_is_number : Stmt := topS 6
abbrev N_is_number : List Str := ["thing"]
theorem sc_is_number : FnScope N_is_number ["thing"] (defScope s_is_number) := ⟨rfl, rfl, rfl, by decide +kernel, rfl, by decide +kernel, by decide +kernel⟩
abbrev s_common_divisor : Stmt := topS 8
abbrev N_common_divisor : List Str := ["one", "other"]
theorem sc_common_divisor : FnScope N_common_divisor ["one", "other"] (defScope s_common_divisor) := ⟨rfl, rfl, rfl, by decide +kernel, rfl, by decide +kernel, by decide +kernel⟩
abbrev s_is_fraction : Stmt := topS 9
abbrev N_is_fraction : List Str := ["thing", "top", "bottom"]
theorem sc_is_fraction : FnScope N_is_fraction ["thing"] (defScope s_is_fraction) := ⟨rfl, rfl, rfl, by decide +kernel, rfl, by decide +kernel, by decide +kernel⟩
abbrev s_is_moment : Stmt := topS 10
abbrev N_is_moment : List Str := ["thing"]
theorem sc_is_moment : FnScope N_is_moment ["thing"] (defScope s_is_moment) := ⟨rfl, rfl, rfl, by decide +kernel, rfl, by decide +kernel, by decide +kernel⟩
abbrev s_summed : Stmt := topS 11
abbrev N_summed : List Str := ["one", "top", "bottom", "divisor", "part", "whole", "rest"]
theorem sc_summed : FnScope N_summed ["one", "top", "bottom"] (defScope s_summed) := ⟨rfl, rfl, rfl, by decide +kernel, rfl, by decide +kernel, by decide +kernel⟩
abbrev s_plus : Stmt := topS 12
abbrev N_plus : List Str := ["one", "other"]
theorem sc_plus : FnScope N_plus ["one", "other"] (defScope s_plus) := ⟨rfl, rfl, rfl, by decide +kernel, rfl, by decide +kernel, by decide +kernel⟩
abbrev s_minus : Stmt := topS 13
abbrev N_minus : List Str := ["one", "other"]
theorem sc_minus : FnScope N_minus ["one", "other"] (defScope s_minus) := ⟨rfl, rfl, rfl, by decide +kernel, rfl, by decide +kernel, by decide +kernel⟩
abbrev s_times : Stmt := topS 14
abbrev N_times : List Str := ["one", "other", "left", "right"]
theorem sc_times : FnScope N_times ["one", "other"] (defScope s_times) := ⟨rfl, rfl, rfl, by decide +kernel, rfl, by decide +kernel, by decide +kernel⟩
abbrev s_shared : Stmt := topS 15
abbrev N_shared : List Str := ["one", "other", "top", "bottom"]
theorem sc_shared : FnScope N_shared ["one", "other"] (defScope s_shared) := ⟨rfl, rfl, rfl, by decide +kernel, rfl, by decide +kernel, by decide +kernel⟩
abbrev s_less : Stmt := topS 16
abbrev N_less : List Str := ["one", "other"]
theorem sc_less : FnScope N_less ["one", "other"] (defScope s_less) := ⟨rfl, rfl, rfl, by decide +kernel, rfl, by decide +kernel, by decide +kernel⟩
abbrev s_is_edit : Stmt := topS 20
abbrev N_is_edit : List Str := ["thing", "span", "start", "rate"]
theorem sc_is_edit : FnScope N_is_edit ["thing"] (defScope s_is_edit) := ⟨rfl, rfl, rfl, by decide +kernel, rfl, by decide +kernel, by decide +kernel⟩
abbrev s_is_edits : Stmt := topS 21
abbrev N_is_edits : List Str := ["thing", "edit"]
theorem sc_is_edits : FnScope N_is_edits ["thing"] (defScope s_is_edits) := ⟨rfl, rfl, rfl, by decide +kernel, rfl, by decide +kernel, by decide +kernel⟩
abbrev s_refuse_no_edits : Stmt := topS 22
abbrev N_refuse_no_edits : List Str := ["lists", "edits"]
theorem sc_refuse_no_edits : FnScope N_refuse_no_edits ["lists"] (defScope s_refuse_no_edits) := ⟨rfl, rfl, rfl, by decide +kernel, rfl, by decide +kernel, by decide +kernel⟩
abbrev s_refuse_no_moment : Stmt := topS 23
abbrev N_refuse_no_moment : List Str := ["thing"]
theorem sc_refuse_no_moment : FnScope N_refuse_no_moment ["thing"] (defScope s_refuse_no_moment) := ⟨rfl, rfl, rfl, by decide +kernel, rfl, by decide +kernel, by decide +kernel⟩
abbrev s_refuse_no_stretch : Stmt := topS 24
abbrev N_refuse_no_stretch : List Str := ["low", "high"]
theorem sc_refuse_no_stretch : FnScope N_refuse_no_stretch ["low", "high"] (defScope s_refuse_no_stretch) := ⟨rfl, rfl, rfl, by decide +kernel, rfl, by decide +kernel, by decide +kernel⟩
abbrev s_led : Stmt := topS 25
abbrev N_led : List Str := ["edits", "t", "rest", "span", "start", "rate"]
theorem sc_led : FnScope N_led ["edits", "t"] (defScope s_led) := ⟨rfl, rfl, rfl, by decide +kernel, rfl, by decide +kernel, by decide +kernel⟩
abbrev s_mapped : Stmt := topS 26
abbrev N_mapped : List Str := ["edits", "t"]
theorem sc_mapped : FnScope N_mapped ["edits", "t"] (defScope s_mapped) := ⟨rfl, rfl, rfl, by decide +kernel, rfl, by decide +kernel, by decide +kernel⟩
abbrev s_summed_spans : Stmt := topS 27
abbrev N_summed_spans : List Str := ["edits", "found", "edit"]
theorem sc_summed_spans : FnScope N_summed_spans ["edits"] (defScope s_summed_spans) := ⟨rfl, rfl, rfl, by decide +kernel, rfl, by decide +kernel, by decide +kernel⟩
abbrev s_total : Stmt := topS 28
abbrev N_total : List Str := ["edits"]
theorem sc_total : FnScope N_total ["edits"] (defScope s_total) := ⟨rfl, rfl, rfl, by decide +kernel, rfl, by decide +kernel, by decide +kernel⟩
abbrev s_goes_on : Stmt := topS 29
abbrev N_goes_on : List Str := ["edit", "start", "rate", "span", "old_start", "old_rate"]
theorem sc_goes_on : FnScope N_goes_on ["edit", "start", "rate"] (defScope s_goes_on) := ⟨rfl, rfl, rfl, by decide +kernel, rfl, by decide +kernel, by decide +kernel⟩
abbrev s_tidied : Stmt := topS 30
abbrev N_tidied : List Str := ["edits", "found", "span", "start", "rate", "old_span", "old_start", "old_rate"]
theorem sc_tidied : FnScope N_tidied ["edits"] (defScope s_tidied) := ⟨rfl, rfl, rfl, by decide +kernel, rfl, by decide +kernel, by decide +kernel⟩
abbrev s_tidy : Stmt := topS 31
abbrev N_tidy : List Str := ["edits"]
theorem sc_tidy : FnScope N_tidy ["edits"] (defScope s_tidy) := ⟨rfl, rfl, rfl, by decide +kernel, rfl, by decide +kernel, by decide +kernel⟩
abbrev s_count_alike : Stmt := topS 32
abbrev N_count_alike : List Str := ["one", "other", "many"]
theorem sc_count_alike : FnScope N_count_alike ["one", "other"] (defScope s_count_alike) := ⟨rfl, rfl, rfl, by decide +kernel, rfl, by decide +kernel, by decide +kernel⟩
abbrev s_borders : Stmt := topS 33
abbrev N_borders : List Str := ["edits", "found", "edit"]
theorem sc_borders : FnScope N_borders ["edits"] (defScope s_borders) := ⟨rfl, rfl, rfl, by decide +kernel, rfl, by decide +kernel, by decide +kernel⟩
abbrev s_merged : Stmt := topS 34
abbrev N_merged : List Str := ["one", "other", "found", "at", "moment"]
theorem sc_merged : FnScope N_merged ["one", "other"] (defScope s_merged) := ⟨rfl, rfl, rfl, by decide +kernel, rfl, by decide +kernel, by decide +kernel⟩
abbrev s_first_unlike : Stmt := topS 35
abbrev N_first_unlike : List Str := ["one", "other", "moments", "low", "high", "moment"]
theorem sc_first_unlike : FnScope N_first_unlike ["one", "other"] (defScope s_first_unlike) := ⟨rfl, rfl, rfl, by decide +kernel, rfl, by decide +kernel, by decide +kernel⟩
abbrev s_parted : Stmt := topS 36
abbrev N_parted : List Str := ["one", "other", "first", "second", "many", "found"]
theorem sc_parted : FnScope N_parted ["one", "other"] (defScope s_parted) := ⟨rfl, rfl, rfl, by decide +kernel, rfl, by decide +kernel, by decide +kernel⟩
abbrev s_window : Stmt := topS 37
abbrev N_window : List Str := ["edits", "low", "high", "found", "ahead", "left", "span", "start", "rate", "rest", "length"]
theorem sc_window : FnScope N_window ["edits", "low", "high"] (defScope s_window) := ⟨rfl, rfl, rfl, by decide +kernel, rfl, by decide +kernel, by decide +kernel⟩
abbrev s_laid_over : Stmt := topS 38
abbrev N_laid_over : List Str := ["edit", "inner", "span", "start", "rate", "pieces", "length", "begin", "speed"]
theorem sc_laid_over : FnScope N_laid_over ["edit", "inner"] (defScope s_laid_over) := ⟨rfl, rfl, rfl, by decide +kernel, rfl, by decide +kernel, by decide +kernel⟩
abbrev s_over : Stmt := topS 39
abbrev N_over : List Str := ["outer", "inner", "found", "edit"]
theorem sc_over : FnScope N_over ["outer", "inner"] (defScope s_over) := ⟨rfl, rfl, rfl, by decide +kernel, rfl, by decide +kernel, by decide +kernel⟩
abbrev s_part : Stmt := topS 40
abbrev N_part : List Str := ["edits", "low", "high"]
theorem sc_part : FnScope N_part ["edits", "low", "high"] (defScope s_part) := ⟨rfl, rfl, rfl, by decide +kernel, rfl, by decide +kernel, by decide +kernel⟩
abbrev s_after : Stmt := topS 41
abbrev N_after : List Str := ["one", "other"]
theorem sc_after : FnScope N_after ["one", "other"] (defScope s_after) := ⟨rfl, rfl, rfl, by decide +kernel, rfl, by decide +kernel, by decide +kernel⟩
abbrev s_stretch_of : Stmt := topS 42
abbrev N_stretch_of : List Str := ["edit", "begin", "low", "high", "span", "start", "rate", "end", "reach", "first", "behind"]
theorem sc_stretch_of : FnScope N_stretch_of ["edit", "begin", "low", "high"] (defScope s_stretch_of) := ⟨rfl, rfl, rfl, by decide +kernel, rfl, by decide +kernel, by decide +kernel⟩
abbrev s_stretches : Stmt := topS 43
abbrev N_stretches : List Str := ["edits", "low", "high", "found", "begin", "edit", "pair"]
theorem sc_stretches : FnScope N_stretches ["edits", "low", "high"] (defScope s_stretches) := ⟨rfl, rfl, rfl, by decide +kernel, rfl, by decide +kernel, by decide +kernel⟩
abbrev s_l_cell_at : Stmt := topS 45
abbrev N_l_cell_at : List Str := ["_law_script", "_law_k"]
theorem sc_l_cell_at : FnScope N_l_cell_at ["_law_script", "_law_k"] (defScope s_l_cell_at) := ⟨rfl, rfl, rfl, by decide +kernel, rfl, by decide +kernel, by decide +kernel⟩
abbrev s_l_digit : Stmt := topS 46
abbrev N_l_digit : List Str := ["_law_state", "_law_base", "_law_found", "_law_number"]
theorem sc_l_digit : FnScope N_l_digit ["_law_state", "_law_base"] (defScope s_l_digit) := ⟨rfl, rfl, rfl, by decide +kernel, rfl, by decide +kernel, by decide +kernel⟩
abbrev s_l_shared : Stmt := topS 47
abbrev N_l_shared : List Str := ["_law_one", "_law_other"]
theorem sc_l_shared : FnScope N_l_shared ["_law_one", "_law_other"] (defScope s_l_shared) := ⟨rfl, rfl, rfl, by decide +kernel, rfl, by decide +kernel, by decide +kernel⟩
abbrev s_l_lowest : Stmt := topS 48
abbrev N_l_lowest : List Str := ["_law_top", "_law_bottom", "_law_share"]
theorem sc_l_lowest : FnScope N_l_lowest ["_law_top", "_law_bottom"] (defScope s_l_lowest) := ⟨rfl, rfl, rfl, by decide +kernel, rfl, by decide +kernel, by decide +kernel⟩
abbrev s_l_plus : Stmt := topS 49
abbrev N_l_plus : List Str := ["_law_one", "_law_other"]
theorem sc_l_plus : FnScope N_l_plus ["_law_one", "_law_other"] (defScope s_l_plus) := ⟨rfl, rfl, rfl, by decide +kernel, rfl, by decide +kernel, by decide +kernel⟩
abbrev s_l_times : Stmt := topS 51
abbrev N_l_times : List Str := ["_law_one", "_law_other"]
theorem sc_l_times : FnScope N_l_times ["_law_one", "_law_other"] (defScope s_l_times) := ⟨rfl, rfl, rfl, by decide +kernel, rfl, by decide +kernel, by decide +kernel⟩
abbrev s_l_amount : Stmt := topS 53
abbrev N_l_amount : List Str := ["_law_state", "_law_way", "_law_small", "_law_great", "_law_far"]
theorem sc_l_amount : FnScope N_l_amount ["_law_state"] (defScope s_l_amount) := ⟨rfl, rfl, rfl, by decide +kernel, rfl, by decide +kernel, by decide +kernel⟩
abbrev s_l_edit : Stmt := topS 54
abbrev N_l_edit : List Str := ["_law_state", "_law_ahead", "_law_way", "_law_span", "_law_start", "_law_rate", "_law_before"]
theorem sc_l_edit : FnScope N_l_edit ["_law_state", "_law_ahead"] (defScope s_l_edit) := ⟨rfl, rfl, rfl, by decide +kernel, rfl, by decide +kernel, by decide +kernel⟩
abbrev s_l_edits : Stmt := topS 55
abbrev N_l_edits : List Str := ["_law_state", "_law_few", "_law_found", "_law_k"]
theorem sc_l_edits : FnScope N_l_edits ["_law_state", "_law_few"] (defScope s_l_edits) := ⟨rfl, rfl, rfl, by decide +kernel, rfl, by decide +kernel, by decide +kernel⟩
abbrev s_l_odd_edit : Stmt := topS 57
abbrev N_l_odd_edit : List Str := ["_law_state", "_law_edit_here", "_law_span", "_law_start", "_law_rate", "_law_good", "_law_some"]
theorem sc_l_odd_edit : FnScope N_l_odd_edit ["_law_state", "_law_edit_here"] (defScope s_l_odd_edit) := ⟨rfl, rfl, rfl, by decide +kernel, rfl, by decide +kernel, by decide +kernel⟩
abbrev s_l_bad_edits : Stmt := topS 58
abbrev N_l_bad_edits : List Str := ["_law_state", "_law_edits_here", "_law_way", "_law_at", "_law_odd", "_law_some", "_law_k"]
theorem sc_l_bad_edits : FnScope N_l_bad_edits ["_law_state", "_law_edits_here"] (defScope s_l_bad_edits) := ⟨rfl, rfl, rfl, by decide +kernel, rfl, by decide +kernel, by decide +kernel⟩
abbrev s_l_deed : Stmt := topS 59
abbrev N_l_deed : List Str := ["_law_way", "_law_bad", "_law_good", "_law_t"]
theorem sc_l_deed : FnScope N_l_deed ["_law_way", "_law_bad", "_law_good", "_law_t"] (defScope s_l_deed) := ⟨rfl, rfl, rfl, by decide +kernel, rfl, by decide +kernel, by decide +kernel⟩
abbrev s_l_kind : Stmt := topS 60
abbrev N_l_kind : List Str := ["_law_way", "_law_bad", "_law_good", "_law_t", "_law_kind_here", "e"]
theorem sc_l_kind : FnScope N_l_kind ["_law_way", "_law_bad", "_law_good", "_law_t"] (defScope s_l_kind) := ⟨rfl, rfl, rfl, by decide +kernel, rfl, by decide +kernel, by decide +kernel⟩
abbrev s_l_stretch_kind : Stmt := topS 61
abbrev N_l_stretch_kind : List Str := ["_law_way", "_law_good", "_law_low", "_law_high", "_law_kind_here", "e"]
theorem sc_l_stretch_kind : FnScope N_l_stretch_kind ["_law_way", "_law_good", "_law_low", "_law_high"] (defScope s_l_stretch_kind) := ⟨rfl, rfl, rfl, by decide +kernel, rfl, by decide +kernel, by decide +kernel⟩
abbrev s_law : Stmt := topS 62
abbrev N_law : List Str := ["_law_script", "_law_edits_here", "_law_state", "_law_held", "_law_odd", "_law_k", "_law_bad", "_law_way", "_law_low", "_law_high", "_law_one", "_law_two"]
theorem sc_law : FnScope N_law ["_law_script"] (defScope s_law) := ⟨rfl, rfl, rfl, by decide +kernel, rfl, by decide +kernel, by decide +kernel⟩

structure Txt (K : PySem.W.Frag) (mg : Str → Option Value) : Type where
  a_is_number : Addr
  d_is_number : FuncData
  F_is_number : Fun K "is_number" "is_number" s_is_number a_is_number d_is_number
  g_is_number : mg "is_number" = some (.ref a_is_number)
  b_is_number : Binds K d_is_number ["thing"] []
  a_common_divisor : Addr
  d_common_divisor : FuncData
  F_common_divisor : Fun K "common_divisor" "common_divisor" s_common_divisor a_common_divisor d_common_divisor
  g_common_divisor : mg "common_divisor" = some (.ref a_common_divisor)
  b_common_divisor : Binds K d_common_divisor ["one", "other"] []
  a_is_fraction : Addr
  d_is_fraction : FuncData
  F_is_fraction : Fun K "is_fraction" "is_fraction" s_is_fraction a_is_fraction d_is_fraction
  g_is_fraction : mg "is_fraction" = some (.ref a_is_fraction)
  b_is_fraction : Binds K d_is_fraction ["thing"] []
  a_is_moment : Addr
  d_is_moment : FuncData
  F_is_moment : Fun K "is_moment" "is_moment" s_is_moment a_is_moment d_is_moment
  g_is_moment : mg "is_moment" = some (.ref a_is_moment)
  b_is_moment : Binds K d_is_moment ["thing"] []
  a_summed : Addr
  d_summed : FuncData
  F_summed : Fun K "summed" "summed" s_summed a_summed d_summed
  g_summed : mg "summed" = some (.ref a_summed)
  b_summed : Binds K d_summed ["one", "top", "bottom"] []
  a_plus : Addr
  d_plus : FuncData
  F_plus : Fun K "plus" "plus" s_plus a_plus d_plus
  g_plus : mg "plus" = some (.ref a_plus)
  b_plus : Binds K d_plus ["one", "other"] []
  a_minus : Addr
  d_minus : FuncData
  F_minus : Fun K "minus" "minus" s_minus a_minus d_minus
  g_minus : mg "minus" = some (.ref a_minus)
  b_minus : Binds K d_minus ["one", "other"] []
  a_times : Addr
  d_times : FuncData
  F_times : Fun K "times" "times" s_times a_times d_times
  g_times : mg "times" = some (.ref a_times)
  b_times : Binds K d_times ["one", "other"] []
  a_shared : Addr
  d_shared : FuncData
  F_shared : Fun K "shared" "shared" s_shared a_shared d_shared
  g_shared : mg "shared" = some (.ref a_shared)
  b_shared : Binds K d_shared ["one", "other"] []
  a_less : Addr
  d_less : FuncData
  F_less : Fun K "less" "less" s_less a_less d_less
  g_less : mg "less" = some (.ref a_less)
  b_less : Binds K d_less ["one", "other"] []
  a_is_edit : Addr
  d_is_edit : FuncData
  F_is_edit : Fun K "is_edit" "is_edit" s_is_edit a_is_edit d_is_edit
  g_is_edit : mg "is_edit" = some (.ref a_is_edit)
  b_is_edit : Binds K d_is_edit ["thing"] []
  a_is_edits : Addr
  d_is_edits : FuncData
  F_is_edits : Fun K "is_edits" "is_edits" s_is_edits a_is_edits d_is_edits
  g_is_edits : mg "is_edits" = some (.ref a_is_edits)
  b_is_edits : Binds K d_is_edits ["thing"] []
  a_refuse_no_edits : Addr
  d_refuse_no_edits : FuncData
  F_refuse_no_edits : Fun K "refuse_no_edits" "refuse_no_edits" s_refuse_no_edits a_refuse_no_edits d_refuse_no_edits
  g_refuse_no_edits : mg "refuse_no_edits" = some (.ref a_refuse_no_edits)
  a_refuse_no_moment : Addr
  d_refuse_no_moment : FuncData
  F_refuse_no_moment : Fun K "refuse_no_moment" "refuse_no_moment" s_refuse_no_moment a_refuse_no_moment d_refuse_no_moment
  g_refuse_no_moment : mg "refuse_no_moment" = some (.ref a_refuse_no_moment)
  b_refuse_no_moment : Binds K d_refuse_no_moment ["thing"] []
  a_refuse_no_stretch : Addr
  d_refuse_no_stretch : FuncData
  F_refuse_no_stretch : Fun K "refuse_no_stretch" "refuse_no_stretch" s_refuse_no_stretch a_refuse_no_stretch d_refuse_no_stretch
  g_refuse_no_stretch : mg "refuse_no_stretch" = some (.ref a_refuse_no_stretch)
  b_refuse_no_stretch : Binds K d_refuse_no_stretch ["low", "high"] []
  a_led : Addr
  d_led : FuncData
  F_led : Fun K "led" "led" s_led a_led d_led
  g_led : mg "led" = some (.ref a_led)
  b_led : Binds K d_led ["edits", "t"] []
  a_mapped : Addr
  d_mapped : FuncData
  F_mapped : Fun K "mapped" "mapped" s_mapped a_mapped d_mapped
  g_mapped : mg "mapped" = some (.ref a_mapped)
  b_mapped : Binds K d_mapped ["edits", "t"] []
  a_summed_spans : Addr
  d_summed_spans : FuncData
  F_summed_spans : Fun K "summed_spans" "summed_spans" s_summed_spans a_summed_spans d_summed_spans
  g_summed_spans : mg "summed_spans" = some (.ref a_summed_spans)
  b_summed_spans : Binds K d_summed_spans ["edits"] []
  a_total : Addr
  d_total : FuncData
  F_total : Fun K "total" "total" s_total a_total d_total
  g_total : mg "total" = some (.ref a_total)
  b_total : Binds K d_total ["edits"] []
  a_goes_on : Addr
  d_goes_on : FuncData
  F_goes_on : Fun K "goes_on" "goes_on" s_goes_on a_goes_on d_goes_on
  g_goes_on : mg "goes_on" = some (.ref a_goes_on)
  b_goes_on : Binds K d_goes_on ["edit", "start", "rate"] []
  a_tidied : Addr
  d_tidied : FuncData
  F_tidied : Fun K "tidied" "tidied" s_tidied a_tidied d_tidied
  g_tidied : mg "tidied" = some (.ref a_tidied)
  b_tidied : Binds K d_tidied ["edits"] []
  a_tidy : Addr
  d_tidy : FuncData
  F_tidy : Fun K "tidy" "tidy" s_tidy a_tidy d_tidy
  g_tidy : mg "tidy" = some (.ref a_tidy)
  b_tidy : Binds K d_tidy ["edits"] []
  a_count_alike : Addr
  d_count_alike : FuncData
  F_count_alike : Fun K "count_alike" "count_alike" s_count_alike a_count_alike d_count_alike
  g_count_alike : mg "count_alike" = some (.ref a_count_alike)
  b_count_alike : Binds K d_count_alike ["one", "other"] []
  a_borders : Addr
  d_borders : FuncData
  F_borders : Fun K "borders" "borders" s_borders a_borders d_borders
  g_borders : mg "borders" = some (.ref a_borders)
  b_borders : Binds K d_borders ["edits"] []
  a_merged : Addr
  d_merged : FuncData
  F_merged : Fun K "merged" "merged" s_merged a_merged d_merged
  g_merged : mg "merged" = some (.ref a_merged)
  b_merged : Binds K d_merged ["one", "other"] []
  a_first_unlike : Addr
  d_first_unlike : FuncData
  F_first_unlike : Fun K "first_unlike" "first_unlike" s_first_unlike a_first_unlike d_first_unlike
  g_first_unlike : mg "first_unlike" = some (.ref a_first_unlike)
  b_first_unlike : Binds K d_first_unlike ["one", "other"] []
  a_parted : Addr
  d_parted : FuncData
  F_parted : Fun K "parted" "parted" s_parted a_parted d_parted
  g_parted : mg "parted" = some (.ref a_parted)
  b_parted : Binds K d_parted ["one", "other"] []
  a_window : Addr
  d_window : FuncData
  F_window : Fun K "window" "window" s_window a_window d_window
  g_window : mg "window" = some (.ref a_window)
  b_window : Binds K d_window ["edits", "low", "high"] []
  a_laid_over : Addr
  d_laid_over : FuncData
  F_laid_over : Fun K "laid_over" "laid_over" s_laid_over a_laid_over d_laid_over
  g_laid_over : mg "laid_over" = some (.ref a_laid_over)
  b_laid_over : Binds K d_laid_over ["edit", "inner"] []
  a_over : Addr
  d_over : FuncData
  F_over : Fun K "over" "over" s_over a_over d_over
  g_over : mg "over" = some (.ref a_over)
  b_over : Binds K d_over ["outer", "inner"] []
  a_part : Addr
  d_part : FuncData
  F_part : Fun K "part" "part" s_part a_part d_part
  g_part : mg "part" = some (.ref a_part)
  b_part : Binds K d_part ["edits", "low", "high"] []
  a_after : Addr
  d_after : FuncData
  F_after : Fun K "after" "after" s_after a_after d_after
  g_after : mg "after" = some (.ref a_after)
  b_after : Binds K d_after ["one", "other"] []
  a_stretch_of : Addr
  d_stretch_of : FuncData
  F_stretch_of : Fun K "stretch_of" "stretch_of" s_stretch_of a_stretch_of d_stretch_of
  g_stretch_of : mg "stretch_of" = some (.ref a_stretch_of)
  b_stretch_of : Binds K d_stretch_of ["edit", "begin", "low", "high"] []
  a_stretches : Addr
  d_stretches : FuncData
  F_stretches : Fun K "stretches" "stretches" s_stretches a_stretches d_stretches
  g_stretches : mg "stretches" = some (.ref a_stretches)
  b_stretches : Binds K d_stretches ["edits", "low", "high"] []
  a_l_cell_at : Addr
  d_l_cell_at : FuncData
  F_l_cell_at : Fun K "_law_cell_at" "_law_cell_at" s_l_cell_at a_l_cell_at d_l_cell_at
  g_l_cell_at : mg "_law_cell_at" = some (.ref a_l_cell_at)
  b_l_cell_at : Binds K d_l_cell_at ["_law_script", "_law_k"] []
  a_l_digit : Addr
  d_l_digit : FuncData
  F_l_digit : Fun K "_law_digit" "_law_digit" s_l_digit a_l_digit d_l_digit
  g_l_digit : mg "_law_digit" = some (.ref a_l_digit)
  b_l_digit : Binds K d_l_digit ["_law_state", "_law_base"] []
  a_l_shared : Addr
  d_l_shared : FuncData
  F_l_shared : Fun K "_law_shared" "_law_shared" s_l_shared a_l_shared d_l_shared
  g_l_shared : mg "_law_shared" = some (.ref a_l_shared)
  b_l_shared : Binds K d_l_shared ["_law_one", "_law_other"] []
  a_l_lowest : Addr
  d_l_lowest : FuncData
  F_l_lowest : Fun K "_law_lowest" "_law_lowest" s_l_lowest a_l_lowest d_l_lowest
  g_l_lowest : mg "_law_lowest" = some (.ref a_l_lowest)
  b_l_lowest : Binds K d_l_lowest ["_law_top", "_law_bottom"] []
  a_l_plus : Addr
  d_l_plus : FuncData
  F_l_plus : Fun K "_law_plus" "_law_plus" s_l_plus a_l_plus d_l_plus
  g_l_plus : mg "_law_plus" = some (.ref a_l_plus)
  b_l_plus : Binds K d_l_plus ["_law_one", "_law_other"] []
  a_l_times : Addr
  d_l_times : FuncData
  F_l_times : Fun K "_law_times" "_law_times" s_l_times a_l_times d_l_times
  g_l_times : mg "_law_times" = some (.ref a_l_times)
  b_l_times : Binds K d_l_times ["_law_one", "_law_other"] []
  a_l_amount : Addr
  d_l_amount : FuncData
  F_l_amount : Fun K "_law_amount" "_law_amount" s_l_amount a_l_amount d_l_amount
  g_l_amount : mg "_law_amount" = some (.ref a_l_amount)
  b_l_amount : Binds K d_l_amount ["_law_state"] []
  a_l_edit : Addr
  d_l_edit : FuncData
  F_l_edit : Fun K "_law_edit" "_law_edit" s_l_edit a_l_edit d_l_edit
  g_l_edit : mg "_law_edit" = some (.ref a_l_edit)
  b_l_edit : Binds K d_l_edit ["_law_state", "_law_ahead"] []
  a_l_edits : Addr
  d_l_edits : FuncData
  F_l_edits : Fun K "_law_edits" "_law_edits" s_l_edits a_l_edits d_l_edits
  g_l_edits : mg "_law_edits" = some (.ref a_l_edits)
  b_l_edits : Binds K d_l_edits ["_law_state", "_law_few"] []
  a_l_odd_edit : Addr
  d_l_odd_edit : FuncData
  F_l_odd_edit : Fun K "_law_odd_edit" "_law_odd_edit" s_l_odd_edit a_l_odd_edit d_l_odd_edit
  g_l_odd_edit : mg "_law_odd_edit" = some (.ref a_l_odd_edit)
  b_l_odd_edit : Binds K d_l_odd_edit ["_law_state", "_law_edit_here"] []
  a_l_bad_edits : Addr
  d_l_bad_edits : FuncData
  F_l_bad_edits : Fun K "_law_bad_edits" "_law_bad_edits" s_l_bad_edits a_l_bad_edits d_l_bad_edits
  g_l_bad_edits : mg "_law_bad_edits" = some (.ref a_l_bad_edits)
  b_l_bad_edits : Binds K d_l_bad_edits ["_law_state", "_law_edits_here"] []
  a_l_deed : Addr
  d_l_deed : FuncData
  F_l_deed : Fun K "_law_deed" "_law_deed" s_l_deed a_l_deed d_l_deed
  g_l_deed : mg "_law_deed" = some (.ref a_l_deed)
  b_l_deed : Binds K d_l_deed ["_law_way", "_law_bad", "_law_good", "_law_t"] []
  a_l_kind : Addr
  d_l_kind : FuncData
  F_l_kind : Fun K "_law_kind" "_law_kind" s_l_kind a_l_kind d_l_kind
  g_l_kind : mg "_law_kind" = some (.ref a_l_kind)
  b_l_kind : Binds K d_l_kind ["_law_way", "_law_bad", "_law_good", "_law_t"] []
  a_l_stretch_kind : Addr
  d_l_stretch_kind : FuncData
  F_l_stretch_kind : Fun K "_law_stretch_kind" "_law_stretch_kind" s_l_stretch_kind a_l_stretch_kind d_l_stretch_kind
  g_l_stretch_kind : mg "_law_stretch_kind" = some (.ref a_l_stretch_kind)
  b_l_stretch_kind : Binds K d_l_stretch_kind ["_law_way", "_law_good", "_law_low", "_law_high"] []
  a_law : Addr
  d_law : FuncData
  F_law : Fun K "law" "law" s_law a_law d_law
  g_law : mg "law" = some (.ref a_law)
  b_law : Binds K d_law ["_law_script"] []
  m_ValueError : mg "ValueError" = none
  m_abs : mg "abs" = none
  m_bool : mg "bool" = none
  m_dict : mg "dict" = none
  m_int : mg "int" = none
  m_isinstance : mg "isinstance" = none
  m_len : mg "len" = none
  m_list : mg "list" = none
  m_min : mg "min" = none
  m_range : mg "range" = none
  m_tuple : mg "tuple" = none
  m_zip : mg "zip" = none
  c_ScrollError : Addr
  g_ScrollError : mg "ScrollError" = some (.ref c_ScrollError)
  c_NoFraction : Addr
  g_NoFraction : mg "NoFraction" = some (.ref c_NoFraction)
  c_NoMoment : Addr
  g_NoMoment : mg "NoMoment" = some (.ref c_NoMoment)
  c_NoEdits : Addr
  g_NoEdits : mg "NoEdits" = some (.ref c_NoEdits)
  ca_NOUGHT : Addr
  g_NOUGHT : mg "NOUGHT" = some (.ref ca_NOUGHT)
  cs_NOUGHT : ∃ o n its, K.lookup ca_NOUGHT = some o ∧ o.cls = .type "tuple" ∧ o.data = .seq its n ∧ Vals ([.int 0, .int 1] : List V) its.toList
  ca_HALF : Addr
  g_HALF : mg "HALF" = some (.ref ca_HALF)
  cs_HALF : ∃ o n its, K.lookup ca_HALF = some o ∧ o.cls = .type "tuple" ∧ o.data = .seq its n ∧ Vals ([.int 1, .int 2] : List V) its.toList
  x_NoFraction : PySem.W.excIn K c_NoFraction [.type "ValueError", .type "Exception", .type "BaseException", .type "object"] "ValueError.__new__" = true
  k_NoFraction : PySem.W.keepIn K (.ref c_NoFraction) = true
  bb_NoFraction : PySem.W.subIn K (.ref c_NoFraction) (.type "BaseException") = some true
  t_NoFraction : PySem.W.typeIn K (.ref c_NoFraction) = some (.type "type")
  xc_NoFraction : ExcC K c_NoFraction
  x_NoMoment : PySem.W.excIn K c_NoMoment [.type "ValueError", .type "Exception", .type "BaseException", .type "object"] "ValueError.__new__" = true
  k_NoMoment : PySem.W.keepIn K (.ref c_NoMoment) = true
  bb_NoMoment : PySem.W.subIn K (.ref c_NoMoment) (.type "BaseException") = some true
  t_NoMoment : PySem.W.typeIn K (.ref c_NoMoment) = some (.type "type")
  xc_NoMoment : ExcC K c_NoMoment
  x_NoEdits : PySem.W.excIn K c_NoEdits [.type "ValueError", .type "Exception", .type "BaseException", .type "object"] "ValueError.__new__" = true
  k_NoEdits : PySem.W.keepIn K (.ref c_NoEdits) = true
  bb_NoEdits : PySem.W.subIn K (.ref c_NoEdits) (.type "BaseException") = some true
  t_NoEdits : PySem.W.typeIn K (.ref c_NoEdits) = some (.type "type")
  xc_NoEdits : ExcC K c_NoEdits
  em_NoEdits_ScrollError : PySem.W.exmOne K (.ref c_NoEdits) (.ref c_ScrollError) = some true
  em_NoFraction_ScrollError : PySem.W.exmOne K (.ref c_NoFraction) (.ref c_ScrollError) = some true
  em_NoMoment_ScrollError : PySem.W.exmOne K (.ref c_NoMoment) (.ref c_ScrollError) = some true
  io_NoEdits_NoEdits : PySem.W.kitOne K (.ref c_NoEdits) (.ref c_NoEdits) = some true
  io_NoFraction_NoEdits : PySem.W.kitOne K (.ref c_NoFraction) (.ref c_NoEdits) = some false
  io_NoMoment_NoEdits : PySem.W.kitOne K (.ref c_NoMoment) (.ref c_NoEdits) = some false
  io_NoEdits_ValueError : PySem.W.kitOne K (.ref c_NoEdits) (.type "ValueError") = some true
  io_NoFraction_ValueError : PySem.W.kitOne K (.ref c_NoFraction) (.type "ValueError") = some true
  io_NoMoment_ValueError : PySem.W.kitOne K (.ref c_NoMoment) (.type "ValueError") = some true
  io_NoEdits_NoMoment : PySem.W.kitOne K (.ref c_NoEdits) (.ref c_NoMoment) = some false
  io_NoFraction_NoMoment : PySem.W.kitOne K (.ref c_NoFraction) (.ref c_NoMoment) = some false
  io_NoMoment_NoMoment : PySem.W.kitOne K (.ref c_NoMoment) (.ref c_NoMoment) = some true
/-! ### heaps -/
/-- all but what stands at p is as it was -/
def Frm (p : Addr) (H H' : Hp) : Prop := ∀ b o, b ≠ p → H b = some o → H' b = some o
theorem Frm.get {p q : Addr} {H H' : Hp} {o : HO} (f : Frm p H H') (n : q ≠ p) (h : H q = some o) : H' q = some o := f q o n h
theorem Frm.refl {p : Addr} {H : Hp} : Frm p H H := fun _ _ _ h => h
theorem Frm.trans {p : Addr} {H H1 H2 : Hp} (a : Frm p H H1) (b : Frm p H1 H2) : Frm p H H2 := fun c o n h => b c o n (a c o n h)
theorem Frm.upd {p : Addr} {H : Hp} {o : HO} : Frm p H (upd H p o) := fun c u n h => by rw [upd_ne n]; exact h
theorem upd_old {H : Hp} {a q : Addr} {o o' : HO} (na : H a = none) (h : H q = some o) : upd H a o' q = some o := by
  rw [upd_ne (ne_of_none h na)]; exact h
theorem upd_oth {H : Hp} {a q : Addr} {o o' : HO} (na : q ≠ a) (h : H q = some o) : upd H a o' q = some o := by
  rw [upd_ne na]; exact h
theorem Frm.new {p a : Addr} {H H' : Hp} {o : HO} (f : Frm p H H') (na : H' a = none) : Frm p H (L2.upd H' a o) := fun c u n h => upd_old na (f c u n h)
theorem Frm.upd2 {p : Addr} {H H' : Hp} {o : HO} (f : Frm p H H') : Frm p H (L2.upd H' p o) := f.trans .upd
theorem Frm.own {p a : Addr} {H H' : Hp} {o : HO} (f : Frm p H H') (na : H a = none) : Frm p H (L2.upd H' a o) := fun c u n h => upd_oth (ne_of_none h na) (f c u n h)
theorem Frm.new2 {p a : Addr} {H H' : Hp} {o o2 : HO} (f : Frm p H H') (na : H' a = none) : Frm p H (L2.upd (L2.upd H' a o2) a o) := by rw [upd_upd]; exact f.new na
theorem upd_old2 {H : Hp} {a q : Addr} {o o' o2 : HO} (na : H a = none) (h : H q = some o) : upd (upd H a o2) a o' q = some o := by rw [upd_upd]; exact upd_old na h
theorem new_ne {H : Hp} {a q : Addr} {o : HO} (na : H a = none) (h : H q = some o) : a ≠ q := fun e => by subst e; rw [na] at h; cases h
theorem Same.get {q : Addr} {H H' : Hp} {o : HO} (f : Same H H') (h : H q = some o) : H' q = some o := f q o h
theorem Same.new {a : Addr} {H H' : Hp} {o : HO} (f : Same H H') (na : H' a = none) : Same H (L2.upd H' a o) := fun c u h => upd_old na (f c u h)
theorem Same.new2 {a : Addr} {H H' : Hp} {o o2 : HO} (f : Same H H') (na : H' a = none) : Same H (L2.upd (L2.upd H' a o2) a o) := by rw [upd_upd]; exact Same.new f na
theorem Same.own {a : Addr} {H H' : Hp} {o : HO} (f : Same H H') (na : H a = none) : Same H (L2.upd H' a o) := fun c u h => upd_oth (ne_of_none h na) (f c u h)
theorem Same.frm {p : Addr} {H H' : Hp} (f : Same H H') : Frm p H H' := fun c u _ h => f c u h
/-- what is new to an elder heap and stands apart is no matter -/
theorem Frm.same {p : Addr} {H H' : Hp} (f : Frm p H H') (n : H p = none) : Same H H' := fun c u h => f c u (ne_of_none h n) h
theorem Same.byFrm {p : Addr} {H H1 H2 : Hp} (f : Same H H1) (g : Frm p H1 H2) (n : H p = none) : Same H H2 := fun c u h => g c u (ne_of_none h n) (f c u h)
theorem Frm.none {p q : Addr} {H H' : Hp} (f : Frm p H H') (n : q ≠ p) (h : H' q = none) : H q = none := by
  cases e : H q with
  | none => rfl
  | some o => rw [f q o n e] at h; cases h
theorem Same.none {q : Addr} {H H' : Hp} (f : Same H H') (h : H' q = none) : H q = none := by
  cases e : H q with
  | none => rfl
  | some o => rw [f q o e] at h; cases h
/-! ### sizes, ifs -/
theorem szb {n : Nat} (h : n ≤ 16000000) : n ≤ sizeLine := Nat.le_trans h (by decide)
theorem szbl {n : Nat} (h : n ≤ 16000000) : n < sizeLine := Nat.lt_of_le_of_lt h (by decide)
theorem sz {n : Nat} (h : Nat.ble n 1000 = true) : n ≤ sizeLine := Nat.le_trans (Nat.le_of_ble_eq_true h) (by decide)
theorem szl {n : Nat} (h : Nat.ble n 1000 = true) : n < sizeLine := Nat.lt_of_le_of_lt (Nat.le_of_ble_eq_true h) (by decide)
theorem szn {n : Nat} (h : n ≤ 1000) : n ≤ sizeLine := Nat.le_trans h (by decide)
theorem sznl {n : Nat} (h : n ≤ 1000) : n < sizeLine := Nat.lt_of_le_of_lt h (by decide)
theorem ifT {c : Bool} {A B : Prop} (h : c = true) (a : A) : if c = true then A else B := by rw [if_pos h]; exact a
theorem ifF {c : Bool} {A B : Prop} (h : c = false) (b : B) : if c = true then A else B := by rw [h, if_neg Bool.false_ne_true]; exact b
theorem ifC {c : Bool} {A B : Prop} (a : c = true → A) (b : c = false → B) : if c = true then A else B := by
  cases c with
  | true => exact ifT rfl (a rfl)
  | false => exact ifF rfl (b rfl)
theorem ifAnd {k1 k2 : Bool} {A : Prop} {Q : VK} {H : Hp} (a : Q (.bl k2) H → A) (h : Q (.bl (k1 && k2)) H) : if k1 = true then A else Q (.bl false) H := by
  cases k1 with
  | true => exact ifT rfl (a h)
  | false => exact ifF rfl h
/-! ### items at a drawn place -/
theorem at_nn {α : Type} {xs : List α} {d : Int} (h0 : 0 ≤ d) (h1 : d < xs.length) : ∃ v, atI xs d = some v ∧ v ∈ xs ∧ xs[d.toNat]? = some v := by
  have h2 : d.toNat < xs.length := by omega
  have e : (d.toNat : Int) = d := by omega
  have k := atI_nat (List.getElem?_eq_getElem h2)
  rw [e] at k
  exact ⟨xs[d.toNat], k, List.getElem_mem h2, List.getElem?_eq_getElem h2⟩
theorem ixP {K : PySem.W.Frag} {H : Hp} {Q : VK} {p : Addr} {xs : List V} {d : Int} (R : V → Prop) (hp : SqL K H p xs) (h0 : 0 ≤ d) (h1 : d < xs.length) (all : ∀ v ∈ xs, R v) (k : ∀ v, R v → Q v H) : rIxL K (.ref p) (.int d) H Q := by
  obtain ⟨v, e, m, _⟩ := at_nn h0 h1
  exact ⟨_, _, _, _, rfl, rfl, hp, e, k v (all v m)⟩
theorem ixG {K : PySem.W.Frag} {H : Hp} {Q : VK} {p : Addr} {xs : List V} {d : Int} (hp : SqL K H p xs) (h0 : 0 ≤ d) (h1 : d < xs.length) (k : ∀ v, xs[d.toNat]? = some v → Q v H) : rIxL K (.ref p) (.int d) H Q := by
  obtain ⟨v, e, _, m⟩ := at_nn h0 h1
  exact ⟨_, _, _, _, rfl, rfl, hp, e, k v m⟩
def isI : V → Bool
  | .int _ => true
  | _ => false
theorem ixI {K : PySem.W.Frag} {H : Hp} {Q : VK} {p : Addr} {xs : List V} {d : Int} (hp : SqL K H p xs) (h0 : 0 ≤ d) (h1 : d < xs.length) (all : xs.all isI = true) (k : ∀ i, V.int i ∈ xs → Q (.int i) H) : rIxL K (.ref p) (.int d) H Q := by
  refine ixP (fun v => (∃ i, v = .int i) ∧ v ∈ xs) hp h0 h1 (fun v hv => ⟨?_, hv⟩) (fun v ⟨⟨i, e⟩, m⟩ => ?_)
  · have := List.all_eq_true.mp all v hv
    cases v <;> first | exact ⟨_, rfl⟩ | cases this
  · subst e; exact k i m
/-! ### a call with keywords alone -/
section
variable {X : Cx} {CX : CXT} {k : Nat} {f : Addr} {fd : FuncData} {ps ks : List Str} {sp : Sp} {E : XK} {x : Str} {p pos : Pos} {kws : List Keyword} {tk : TA} {g : List Value → List Value → List Value} {gV : List V → List V → List V}
theorem pe_callN0 (F : FnOk X.prog X.w X.K X.mg X.base CX k f fd ps sp) (hr : Room k X.A) (hg : Gl X x) (hm : X.mg x = some (.ref f)) (hk : PySem.W.keepIn X.K (.ref f) = true) (hb : KBn X.K fd ps 0 ks g gV) (hx : Passes CX X E)
    (hkw : PK X kws tk) (hall : (backToKw pos (keywordEach kws X.env)).all (·.1.isSome) = true := by rfl) (hks : (backToKw pos (keywordEach kws X.env)).filterMap (·.1) = ks := by rfl)
    (hdb : (x == ("__debug__" : Str)) = false := by decide)
    (hpl : ((backTo pos (starEach [] X.env)).any (·.1) || (backToKw pos (keywordEach kws X.env)).any (·.1.isNone)) = false := by rfl) :
    PE X (.Call (.Name x p) [] kws pos) (tCallN 0 ks.length sp gV E tNil tk) := by
  refine ⟨fun pins s σ H Q I h => ?_⟩
  refine wpAny_Call_Name_kw (ld_glob I hg hm ?_ hdb)
  refine PySem.W.callWith_KW0 (h₀ := X.base) I.ok.mod.kin hk hall (thn (hkw.run pos pins s σ H _ I h) fun ws s2 ⟨zs, H2, I2, rz, l1, l2, q2⟩ => ⟨I2.kIn, ?_⟩) hpl
  rw [hks]
  exact run_fnN F hr hb hx I2 .nil rz rfl l2 q2
end
section
variable {K : PySem.W.Frag} {x qual : Str} {st : Stmt} {f : Addr} {fd : FuncData} {ps ks : List Str} {n : Nat}
theorem kbAll {F : Fun K x qual st f fd} {g : {α : Type} → List α → List α → List α} (h : ∀ (kV doc pm : Value) (an : Option Addr) (cdv ct : Value) (us ws : List Value), us.length = n → ws.length = ks.length →
    bindArgs (PySem.W.fnOf x qual (defArgs st) (defBody st) (defScope st) .none kV doc pm an cdv ct) ⟨us, ks.zip ws⟩ = pure (ps.zip (g us ws)))
    (hrel : ∀ {vs : List V} {us : List Value} {zs : List V} {ws : List Value}, Vals vs us → Vals zs ws → Vals (g vs zs) (g us ws)) : KBn K fd ps n ks (fun us ws => g us ws) (fun us ws => g us ws) := by
  obtain ⟨oc, od, kV, doc, pm, an, cdv, ct, osl, rfl, lk, hcd⟩ := F.ex
  exact ⟨fun s us ws _ h1 h2 => .of_eq (h kV doc pm an cdv ct us ws h1 h2), fun r1 r2 => hrel r1 r2⟩
variable {params : Arguments} {body : List Stmt} {scope : Scope} {dvs : List V}
theorem bindsAll {F : FunD K x qual params body scope dvs [] f fd}
    (h : ∀ (T : Addr) (kV doc pm : Value) (an : Option Addr) (cdv ct : Value) (us its : List Value), us.length = ps.length → its.length = dvs.length →
      ∃ k, bindArgs (PySem.W.fnOf x qual params body scope (.ref T) kV doc pm an cdv ct) ⟨us, []⟩ = seqItems? (.ref T) >>= k ∧ k (some its.toArray) = pure (ps.zip us)) (hd : dvs ≠ []) : Binds K fd ps [] := by
  obtain ⟨ds, hv, hb⟩ := F.binds1 (ps := ps) ps.length dvs.length hd (by omega) (fun T kV doc pm an cdv ct us its h1 h2 => by
    obtain ⟨k, e1, e2⟩ := h T kV doc pm an cdv ct us its h1 h2
    refine ⟨k, e1, ?_⟩
    rw [e2, ← h2, List.drop_length, List.append_nil])
  rw [List.drop_length] at hv
  cases hv
  exact hb
theorem kbAllD {F : FunD K x qual params body scope dvs [] f fd} {g : {α : Type} → List α → List α → List α}
    (h : ∀ (T : Addr) (kV doc pm : Value) (an : Option Addr) (cdv ct : Value) (us its ws : List Value), us.length = n → its.length = dvs.length → ws.length = ks.length →
      ∃ k, bindArgs (PySem.W.fnOf x qual params body scope (.ref T) kV doc pm an cdv ct) ⟨us, ks.zip ws⟩ = seqItems? (.ref T) >>= k ∧ k (some its.toArray) = pure (ps.zip (g us ws))) (hd : dvs ≠ [])
    (hrel : ∀ {vs : List V} {us : List Value} {zs : List V} {ws : List Value}, Vals vs us → Vals zs ws → Vals (g vs zs) (g us ws)) : KBn K fd ps n ks (fun us ws => g us ws) (fun us ws => g us ws) := by
  obtain ⟨oc, od, dV, kV, doc, pm, an, cdv, ct, osl, rfl, lk, hcd, hD, hK⟩ := F.ex
  rcases hD with ⟨e, _⟩ | ⟨_, T, o, its, m, rfl, lT, oT, rT⟩
  · exact absurd e hd
  · refine ⟨fun s us ws X l1 l2 => ?_, fun r1 r2 => hrel r1 r2⟩
    obtain ⟨k, e1, e2⟩ := h T kV doc pm an cdv ct us its ws l1 rT.length.symm l2
    refine BindsTo.of_looks fun M => ?_
    rw [e1]
    exact looks_items X lT oT (.of_pure e2)
theorem exm_by {K : PySem.W.Frag} {C S : Addr} {b : Bool} (h1 : PySem.W.subIn K (.ref S) (.type "BaseException") = some true) (h2 : PySem.W.isClsIn K S = true) (h3 : PySem.W.typeIn K (.ref S) = some (.type "type")) (h4 : PySem.W.subIn K (.ref C) (.ref S) = some b) :
    PySem.W.exmOne K (.ref C) (.ref S) = some b := by
  have e1 : (PySem.W.subIn K (.ref S) (.type "BaseException") == some true) = true := by rw [h1] <;> rfl
  have e2 : ((PySem.W.clsIn K S).isSome && PySem.W.typeIn K (.ref S) == some (.type "type")) = true := by
    have h2' : (PySem.W.clsIn K S).isSome = true := h2
    rw [h2', h3] <;> rfl
  show (if (PySem.W.subIn K (.ref S) (.type "BaseException") == some true) = true then (if ((PySem.W.clsIn K S).isSome && PySem.W.typeIn K (.ref S) == some (.type "type")) = true then PySem.W.subIn K (.ref C) (.ref S) else none) else none) = some b
  rw [if_pos e1, if_pos e2]
  exact h4
end
/-! ### a < b < c of whole numbers, as one answer -/
def MonoE (t : TE) : Prop := ∀ (σ : L2.St) (H : Hp) (Q Q' : VK), (∀ v H', Q v H' → Q' v H') → t σ H Q → t σ H Q'
theorem mn_var {i : Nat} : MonoE (tVar i) := fun _ _ _ _ k ⟨v, e, q⟩ => ⟨v, e, k _ _ q⟩
theorem mn_c {v : V} : MonoE (tC v) := fun _ _ _ _ k q => k _ _ q
theorem mn_I0 {g : Int → Int → V} {ta tb : TE} (a : MonoE ta) (b : MonoE tb) : MonoE (tOp (rI0 g) ta tb) := fun σ H Q Q' k h =>
  a σ H _ _ (fun _ H1 h1 => b σ H1 _ _ (fun _ _ ⟨i, j, e1, e2, q⟩ => ⟨i, j, e1, e2, k _ _ q⟩) h1) h
theorem mn_I {C : Int → Int → Prop} {g : Int → Int → V} {ta tb : TE} (a : MonoE ta) (b : MonoE tb) : MonoE (tOp (rI C g) ta tb) := fun σ H Q Q' k h =>
  a σ H _ _ (fun _ H1 h1 => b σ H1 _ _ (fun _ _ ⟨i, j, e1, e2, c, q⟩ => ⟨i, j, e1, e2, c, k _ _ q⟩) h1) h
theorem mn_ixL {K : PySem.W.Frag} {ta tb : TE} (a : MonoE ta) (b : MonoE tb) : MonoE (tOp (rIxL K) ta tb) := fun σ H Q Q' k h =>
  a σ H _ _ (fun _ H1 h1 => b σ H1 _ _ (fun _ _ ⟨p, xs, i, v, e1, e2, s, e, q⟩ => ⟨p, xs, i, v, e1, e2, s, e, k _ _ q⟩) h1) h
theorem mn_ixT {K : PySem.W.Frag} {ta tb : TE} (a : MonoE ta) (b : MonoE tb) : MonoE (tOp (rIxT K) ta tb) := fun σ H Q Q' k h =>
  a σ H _ _ (fun _ H1 h1 => b σ H1 _ _ (fun _ _ ⟨p, xs, i, v, e1, e2, s, e, q⟩ => ⟨p, xs, i, v, e1, e2, s, e, k _ _ q⟩) h1) h
theorem mn_len {r : List V → Hp → VK → Prop} {ta : TE} (a : MonoE ta) (hr : ∀ vs H (Q Q' : VK), (∀ v H', Q v H' → Q' v H') → r vs H Q → r vs H Q') : MonoE (tCB r (tCons ta tNil)) := fun σ H Q Q' k h =>
  a σ H _ _ (fun _ H1 h1 => hr _ _ _ _ k h1) h
def tChI (g g' : Int → Int → Bool) (ta tb tc : TE) : TE := fun σ H Q => ta σ H fun x H1 => tb σ H1 fun y H2 => tc σ H2 fun z H3 => ∃ i j l : Int, x = .int i ∧ y = .int j ∧ z = .int l ∧ H3 = H2 ∧ Q (.bl (g i j && g' j l)) H2
/-- what c's reading tells is told at once: c changes nothing -/
theorem tChI_to {g g' : Int → Int → Bool} {ta tb tc : TE} (ma : MonoE ta) (mb : MonoE tb) (mc : MonoE tc) {σ : L2.St} {H : Hp} {Q : VK} (cx : ∀ (σ : L2.St) (H : Hp) (Q : V → Hp → Prop), tc σ H Q → ∃ v H', Q v H') (h : tChI g g' ta tb tc σ H Q) :
    tChain (rI0 fun i j => .bl (g i j)) (rI0 fun i j => .bl (g' i j)) ta tb tc σ H Q := by
  refine ma σ H _ _ (fun x H1 h1 => mb σ H1 _ _ (fun y H2 h2 => ?_) h1) h
  obtain ⟨_, _, i, j, l, ex, ey, _, _, q⟩ := cx _ _ _ h2
  refine ⟨i, j, ex, ey, _, rfl, ?_⟩
  cases e : g i j with
  | true =>
    refine ifT rfl (mc σ H2 _ _ (fun z H3 h3 => ?_) h2)
    obtain ⟨i', j', l', ex', ey', ez, e3, q'⟩ := h3
    have e1 : i' = i := V.int.inj (ex'.symm.trans ex)
    have e2 : j' = j := V.int.inj (ey'.symm.trans ey)
    subst e1 e2 ez e3
    rw [e, Bool.true_and] at q'
    exact ⟨j', l', ey, rfl, q'⟩
  | false =>
    rw [e, Bool.false_and] at q
    exact ifF rfl q
def ShowsE (t : TE) : Prop := ∀ (σ : L2.St) (H : Hp) (Q : V → Hp → Prop), t σ H Q → ∃ v H', Q v H'
theorem sh_var {i : Nat} : ShowsE (tVar i) := fun _ _ _ ⟨v, _, q⟩ => ⟨v, _, q⟩
theorem sh_c {v : V} : ShowsE (tC v) := fun _ _ _ q => ⟨_, _, q⟩
theorem sh_I0 {g : Int → Int → V} {ta tb : TE} (a : ShowsE ta) (b : ShowsE tb) : ShowsE (tOp (rI0 g) ta tb) := fun σ H Q h => by
  obtain ⟨x, H1, h1⟩ := a _ _ _ h
  obtain ⟨y, H2, h2⟩ := b _ _ _ h1
  obtain ⟨i, j, _, _, q⟩ := h2
  exact ⟨_, _, q⟩
theorem sh_I {C : Int → Int → Prop} {g : Int → Int → V} {ta tb : TE} (a : ShowsE ta) (b : ShowsE tb) : ShowsE (tOp (rI C g) ta tb) := fun σ H Q h => by
  obtain ⟨x, H1, h1⟩ := a _ _ _ h
  obtain ⟨y, H2, h2⟩ := b _ _ _ h1
  obtain ⟨i, j, _, _, _, q⟩ := h2
  exact ⟨_, _, q⟩
theorem sh_ixL {K : PySem.W.Frag} {ta tb : TE} (a : ShowsE ta) (b : ShowsE tb) : ShowsE (tOp (rIxL K) ta tb) := fun σ H Q h => by
  obtain ⟨x, H1, h1⟩ := a _ _ _ h
  obtain ⟨y, H2, h2⟩ := b _ _ _ h1
  obtain ⟨_, _, _, _, _, _, _, _, q⟩ := h2
  exact ⟨_, _, q⟩
theorem sh_ixT {K : PySem.W.Frag} {ta tb : TE} (a : ShowsE ta) (b : ShowsE tb) : ShowsE (tOp (rIxT K) ta tb) := fun σ H Q h => by
  obtain ⟨x, H1, h1⟩ := a _ _ _ h
  obtain ⟨y, H2, h2⟩ := b _ _ _ h1
  obtain ⟨_, _, _, _, _, _, _, _, q⟩ := h2
  exact ⟨_, _, q⟩
theorem PE.weak {X : Cx} {e : Expr} {t t' : TE} (h : PE X e t) (w : ∀ σ H Q, t' σ H Q → t σ H Q) : PE X e t' := ⟨fun pins s σ H Q I q => h.run pins s σ H Q I (w _ _ _ q)⟩
theorem pe_chainI {X : Cx} {op op' : CmpOp} {g g' : Int → Int → Bool} {a b c : Expr} {ta tb tc : TE} {pos : Pos} (ho : OpR X (compareOp op) (rI0 fun i j => .bl (g i j))) (ho' : OpR X (compareOp op') (rI0 fun i j => .bl (g' i j)))
    (ha : PE X a ta) (hb : PE X b tb) (hc : PE X c tc) (ma : MonoE ta) (mb : MonoE tb) (mc : MonoE tc) (sc : ShowsE tc) (hm : lastMarks [op, op'] [b, c] = false := by rfl) : PE X (.Compare a [op, op'] [b, c] pos) (tChI g g' ta tb tc) :=
  PE.weak (pe_chain ho ho' ha hb hc hm) (fun _ _ _ h => tChI_to ma mb mc sc h)
/-! ### rules within a comprehension: the written part by its own name -/
section
variable {X : Cx} {K : PySem.W.Frag}
theorem ix_listK (h : X.K = K) : IxR X (rIxL K) := h ▸ ix_list
theorem ix_tupK (h : X.K = K) : IxR X (rIxT K) := h ▸ ix_tup
theorem sl_listK (h : X.K = K) : SlR X (rSlL K) := h ▸ sl_list
theorem call_len_seqK (h : X.K = K) : CallR X (.builtin "len") (fun xs H Q => ∃ p ys, xs = [.ref p] ∧ (SqL K H p ys ∨ SqT K H p ys) ∧ Q (.int ys.length) H) := h ▸ call_len_seq
end
section
variable {X : Cx} {K : PySem.W.Frag}
theorem call_isiB (h : X.K = K) : CallR X (.builtin "isinstance") (rIsi K) := h ▸ call_isi
end
section
variable {X : Cx} {K : PySem.W.Frag}
theorem op_neDK (h : X.K = K) (hu : X.A.units + 64 < cLine) : OpR X (compareOp .NotEq) (rNeD K) := h ▸ op_neD hu
theorem op_eqDK (h : X.K = K) (hu : X.A.units + 64 < cLine) : OpR X (compareOp .Eq) (rEqD K) := h ▸ op_eqD hu
end
/-! ### + of two lists, the script among them; + of two truths -/
theorem list_add_any (l : Addr) (items : Array Value) (n : Nat) (sl : Array (Option Value)) (b : Addr) (items2 : Array Value) (n2 : Nat) (sl2 : Array (Option Value)) (hc0 : items.size + items2.size ≤ sizeLine) :
    Meets (Builtin.«list.__add__» ⟨[.ref l, .ref b], []⟩) (fun _ R s => s.heap.get? l = some { cls := .type "list", dict := none, data := .seq items n, slots := sl } ∧ s.heap.get? b = some { cls := .type "list", dict := none, data := .seq items2 n2, slots := sl2 } ∧ R (.ok (.ret (Value.ref s.heap.objs.size))) { s with heap := s.heap.push { cls := Value.type "list", data := Data.seq (items ++ items2) } }) :=
  .of_wp fun prog w A R s h => by
    obtain ⟨hp, g, d, tk, os⟩ := s
    obtain ⟨hl, hb, h⟩ := h
    have f3 := AutoSeq1.sub_list_list
    wp_walk using AutoSeq1.wpAny_loadPart' hl, AutoSeq1.wpAny_loadPart' hb
    exact ⟨_, rfl, h⟩
def rCatF (K : PySem.W.Frag) : R2 := fun x y H Q => ∃ l b xs zs, x = .ref l ∧ y = .ref b ∧ SqL K H l xs ∧ SqL K H b zs ∧ xs.length + zs.length ≤ sizeLine ∧ ∀ p, H p = none → Q (.ref p) (upd H p (.lst (xs ++ zs)))
theorem op_catF {X : Cx} : OpR X (binaryOp .Add) (rCatF X.K) := by
  intro pins s σ H x y v u Q I rx ry h
  obtain ⟨l, b, xs, zs, rfl, rfl, hH, hB, hz, q⟩ := h
  cases rx
  cases ry
  obtain ⟨its, r, ⟨o, n, e, hc, hd, hs⟩, _⟩ := I.list hH
  obtain ⟨its2, r2, ⟨o2, n2, e2, hc2, hd2, hs2⟩, _⟩ := I.list hB
  obtain ⟨oc, od, odt, osl⟩ := o
  obtain ⟨oc2, od2, odt2, osl2⟩ := o2
  simp only at hc hd hs hc2 hd2 hs2
  subst hc hd hs hc2 hd2 hs2
  have l1 := r.length
  have l2 := r2.length
  refine PySem.concat_meets ⟨_, e, rfl⟩ ⟨_, e2, rfl⟩ PySem.noFill_list_add PySem.seq_list_add PySem.F.slot_list_add PySem.F.entry_list_add (PySem.F.args_list_add_2 _ _) (list_add_any l its.toArray n osl b its2.toArray n2 osl2 (by rw [List.size_toArray, List.size_toArray]; omega)) ⟨e, e2, ?_⟩
  have ea : its.toArray ++ its2.toArray = (its ++ its2).toArray := by simp
  rw [ea]
  exact ⟨.ref _, _, I.lnew (t' := s.toks) (r.append r2) (by rw [List.length_append]; omega), rfl, q _ I.fresh⟩
theorem give_bb (a b : Bool) : Gives (Builtin.«int.__add__» ⟨[.bool a, .bool b], []⟩) (.int ((if a = true then (1 : Int) else 0) + (if b = true then (1 : Int) else 0))) := .of_wp fun M A E s Q h => by
  obtain ⟨hp, g, d, tk, os⟩ := s
  wp_walk
  exact ⟨_, rfl, h⟩
theorem op_add_bb {X : Cx} : OpR X (binaryOp .Add) (fun x y H Q => ∃ i k, x = .bl i ∧ y = .bl k ∧ Q (.int ((if i = true then (1 : Int) else 0) + (if k = true then (1 : Int) else 0))) H) := by
  intro pins s σ H x y v u Q I rx ry h
  obtain ⟨i, k, rfl, rfl, q⟩ := h
  cases rx
  cases ry
  exact binaryOp_gives (op := .Add) (T := "bool") rfl rfl PySem.F.fills_bool_add PySem.F.slot_bool_add PySem.F.entry_int_add (PySem.F.args_int_add_2 _ _) (give_bb i k) trivial ⟨.int _, H, I.tok _, ⟨_, rfl⟩, q⟩
/-! ### a def of *v alone, called with plain arguments -/
theorem pe_callFR {X : Cx} {CX : CXT} {k : Nat} {f : Addr} {sp : Sp} {E : XK} {x : Str} {e : Expr} {es : List Expr} {t : TA} {p pos : Pos} (F : FnR X.prog X.w X.K X.mg X.base CX k f sp) (hr : Room k X.A) (hg : Gl X x) (hm : X.mg x = some (.ref f)) (hk : PySem.W.keepIn X.K (.ref f) = true) (hx : Passes CX X E)
    (ha : PA X (e :: es) t) (hdb : (x == ("__debug__" : Str)) = false := by decide) (he : starEach (e :: es) X.env = (false, eval e X.env) :: starEach es X.env := by rfl) (hpl : (backTo pos (starEach es X.env)).any (·.1) = false := by rfl) :
    PE X (.Call (.Name x p) (e :: es) [] pos) (tCall sp [] E t) := by
  refine ⟨fun pins s σ H Q I h => ?_⟩
  refine wpAny_Call_Name_kw (ld_glob I hg hm ?_ hdb)
  refine PySem.W.callWith_K (h₀ := X.base) I.ok.mod.kin hk (thn (ha.run pos pins s σ H _ I h) fun us s1 ⟨vs, H1, I1, r, q⟩ => ⟨I1.kIn, ?_⟩) he hpl
  have q : sp (vs ++ []) H1 Q E := q
  rw [List.append_nil] at q
  exact wpAny_call (run_fnR F hr hx I1 r q)
theorem Fun.okStar {P : Program} {w : World} {K : PySem.W.Frag} {mg : Str → Option Value} {base : Heap} {x qual : Str} {st : Stmt} {f : Addr} {fd : FuncData} {N : List Str} {pv : Str} {k : Nat} {sp : Sp} (F : Fun K x qual st f fd) (S : FnScope N [pv] (defScope st))
    (hb : ∀ (kV doc pm : Value) (an : Option Addr) (cdv ct : Value) (rest : List Value), bindArgs (PySem.W.fnOf x qual (defArgs st) (defBody st) (defScope st) .none kV doc pm an cdv ct) ⟨rest, []⟩ = (newTuple rest >>= fun t => pure [(pv, t)]))
    (hbody : ∀ (cdv : Value) (A : Around) (outer : List PySem.Env) (s : Shared) (H : Hp) (vs : List V) (Q : VK) (E : XK), Room k (A.deeper (envOfC qual (defScope st) s.heap.objs.size f cdv)) → sp vs H Q E →
      ∃ t, PSs (cxOf (L2.CX P w) P w K mg base N qual (defScope st) f cdv A outer s H E) (defBody st) t ∧ t { nx := fun _ H' => Q .non H', rt := Q } (L2.start N vs) H) :
    FnR P w K mg base (L2.CX P w) (k + 1) f (fun vs H Q E => vs.length ≤ sizeLine ∧ ∀ p, H p = none → sp [.ref p] (upd H p (.tup vs)) Q E) := by
  obtain ⟨oc, od, kV, doc, pm, an, cdv, ct, osl, rfl, lk, hcd⟩ := F.ex
  refine FnR.imp (StX.fn_star (ps := []) (pv := pv) lk hcd S StX.cxUp (fun us rest hl => ?_) (fun A outer s H vs Q E hr hsp => hbody cdv A outer s H vs Q E hr hsp)) ?_
  · cases us with
    | nil => exact hb kV doc pm an cdv ct rest
    | cons _ _ => cases hl
  · intro vs H Q E ⟨h1, h2⟩
    exact ⟨[], vs, rfl, rfl, h1, h2⟩
/-! ### several clauses of one try, each with a name for the error or without -/
abbrev Suite := Addr → Value → Option Addr → TS
/-- what follows a suite whose error had the slot i -/
def offAt (i : Nat) (D : Ends) : Ends := { nx := fun u G => D.nx (u.set i none) G, rt := D.rt, bk := fun u G => D.bk (u.set i none) G, ct := fun u G => D.ct (u.set i none) G }
def wMix (K : PySem.W.Frag) (Wo : WX) (D : Ends) : List (Value × Option Nat × Suite) → WX
  | [] => Wo
  | (c, none, t) :: r => fun k d u G => ∃ y, PySem.W.exmOne K k c = some y ∧ (y = true → ∀ e, G e = none → t e k d D u G) ∧ (y = false → wMix K Wo D r k d u G)
  | (c, some i, t) :: r => fun k d u G => ∃ y, PySem.W.exmOne K k c = some y ∧ (y = true → ∀ e, G e = none → t e k d (offAt i D) (u.set i (some (.ref e))) G) ∧ (y = false → wMix K Wo D r k d u G)
inductive Clauses (X : Cx) : List ExceptHandler → List (Value × Option Nat × Suite) → Prop
  | nil : Clauses X [] []
  | bare {x : Str} {c : Value} {t : Suite} {b : Stmt} {bs : List Stmt} {p1 p2 : Pos} {hds l} (hc : Names X x c)
      (su : ∀ e oe k d pn, Zc k d oe → (∃ vs, oe.data = .fields vs) → PSs (X.suite e ((e, oe) :: pn)) (b :: bs) (t e k d)) (r : Clauses X hds l) :
      Clauses X (.ExceptHandler (some (.Name x p1)) none (b :: bs) p2 :: hds) ((c, none, t) :: l)
  | named {x n : Str} {c : Value} {i : Nat} {t : Suite} {b : Stmt} {bs : List Stmt} {p1 p2 : Pos} {hds l} (hN : X.N.Nodup) (hi : X.N[i]? = some n) (hl : X.env.kindOf n = some .local) (hc : Names X x c)
      (su : ∀ e oe k d pn, Zc k d oe → (∃ vs, oe.data = .fields vs) → PSs (X.suite e ((e, oe) :: pn)) (b :: bs) (t e k d)) (r : Clauses X hds l) :
      Clauses X (.ExceptHandler (some (.Name x p1)) (some n) (b :: bs) p2 :: hds) ((c, some i, t) :: l)
theorem ps_try_mix {X : Cx} {body : List Stmt} {h1 : ExceptHandler} {hds : List ExceptHandler} {l : List (Value × Option Nat × Suite)} {pos : Pos} {tb : WX → TS} {Wo : WX} (hs : X.stack = X.env :: X.outer) (hf : X.env.frame = some X.env.locals) (tk : Takes X Wo)
    (hb : ∀ W pn xe, Takes (X.tr pn xe) W → PassesOwn (model X.prog X.w) X.A X.env xe → PSs (X.tr pn xe) body (tb W)) (hh : Clauses X (h1 :: hds) l) :
    PS X (.Try body (h1 :: hds) [] [] pos) (fun D u G => tb (wMix X.K Wo D l) D u G) := by
  constructor
  intro pins s u G D I h
  have ok := I.ok
  have frm : X.A.frames = some (X.env :: X.outer) := by rw [ok.frames, hs]
  refine wpAny_Try_except (wpAny_mono ((hb (wMix X.K Wo D l) (X.pn ++ pins) (fun e s₁ => wpAny (model X.prog X.w) X.A (noteFrame e X.env) (fun _ s₂ => wpAny (model X.prog X.w) X.A (setFlight e none) (fun _ s₃ => wpAny (model X.prog X.w) X.A (handleBy e X.env (h1 :: hds)) (SP X pins D) X.xe s₃) X.xe s₂) X.xe s₁) (fun v s' xx => ?_) PassesOwn.looking).run [] s u G D (I.toTry _) h) (fun f s1 z => ?_) (fun _ _ z => z))
  · obtain ⟨e, B, sI, _, u', G', k, d, rfl, J0, nb, up, sky, na, os, ag, wish⟩ := xx
    have J : Inv X pins u' G' sI := J0.ofTry ok
    refine Sky.land Zc.steady frm hf (by rw [← hs]; exact sky) fun h3 fl up3 => ?_
    have up13 := up.trans up3
    obtain ⟨o3, _, g3, z3, d3⟩ := fl.there
    have far : e ∉ frs (X.env :: X.outer) := by
      intro m
      obtain ⟨_, o', g', no⟩ := fl.2.2.1.mem m
      cases g3.symm.trans g'
      exact no _ d3
    have nl : e ≠ X.env.locals := by
      intro z
      exact far (List.mem_filterMap.mpr ⟨X.env, List.mem_cons_self, by rw [hf, z]⟩)
    have nf : e ∉ X.fs := by
      intro m
      obtain ⟨v, hv, q⟩ := List.mem_filterMap.mp m
      exact far (List.mem_filterMap.mpr ⟨v, List.mem_cons_of_mem _ hv, q⟩)
    have J3 : Inv X pins u' G' { s' with heap := h3 } := J.landed nb fl.1 up13 os ag
    have S3 := J3.suite g3 d3 na nl nf
    have TY : PySem.W.Looks (model X.prog X.w) h3 (typeOf (.ref e)) k := fun _ _ _ _ kk q => wpAny_typeOf_ref (kk _ _ g3) (z3.1 ▸ q)
    have name : ∀ {x : Str} {c : Value} {p1 : Pos}, Names X x c → ∀ {Q : Value → Shared → Prop} {E : Value → Shared → Prop}, Q c { s' with heap := h3 } → wpAny (model X.prog X.w) (X.A.mark (some (.ref e))) (eval (.Name x p1) X.env) Q E { s' with heap := h3 } := by
      rintro x c p1 ⟨g, nd, m | ⟨m, bv, nn⟩⟩ Q E q
      · exact ld_glob (X := X.suite e ((e, o3) :: (X.pn ++ pins))) S3 g m q nd
      · exact ld_blt (X := X.suite e ((e, o3) :: (X.pn ++ pins))) S3 g m bv q nn nd
    suffices go : ∀ {hd : List ExceptHandler} {l' : List (Value × Option Nat × Suite)}, Clauses X hd l' → wMix X.K Wo D l' k d u' G' → wpAny (model X.prog X.w) X.A (handleBy (.ref e) X.env hd) (SP X pins D) X.xe { s' with heap := h3 } from go hh wish
    intro hd l' cl
    induction cl with
    | nil =>
      intro wi
      refine wpAny_handleBy_nil ?_
      obtain ⟨_, _, _, oe, vs, T, oT, tt, he, hz, hdd, hT, hr⟩ := id fl
      unfold PySem.passOn
      refine wpAny_bind (wpAny_field he hdd hT ?_)
      rw [if_neg (by simp : ¬ ((Value.ref T == Value.none) = true))]
      have last : wpAny (model X.prog X.w) X.A (setFlight (.ref e) X.env.frame) (fun _ s4 => wpAny (model X.prog X.w) X.A (throw (.ref e) : Sem Flow) (SP X pins D) X.xe s4) X.xe { s' with heap := h3 } := by
        rw [hf]
        refine HandSPX.setFlight_upZ fl fun h4 hh4 up4 => wpAny_throw (tk _ _ ⟨e, B, sI, pins, u', G', k, d, rfl, J, nb, up13.trans up4, .inr (.inr ?_), na, os, ag, wi⟩)
        rw [hs]; exact hh4
      first | exact wpAny_bind (wpAny_pure (wpAny_bind last)) | exact wpAny_bind last
    | bare hc su r ih =>
      rintro ⟨y, ey, yes, no⟩
      refine wpAny_handleBy_cons (codeAny_handlers_test (name hc ((PySem.W.exm_one (M := model X.prog X.w) J3.kIn TY ey).here ?_))) (fun q => by cases q)
      cases y with
      | false => exact ih (no rfl)
      | true =>
        refine codeAny_handlers_suite (HandSPX.lands_againZ fl fun h4 fl4 up4 => ?_)
        obtain ⟨o4, _, g4, z4, d4⟩ := fl4.there
        have S4 := (J.landed (s' := { s' with heap := h4 }) nb fl4.1 (up13.trans up4) os ag).suite g4 d4 na nl nf
        refine wpAny_mono ((su e o4 k d (X.pn ++ pins) z4 ⟨_, d4⟩).run [] _ _ G' _ S4 (yes rfl e na)) (fun f s6 z => ?_) (fun _ _ z => z.elim)
        cases f with
        | ret v => obtain ⟨v6, u6, G6, S6, r6, q6⟩ := z; exact ⟨v6, u6, G6, S6.unsuite ok, r6, q6⟩
        | _ => obtain ⟨u6, G6, S6, q6⟩ := z; exact ⟨u6, G6, S6.unsuite ok, q6⟩
    | @named _ n c i _ _ _ _ p2 _ _ hN hi hl hc su r ih =>
      rintro ⟨y, ey, yes, no⟩
      refine wpAny_handleBy_cons (codeAny_handlers_test (name hc ((PySem.W.exm_one (M := model X.prog X.w) J3.kIn TY ey).here ?_))) (fun q => by cases q)
      cases y with
      | false => exact ih (no rfl)
      | true =>
        refine codeAny_handlers_suite_as (HandSPX.lands_againZ fl fun h4 fl4 up4 => ?_)
        obtain ⟨o4, _, g4, z4, d4⟩ := fl4.there
        have S4 := (J.landed (s' := { s' with heap := h4 }) nb fl4.1 (up13.trans up4) os ag).suite g4 d4 na nl nf
        refine store_ok (X := X.suite e ((e, o4) :: (X.pn ++ pins))) (v := .ref e) S4 hN hi (.inl hl) rfl (fun s5 S5 => wpAny_mono ((su e o4 k d (X.pn ++ pins) z4 ⟨_, d4⟩).run [] s5 _ G' _ S5 (yes rfl e na)) (fun f s6 z => ?_) (fun _ _ z => z.elim)) (.inr hl)
        have off : ∀ {u6 : L2.St} {G6 : Hp} {Q : Shared → Prop}, Inv (X.suite e ((e, o4) :: (X.pn ++ pins))) [] u6 G6 s6 → (∀ s7, Inv X pins (u6.set i none) G6 s7 → Q s7) → wpAny (model X.prog X.w) X.A (do bindName X.env n .none; unbindBehindTheSuite X.env n p2) (fun _ s7 => Q s7) X.xe s6 := fun S6 hq => gone_ok (S6.unsuite ok) hN hi hl hq
        cases f with
        | ret v => obtain ⟨v6, u6, G6, S6, r6, q6⟩ := z; exact off S6 fun s7 J7 => ⟨v6, _, G6, J7, r6, q6⟩
        | _ => obtain ⟨u6, G6, S6, q6⟩ := z; exact off S6 fun s7 J7 => ⟨_, G6, J7, q6⟩
  · cases f with
    | next => obtain ⟨u6, G6, J6, q6⟩ := z; exact wpAny_execs_nil ⟨u6, G6, J6.ofTry ok, q6⟩
    | ret v => obtain ⟨v6, u6, G6, J6, r6, q6⟩ := z; exact ⟨v6, u6, G6, J6.ofTry ok, r6, q6⟩
    | _ => obtain ⟨u6, G6, J6, q6⟩ := z; exact ⟨u6, G6, J6.ofTry ok, q6⟩
/-! ### isinstance of a caught error, of one class of several -/
def rIsEs (K : PySem.W.Frag) (k : Value) (d : Option Addr) (e : Addr) : List V → Hp → VK → Prop := fun xs H Q =>
  ∃ (D tp : Addr) (cs : List V) (us : List Value) (b : Bool), k = .ref D ∧ d = none ∧ ExcC K D ∧ xs = [.ref e, .ref tp] ∧ H tp = some (.tup cs) ∧ Paired ClsV cs us ∧ PySem.W.kitAny K (.ref D) us = some b ∧ Q (.bl b) H
theorem call_isEs {X : Cx} {K : PySem.W.Frag} {e : Addr} {oe : Obj} {k : Value} {d : Option Addr} {pn : List (Addr × Obj)} (hK : X.K = K) (hz : Zc k d oe) (hf : ∃ vs, oe.data = .fields vs) : CallR (X.suite e ((e, oe) :: pn)) (.builtin "isinstance") (rIsEs K k d e) := by
  subst hK
  intro pins s σ H xs us Q I r h
  obtain ⟨D, tp, cs, ws, b, rfl, rfl, C, rfl, hT, pr, ka, q⟩ := h
  obtain ⟨u1, u2, rfl, r1, r2⟩ := vals2 r
  cases r1
  cases (show u2 = Value.ref tp from r2)
  obtain ⟨_, its, rv, o, o1, o2, n, o3⟩ := (show ObjOk _ _ H s.heap tp (.tup cs) from I.hok tp _ hT)
  have eq := ClsV.all pr rv
  subst eq
  obtain ⟨oc, od, dt, sl⟩ := o
  simp only at o2 o3
  subst o2 o3
  obtain ⟨vs, hv⟩ := hf
  have there := (I.pin (e, oe) (List.mem_append.mpr (.inl List.mem_cons_self))).1
  have J : PySem.W.InstAt s.heap e oe D none := by
    obtain ⟨_, _, _, _⟩ := oe
    obtain ⟨z1, z2⟩ := hz
    dsimp only at z1 z2 hv
    subst z1 z2 hv
    exact ⟨there, rfl, rfl, trivial⟩
  exact PySem.W.kia_tup (PySem.W.handS_kitx_exc C.hg C.hk C.hs C.hd C.ha C.hn C.ht C.hm) I.kIn J o1 ka (fun z => nomatch z) fun tk => ⟨.bl b, H, I.kept (t' := tk) fun _ _ z => z, rfl, q⟩
/-! ## the data layer: what stands in frozen parts of the heap as plain data, what is still written to as cells -/
inductive D where
  | non
  | bl (b : Bool)
  | int (i : Int)
  | str (x : Str)
  | tup (xs : List D)
  | lst (xs : List D)
  | scr (xs : List D)
  | obj (C : Addr) (ns : List Str) (ds : List D)
  | dic
  | ty (n : String)
  | cls (C : Addr)
mutual
/-- in the frozen heap G the value v is the data d -/
inductive Rep (K : PySem.W.Frag) (G : Hp) : D → V → Prop
  | non : Rep K G .non .non
  | bl (b : Bool) : Rep K G (.bl b) (.bl b)
  | int (i : Int) : Rep K G (.int i) (.int i)
  | str (x : Str) : Rep K G (.str x) (.str x)
  | tup {a : Addr} {vs : List V} {ds : List D} : SqT K G a vs → Reps K G ds vs → Rep K G (.tup ds) (.ref a)
  | lst {a : Addr} {vs : List V} {ds : List D} : G a = some (.lst vs) → Reps K G ds vs → Rep K G (.lst ds) (.ref a)
  | scr {a : Addr} {vs : List V} {ds : List D} : SqL K G a vs → Reps K G ds vs → Rep K G (.scr ds) (.ref a)
  | obj {a C dx : Addr} {ns : List Str} {vs : List V} {ds : List D} : G a = some (.ins C dx (ns.zip vs)) → ns.length = ds.length → Reps K G ds vs → Rep K G (.obj C ns ds) (.ref a)
  | dic {a : Addr} {kvs : List (Key × V)} : G a = some (.dK kvs) → Rep K G .dic (.ref a)
  | ty (n : String) : Rep K G (.ty n) (.ty n)
  | cls (C : Addr) : Rep K G (.cls C) (.ref C)
inductive Reps (K : PySem.W.Frag) (G : Hp) : List D → List V → Prop
  | nil : Reps K G [] []
  | cons {d : D} {ds : List D} {v : V} {vs : List V} : Rep K G d v → Reps K G ds vs → Reps K G (d :: ds) (v :: vs)
end
section
variable {K : PySem.W.Frag} {G G' H : Hp} {v : V} {vs : List V} {d : D} {ds : List D}
theorem Rep.nonE (h : Rep K G .non v) : v = .non := by cases h; rfl
theorem Rep.blE {b : Bool} (h : Rep K G (.bl b) v) : v = .bl b := by cases h; rfl
theorem Rep.intE {i : Int} (h : Rep K G (.int i) v) : v = .int i := by cases h; rfl
theorem Rep.strE {x : Str} (h : Rep K G (.str x) v) : v = .str x := by cases h; rfl
theorem Rep.tupE (h : Rep K G (.tup ds) v) : ∃ a vs, v = .ref a ∧ SqT K G a vs ∧ Reps K G ds vs := by cases h with | tup a b => exact ⟨_, _, rfl, a, b⟩
theorem Rep.lstE (h : Rep K G (.lst ds) v) : ∃ a vs, v = .ref a ∧ G a = some (.lst vs) ∧ Reps K G ds vs := by cases h with | lst a b => exact ⟨_, _, rfl, a, b⟩
theorem Rep.scrE (h : Rep K G (.scr ds) v) : ∃ a vs, v = .ref a ∧ SqL K G a vs ∧ Reps K G ds vs := by cases h with | scr a b => exact ⟨_, _, rfl, a, b⟩
theorem Rep.objE {C : Addr} {ns : List Str} (h : Rep K G (.obj C ns ds) v) : ∃ a dx vs, v = .ref a ∧ G a = some (.ins C dx (ns.zip vs)) ∧ ns.length = ds.length ∧ Reps K G ds vs := by cases h with | obj a b c => exact ⟨_, _, _, rfl, a, b, c⟩
theorem Rep.dicE (h : Rep K G .dic v) : ∃ a kvs, v = .ref a ∧ G a = some (.dK kvs) := by cases h with | dic a => exact ⟨_, _, rfl, a⟩
theorem Reps.nilE (h : Reps K G [] vs) : vs = [] := by cases h; rfl
theorem Reps.consE (h : Reps K G (d :: ds) vs) : ∃ v ws, vs = v :: ws ∧ Rep K G d v ∧ Reps K G ds ws := by cases h with | cons a b => exact ⟨_, _, rfl, a, b⟩
theorem Same.seqT {a : Addr} {xs : List V} (e : Same G G') (h : SqT K G a xs) : SqT K G' a xs := by
  rcases h with (h | ⟨o, h⟩) | h
  · exact .inl (.inl (e _ _ h))
  · exact .inl (.inr ⟨o, e _ _ h⟩)
  · exact .inr h
mutual
theorem Rep.mono (s : Same G G') : ∀ (d : D) (v : V), Rep K G d v → Rep K G' d v
  | .non, _, h => by cases h; exact .non
  | .bl _, _, h => by cases h; exact .bl _
  | .int _, _, h => by cases h; exact .int _
  | .str _, _, h => by cases h; exact .str _
  | .tup ds, _, h => by cases h with | tup a b => exact .tup (Same.seqT s a) (Reps.mono s ds _ b)
  | .lst ds, _, h => by cases h with | lst a b => exact .lst (s _ _ a) (Reps.mono s ds _ b)
  | .scr ds, _, h => by cases h with | scr a b => exact .scr (Same.seq s a) (Reps.mono s ds _ b)
  | .obj C ns ds, _, h => by cases h with | obj a b c => exact .obj (s _ _ a) b (Reps.mono s ds _ c)
  | .dic, _, h => by cases h with | dic a => exact .dic (s _ _ a)
  | .ty _, _, h => by cases h; exact .ty _
  | .cls _, _, h => by cases h; exact .cls _
theorem Reps.mono (s : Same G G') : ∀ (ds : List D) (vs : List V), Reps K G ds vs → Reps K G' ds vs
  | [], _, h => by cases h; exact .nil
  | d :: ds, _, h => by cases h with | cons a b => exact .cons (Rep.mono s d _ a) (Reps.mono s ds _ b)
end
theorem Reps.length : ∀ {ds : List D} {vs : List V}, Reps K G ds vs → vs.length = ds.length
  | [], _, h => by cases h; rfl
  | _ :: _, _, h => by cases h with | cons _ b => exact congrArg (· + 1) (Reps.length b)
theorem Reps.get : ∀ {ds : List D} {vs : List V} {i : Nat} {d : D}, Reps K G ds vs → ds[i]? = some d → ∃ v, vs[i]? = some v ∧ Rep K G d v
  | [], _, _, _, _, e => by simp at e
  | _ :: _, _, 0, _, h, e => by cases h with | cons a _ => simp at e; subst e; exact ⟨_, rfl, a⟩
  | _ :: _, _, i + 1, _, h, e => by
    cases h with
    | cons _ b =>
      obtain ⟨v, q, r⟩ := Reps.get (i := i) b (by simpa using e)
      exact ⟨v, by simpa using q, r⟩
theorem Reps.append : ∀ {ds es : List D} {vs ws : List V}, Reps K G ds vs → Reps K G es ws → Reps K G (ds ++ es) (vs ++ ws)
  | [], _, _, _, h, k => by cases h; exact k
  | _ :: _, _, _, _, h, k => by cases h with | cons a b => exact .cons a (b.append k)
theorem Reps.drop : ∀ {ds : List D} {vs : List V} (n : Nat), Reps K G ds vs → Reps K G (ds.drop n) (vs.drop n)
  | _, _, 0, h => h
  | [], _, _ + 1, h => by cases h; exact .nil
  | _ :: _, _, n + 1, h => by cases h with | cons _ b => exact Reps.drop n b
theorem Reps.take : ∀ {ds : List D} {vs : List V} (n : Nat), Reps K G ds vs → Reps K G (ds.take n) (vs.take n)
  | _, _, 0, _ => .nil
  | [], _, _ + 1, h => by cases h; exact .nil
  | _ :: _, _, n + 1, h => by cases h with | cons a b => exact .cons a (Reps.take n b)
theorem Reps.set {d : D} {v : V} (r : Rep K G d v) : ∀ {ds : List D} {vs : List V} (i : Nat), Reps K G ds vs → Reps K G (ds.set i d) (vs.set i v)
  | [], _, _, h => by cases h; exact .nil
  | _ :: _, _, 0, h => by cases h with | cons _ b => exact .cons r b
  | _ :: _, _, i + 1, h => by cases h with | cons a b => exact .cons a (Reps.set r i b)
theorem Reps.reverse {ds : List D} {vs : List V} (h : Reps K G ds vs) : Reps K G ds.reverse vs.reverse := by
  induction ds generalizing vs with
  | nil => cases h; exact .nil
  | cons d ds ih => cases h with | cons a b => rw [List.reverse_cons, List.reverse_cons]; exact (ih b).append (.cons a .nil)
theorem Reps.rep {ds : List D} {vs : List V} (h : Reps K G ds vs) : ∀ n : Nat, Reps K G (List.replicate n ds).flatten (List.replicate n vs).flatten
  | 0 => .nil
  | n + 1 => by rw [List.replicate_succ, List.replicate_succ, List.flatten_cons, List.flatten_cons]; exact h.append (Reps.rep h n)
theorem Reps.ofV {ns : List Int} : Reps K G (ns.map D.int) (ns.map V.int) := by
  induction ns with
  | nil => exact .nil
  | cons n ns ih => exact .cons (.int n) ih
end
/-! no list and no object within: it can't hold a list that is still written to -/
mutual
def hard : D → Bool
  | .tup ds => hards ds
  | .lst _ => false
  | .scr _ => false
  | .obj _ _ ds => hards ds
  | _ => true
def hards : List D → Bool
  | [] => true
  | d :: ds => hard d && hards ds
end
section
variable {K : PySem.W.Frag} {G G' : Hp}
theorem SqT.hard {a : Addr} {vs : List V} (s : ∀ a o, G a = some o → (G' a = some o) ∨ (∃ xs, o = .lst xs)) (h : SqT K G a vs) : SqT K G' a vs := by
  rcases h with (h | ⟨o, h⟩) | h
  · rcases s _ _ h with z | ⟨xs, z⟩
    · exact .inl (.inl z)
    · cases z
  · rcases s _ _ h with z | ⟨xs, z⟩
    · exact .inl (.inr ⟨o, z⟩)
    · cases z
  · exact .inr h
mutual
theorem Rep.hard (s : ∀ a o, G a = some o → (G' a = some o) ∨ (∃ xs, o = .lst xs)) : ∀ (d : D) (v : V), LK.hard d = true → Rep K G d v → Rep K G' d v
  | .non, _, _, h => by cases h; exact .non
  | .bl _, _, _, h => by cases h; exact .bl _
  | .int _, _, _, h => by cases h; exact .int _
  | .str _, _, _, h => by cases h; exact .str _
  | .tup ds, _, k, h => by cases h with | tup a b => exact .tup (SqT.hard s a) (Reps.hard s ds _ (by rw [LK.hard] at k; exact k) b)
  | .lst ds, _, k, h => by rw [LK.hard] at k; cases k
  | .scr ds, _, k, h => by rw [LK.hard] at k; cases k
  | .obj C ns ds, _, k, h => by
    cases h with
    | obj a b c =>
      rcases s _ _ a with z | ⟨xs, z⟩
      · exact .obj z b (Reps.hard s ds _ (by rw [LK.hard] at k; exact k) c)
      · cases z
  | .dic, _, k, h => by
    cases h with
    | dic a =>
      rcases s _ _ a with z | ⟨xs, z⟩
      · exact .dic z
      · cases z
  | .ty _, _, _, h => by cases h; exact .ty _
  | .cls _, _, _, h => by cases h; exact .cls _
theorem Reps.hard (s : ∀ a o, G a = some o → (G' a = some o) ∨ (∃ xs, o = .lst xs)) : ∀ (ds : List D) (vs : List V), hards ds = true → Reps K G ds vs → Reps K G' ds vs
  | [], _, _, h => by cases h; exact .nil
  | d :: ds, _, k, h => by
    cases h with
    | cons a b =>
      rw [hards, Bool.and_eq_true] at k
      exact .cons (Rep.hard s d _ k.1 a) (Reps.hard s ds _ k.2 b)
end
end
/-- what a slot holds: data, or a cell -/
inductive AV where
  | dat (d : D)
  | cel (j : Nat)
/-- what is still written to -/
inductive Cell where
  | gone
  | lst (ds : List D)
  | drw
  | ins (C : Addr) (ns : List Str) (ds : List D)
def IsSt (xs : List V) : Prop := (∃ x, xs = [.int x]) ∨ ∃ x y z, xs = [.int x, .int y, .int z]
structure En where
  sl : List (Option AV)
  ce : List Cell
/-- what stands ahead of the def's call, the data it was handed, what is wanted of its errors -/
structure Fx where
  Fr : Hp
  G0 : Hp
  E : XK
  ex : Addr → Prop
  hE : ∀ C H, ex C → Same Fr H → E (.ref C) none H
  fr : V → Prop
  as0 : List Addr
def RepA (K : PySem.W.Frag) (G : Hp) (as : List Addr) : AV → V → Prop
  | .dat d, v => Rep K G d v
  | .cel j, v => ∃ a, as[j]? = some a ∧ v = .ref a
def CellOk (K : PySem.W.Frag) (G H : Hp) (a : Addr) : Cell → Prop
  | .gone => True
  | .lst ds => G a = none ∧ ∃ vs, H a = some (.lst vs) ∧ Reps K G ds vs
  | .drw => G a = none ∧ ∃ xs, H a = some (.lst xs) ∧ IsSt xs
  | .ins C ns ds => G a = none ∧ ∃ dx vs, H a = some (.ins C dx (ns.zip vs)) ∧ ns.length = ds.length ∧ Reps K G ds vs
structure EnvOk (K : PySem.W.Frag) (F : Fx) (ρ : En) (as : List Addr) (σ : L2.St) (H G : Hp) : Prop where
  gh : Same G H
  fh : Same F.Fr H
  fg : ∀ a o, G a = some o → F.G0 a = some o ∨ F.Fr a = none
  g0 : Same F.G0 G
  nd : as.Nodup
  pr : F.as0 <+: as
  ln : as.length = ρ.ce.length
  ce : ∀ (j : Nat) (c : Cell) (a : Addr), ρ.ce[j]? = some c → as[j]? = some a → F.Fr a = none ∧ (∃ o, H a = some o) ∧ CellOk K G H a c
  sn : σ.length = ρ.sl.length
  sl : ∀ (i : Nat) (av : AV), ρ.sl[i]? = some (some av) → ∃ v, σ[i]? = some (some v) ∧ RepA K G as av v
/-- more is frozen, more cells -/
structure Gr (G : Hp) (as : List Addr) (G' : Hp) (as' : List Addr) : Prop where
  g : Same G G'
  a : ∃ r, as' = as ++ r
theorem Gr.refl {G : Hp} {as : List Addr} : Gr G as G as := ⟨Same.refl _, [], by simp⟩
theorem Gr.trans {G G1 G2 : Hp} {as as1 as2 : List Addr} (x : Gr G as G1 as1) (y : Gr G1 as1 G2 as2) : Gr G as G2 as2 := by
  obtain ⟨g, r, rfl⟩ := x
  obtain ⟨g2, r2, rfl⟩ := y
  exact ⟨Same.trans g g2, r ++ r2, by simp⟩
theorem RepA.mono {K : PySem.W.Frag} {G G' : Hp} {as as' : List Addr} (g : Gr G as G' as') : ∀ {av : AV} {v : V}, RepA K G as av v → RepA K G' as' av v
  | .dat d, v, h => Rep.mono g.g d v h
  | .cel j, v, ⟨a, e, q⟩ => by
    obtain ⟨_, r, rfl⟩ := g
    exact ⟨a, by rw [List.getElem?_append_left (List.getElem?_eq_some_iff.mp e).1]; exact e, q⟩
inductive RepAs (K : PySem.W.Frag) (G : Hp) (as : List Addr) : List AV → List V → Prop
  | nil : RepAs K G as [] []
  | cons {x : AV} {xs : List AV} {v : V} {vs : List V} : RepA K G as x v → RepAs K G as xs vs → RepAs K G as (x :: xs) (v :: vs)
theorem RepAs.mono {K : PySem.W.Frag} {G G' : Hp} {as as' : List Addr} (g : Gr G as G' as') {xs : List AV} {vs : List V} (h : RepAs K G as xs vs) : RepAs K G' as' xs vs := by
  induction h with
  | nil => exact .nil
  | cons a _ ih => exact .cons (a.mono g) ih
theorem RepAs.length {K : PySem.W.Frag} {G : Hp} {as : List Addr} {xs : List AV} {vs : List V} (h : RepAs K G as xs vs) : vs.length = xs.length := by
  induction h with
  | nil => rfl
  | cons _ _ ih => exact congrArg (· + 1) ih
theorem RepAs.append {K : PySem.W.Frag} {G : Hp} {as : List Addr} {xs ys : List AV} {vs ws : List V} (h : RepAs K G as xs vs) (k : RepAs K G as ys ws) : RepAs K G as (xs ++ ys) (vs ++ ws) := by
  induction h with
  | nil => exact k
  | cons a _ ih => exact .cons a ih
/-! ### the wishes, by data -/
structure KS where
  nx : En → Prop
  rt : AV → En → Prop
  bk : En → Prop := fun _ => False
  ct : En → Prop := fun _ => False
section
variable (K : PySem.W.Frag) (F : Fx)
/-- what is wanted of a value that has come -/
def Got (ρ : En) (as : List Addr) (σ : L2.St) (G : Hp) (k : AV → En → Prop) (Q : VK) : Prop := ∀ av ρ' v as' H' G', k av ρ' → EnvOk K F ρ' as' σ H' G' → Gr G as G' as' → RepA K G' as' av v → Q v H'
def WpE (t : TE) (ρ : En) (k : AV → En → Prop) : Prop := ∀ as σ H G, EnvOk K F ρ as σ H G → ∀ Q : VK, Got K F ρ as σ G k Q → t σ H Q
def WpT (t : TT) (ρ : En) (k : Bool → En → Prop) : Prop := ∀ as σ H G, EnvOk K F ρ as σ H G → ∀ Q : Bool → Hp → Prop, (∀ b ρ' as' H' G', k b ρ' → EnvOk K F ρ' as' σ H' G' → Gr G as G' as' → Q b H') → t σ H Q
def WpA (t : TA) (ρ : En) (k : List AV → En → Prop) : Prop := ∀ as σ H G, EnvOk K F ρ as σ H G → ∀ Q : List V → Hp → Prop, (∀ avs ρ' vs as' H' G', k avs ρ' → EnvOk K F ρ' as' σ H' G' → Gr G as G' as' → RepAs K G' as' avs vs → Q vs H') → t σ H Q
def WpR (r : R2) (x y : AV) (ρ : En) (k : AV → En → Prop) : Prop := ∀ as σ H G vx vy, EnvOk K F ρ as σ H G → RepA K G as x vx → RepA K G as y vy → ∀ Q : VK, Got K F ρ as σ G k Q → r vx vy H Q
def WpU (r : V → Hp → VK → Prop) (x : AV) (ρ : En) (k : AV → En → Prop) : Prop := ∀ as σ H G vx, EnvOk K F ρ as σ H G → RepA K G as x vx → ∀ Q : VK, Got K F ρ as σ G k Q → r vx H Q
def WpC (r : List V → Hp → VK → Prop) (xs : List AV) (ρ : En) (k : AV → En → Prop) : Prop := ∀ as σ H G vs, EnvOk K F ρ as σ H G → RepAs K G as xs vs → ∀ Q : VK, Got K F ρ as σ G k Q → r vs H Q
def WpM (r : V → List V → Hp → VK → Prop) (x : AV) (xs : List AV) (ρ : En) (k : AV → En → Prop) : Prop := ∀ as σ H G v vs, EnvOk K F ρ as σ H G → RepA K G as x v → RepAs K G as xs vs → ∀ Q : VK, Got K F ρ as σ G k Q → r v vs H Q
def WpSp (sp : Sp) (E : L2.St → XK) (xs : List AV) (ρ : En) (k : AV → En → Prop) : Prop := ∀ as σ H G vs, EnvOk K F ρ as σ H G → RepAs K G as xs vs → ∀ Q : VK, Got K F ρ as σ G k Q → sp vs H Q (E σ)
def WpG (g : TG) (x : AV) (ρ : En) (k : En → Prop) : Prop := ∀ as σ H G v, EnvOk K F ρ as σ H G → RepA K G as x v → ∀ Q : L2.St → Hp → Prop, (∀ ρ' as' σ' H' G', k ρ' → EnvOk K F ρ' as' σ' H' G' → Gr G as G' as' → Q σ' H') → g v σ H Q
def WpGs (g : TGs) (xs : List AV) (ρ : En) (k : En → Prop) : Prop := ∀ as σ H G vs, EnvOk K F ρ as σ H G → RepAs K G as xs vs → ∀ Q : L2.St → Hp → Prop, (∀ ρ' as' σ' H' G', k ρ' → EnvOk K F ρ' as' σ' H' G' → Gr G as G' as' → Q σ' H') → g vs σ H Q
/-- the ends of a statement, by data -/
structure EndsOk (as : List Addr) (G : Hp) (k : KS) (D : Ends) : Prop where
  nx : ∀ ρ as' σ H G', k.nx ρ → EnvOk K F ρ as' σ H G' → Gr G as G' as' → D.nx σ H
  rt : ∀ av ρ v as' σ H G', k.rt av ρ → EnvOk K F ρ as' σ H G' → Gr G as G' as' → RepA K G' as' av v → D.rt v H
  bk : ∀ ρ as' σ H G', k.bk ρ → EnvOk K F ρ as' σ H G' → Gr G as G' as' → D.bk σ H
  ct : ∀ ρ as' σ H G', k.ct ρ → EnvOk K F ρ as' σ H G' → Gr G as G' as' → D.ct σ H
  fr : ∀ v H, F.fr v → D.rt v H
theorem EndsOk.grow {as as1 : List Addr} {G G1 : Hp} {k : KS} {D : Ends} (q : EndsOk K F as G k D) (g : Gr G as G1 as1) : EndsOk K F as1 G1 k D :=
  ⟨fun ρ as' σ H G' a b c => q.nx ρ as' σ H G' a b (g.trans c), fun av ρ v as' σ H G' a b c d => q.rt av ρ v as' σ H G' a b (g.trans c) d, fun ρ as' σ H G' a b c => q.bk ρ as' σ H G' a b (g.trans c), fun ρ as' σ H G' a b c => q.ct ρ as' σ H G' a b (g.trans c), q.fr⟩
def WpS (t : TS) (ρ : En) (k : KS) : Prop := ∀ as σ H G, EnvOk K F ρ as σ H G → ∀ D : Ends, EndsOk K F as G k D → t D σ H
end
/-! ### rules of the data layer: expressions -/
section
variable {K : PySem.W.Frag} {F : Fx} {ρ : En} {k : AV → En → Prop} {kb : Bool → En → Prop} {ks : KS} {t u : TS} {ta tb te : TE} {tt tu : TT}
theorem Got.imp {as : List Addr} {σ : L2.St} {G : Hp} {ρ1 : En} {as1 : List Addr} {G1 : Hp} {k1 : AV → En → Prop} {Q : VK} (g : Got K F ρ as σ G k Q) (gr : Gr G as G1 as1) (h : ∀ av ρ', k1 av ρ' → k av ρ') : Got K F ρ1 as1 σ G1 k1 Q :=
  fun av ρ' v as' H' G' hk e gr' r => g av ρ' v as' H' G' (h _ _ hk) e (gr.trans gr') r
theorem WpE.imp {k' : AV → En → Prop} (h : WpE K F te ρ k) (i : ∀ av ρ', k av ρ' → k' av ρ') : WpE K F te ρ k' := fun as σ H G e Q q => h as σ H G e Q (q.imp .refl i)
theorem we_var {i : Nat} {av : AV} (h : ρ.sl[i]? = some (some av)) (hk : k av ρ) : WpE K F (tVar i) ρ k := fun as σ H G e Q q => by
  obtain ⟨v, hv, r⟩ := e.sl i av h
  exact ⟨v, hv, q av ρ v as H G hk e .refl r⟩
theorem we_ci {i : Int} (hk : k (.dat (.int i)) ρ) : WpE K F (tC (.int i)) ρ k := fun as σ H G e Q q => q _ ρ _ as H G hk e .refl (Rep.int i)
theorem we_cb {b : Bool} (hk : k (.dat (.bl b)) ρ) : WpE K F (tC (.bl b)) ρ k := fun as σ H G e Q q => q _ ρ _ as H G hk e .refl (Rep.bl b)
theorem we_cn (hk : k (.dat .non) ρ) : WpE K F (tC .non) ρ k := fun as σ H G e Q q => q _ ρ _ as H G hk e .refl Rep.non
theorem we_cs {x : Str} (hk : k (.dat (.str x)) ρ) : WpE K F (tC (.str x)) ρ k := fun as σ H G e Q q => q _ ρ _ as H G hk e .refl (Rep.str x)
theorem we_ct {n : String} (hk : k (.dat (.ty n)) ρ) : WpE K F (tC (.ty n)) ρ k := fun as σ H G e Q q => q _ ρ _ as H G hk e .refl (Rep.ty n)
/-- a constant of the module -/
theorem we_cr {a : Addr} {d : D} (h : ∀ G, Rep K G d (.ref a)) (hk : k (.dat d) ρ) : WpE K F (tC (.ref a)) ρ k := fun as σ H G e Q q => q _ ρ _ as H G hk e .refl (h G)
theorem we_op {r : R2} (h : WpE K F ta ρ fun x ρ1 => WpE K F tb ρ1 fun y ρ2 => WpR K F r x y ρ2 k) : WpE K F (tOp r ta tb) ρ k := fun as σ H G e Q q =>
  h as σ H G e _ fun x ρ1 vx as1 H1 G1 h1 e1 g1 r1 => h1 as1 σ H1 G1 e1 _ fun y ρ2 vy as2 H2 G2 h2 e2 g2 r2 => h2 as2 σ H2 G2 vx vy e2 (r1.mono g2) r2 Q (q.imp (g1.trans g2) fun _ _ z => z)
theorem we_un {r : V → Hp → VK → Prop} (h : WpE K F ta ρ fun x ρ1 => WpU K F r x ρ1 k) : WpE K F (tUn r ta) ρ k := fun as σ H G e Q q =>
  h as σ H G e _ fun x ρ1 vx as1 H1 G1 h1 e1 g1 r1 => h1 as1 σ H1 G1 vx e1 r1 Q (q.imp g1 fun _ _ z => z)
theorem we_tCB {r : List V → Hp → VK → Prop} {t : TA} (h : WpA K F t ρ fun xs ρ1 => WpC K F r xs ρ1 k) : WpE K F (tCB r t) ρ k := fun as σ H G e Q q =>
  h as σ H G e _ fun xs ρ1 vs as1 H1 G1 h1 e1 g1 r1 => h1 as1 σ H1 G1 vs e1 r1 Q (q.imp g1 fun _ _ z => z)
theorem wa_nil {k : List AV → En → Prop} (hk : k [] ρ) : WpA K F tNil ρ k := fun as σ H G e Q q => q [] ρ [] as H G hk e .refl .nil
theorem wa_cons {k : List AV → En → Prop} {tr : TA} (h : WpE K F ta ρ fun x ρ1 => WpA K F tr ρ1 fun xs ρ2 => k (x :: xs) ρ2) : WpA K F (tCons ta tr) ρ k := fun as σ H G e Q q =>
  h as σ H G e _ fun x ρ1 vx as1 H1 G1 h1 e1 g1 r1 => h1 as1 σ H1 G1 e1 _ fun xs ρ2 vs as2 H2 G2 h2 e2 g2 r2 => q _ ρ2 _ as2 H2 G2 h2 e2 (g1.trans g2) (.cons (r1.mono g2) r2)
theorem wr_I0i {f : Int → Int → Int} {i j : Int} (hk : k (.dat (.int (f i j))) ρ) : WpR K F (rI0 fun i j => .int (f i j)) (.dat (.int i)) (.dat (.int j)) ρ k := fun as σ H G vx vy e r1 r2 Q q => by
  cases (show Rep K G (.int i) vx from r1); cases (show Rep K G (.int j) vy from r2)
  exact ⟨i, j, rfl, rfl, q _ ρ _ as H G hk e .refl (Rep.int _)⟩
theorem wr_I0b {f : Int → Int → Bool} {i j : Int} (hk : k (.dat (.bl (f i j))) ρ) : WpR K F (rI0 fun i j => .bl (f i j)) (.dat (.int i)) (.dat (.int j)) ρ k := fun as σ H G vx vy e r1 r2 Q q => by
  cases (show Rep K G (.int i) vx from r1); cases (show Rep K G (.int j) vy from r2)
  exact ⟨i, j, rfl, rfl, q _ ρ _ as H G hk e .refl (Rep.bl _)⟩
theorem wr_Ii {C : Int → Int → Prop} {f : Int → Int → Int} {i j : Int} (hc : C i j) (hk : k (.dat (.int (f i j))) ρ) : WpR K F (rI C fun i j => .int (f i j)) (.dat (.int i)) (.dat (.int j)) ρ k := fun as σ H G vx vy e r1 r2 Q q => by
  cases (show Rep K G (.int i) vx from r1); cases (show Rep K G (.int j) vy from r2)
  exact ⟨i, j, rfl, rfl, hc, q _ ρ _ as H G hk e .refl (Rep.int _)⟩
theorem wu_neg {i : Int} (hk : k (.dat (.int (-i))) ρ) : WpU K F (rU fun i => .int (-i)) (.dat (.int i)) ρ k := fun as σ H G vx e r1 Q q => by
  cases (show Rep K G (.int i) vx from r1)
  exact ⟨i, rfl, q _ ρ _ as H G hk e .refl (Rep.int _)⟩
theorem wc_abs {i : Int} (hk : k (.dat (.int (if i < 0 then -i else i))) ρ) : WpC K F (fun xs H Q => ∃ i, xs = [.int i] ∧ Q (.int (if i < 0 then -i else i)) H) [.dat (.int i)] ρ k := fun as σ H G vs e r Q q => by
  cases r with
  | cons a b =>
    cases b
    cases (show Rep K G (.int i) _ from a)
    exact ⟨i, rfl, q _ ρ _ as H G hk e .refl (Rep.int _)⟩
/-- == of scalars -/
def scalD : D → D → Bool
  | .non, .non => true | .non, .int _ => true | .int _, .non => true | .non, .bl _ => true | .bl _, .non => true | .non, .str _ => true | .str _, .non => true
  | .int _, .int _ => true | .bl _, .bl _ => true | .str _, .str _ => true | .int _, .str _ => true | .str _, .int _ => true | .bl _, .str _ => true | .str _, .bl _ => true
  | _, _ => false
def eqS : D → D → Bool
  | .non, .non => true
  | .int i, .int j => decide (i = j)
  | .bl a, .bl b => decide (a = b)
  | .str x, .str y => decide (x = y)
  | _, _ => false
theorem scal_rep {G : Hp} {d e : D} {v w : V} (h : scalD d e = true) (r1 : Rep K G d v) (r2 : Rep K G e w) : scal v w = true ∧ decide (v = w) = eqS d e := by
  cases d <;> cases e <;> first
    | (exact Bool.noConfusion (show false = true from h))
    | (cases r1; cases r2; refine ⟨rfl, ?_⟩; first | rfl | (simp [eqS]) | (exact decide_eq_false (fun z => nomatch z)))
theorem wr_eq {d e : D} (h : scalD d e = true) (hk : k (.dat (.bl (eqS d e))) ρ) : WpR K F rEq (.dat d) (.dat e) ρ k := fun as σ H G vx vy en r1 r2 Q q => by
  obtain ⟨a, b⟩ := scal_rep (K := K) (G := G) h r1 r2
  refine ⟨a, ?_⟩
  rw [b]
  exact q _ ρ _ as H G hk en .refl (Rep.bl _)
theorem wr_ne {d e : D} (h : scalD d e = true) (hk : k (.dat (.bl (!eqS d e))) ρ) : WpR K F rNe (.dat d) (.dat e) ρ k := fun as σ H G vx vy en r1 r2 Q q => by
  obtain ⟨a, b⟩ := scal_rep (K := K) (G := G) h r1 r2
  refine ⟨a, ?_⟩
  rw [b]
  exact q _ ρ _ as H G hk en .refl (Rep.bl _)
def isNon : AV → Bool
  | .dat .non => true
  | _ => false
theorem isNon_rep {G : Hp} {as : List Addr} {x : AV} {v : V} (r : RepA K G as x v) : decide (v = .non) = isNon x := by
  cases x with
  | cel j => obtain ⟨a, _, rfl⟩ := r; rfl
  | dat d => cases d <;> cases (show Rep K G _ v from r) <;> rfl
theorem wr_isN {x : AV} (hk : k (.dat (.bl (isNon x))) ρ) : WpR K F (fun x y H Q => y = .non ∧ Q (.bl (decide (x = .non))) H) x (.dat .non) ρ k := fun as σ H G vx vy en r1 r2 Q q => by
  refine ⟨Rep.nonE r2, ?_⟩
  rw [isNon_rep r1]
  exact q _ ρ _ as H G hk en .refl (Rep.bl _)
theorem wr_notN {x : AV} (hk : k (.dat (.bl (!isNon x))) ρ) : WpR K F (fun x y H Q => y = .non ∧ Q (.bl (!decide (x = .non))) H) x (.dat .non) ρ k := fun as σ H G vx vy en r1 r2 Q q => by
  refine ⟨Rep.nonE r2, ?_⟩
  rw [isNon_rep r1]
  exact q _ ρ _ as H G hk en .refl (Rep.bl _)
theorem wr_isB {a b : Bool} (hk : k (.dat (.bl (decide (a = b)))) ρ) : WpR K F (fun x y H Q => ∃ a b, x = .bl a ∧ y = .bl b ∧ Q (.bl (decide (a = b))) H) (.dat (.bl a)) (.dat (.bl b)) ρ k := fun as σ H G vx vy en r1 r2 Q q =>
  ⟨a, b, Rep.blE r1, Rep.blE r2, q _ ρ _ as H G hk en .refl (Rep.bl _)⟩
theorem wr_isnotB {a b : Bool} (hk : k (.dat (.bl (!decide (a = b)))) ρ) : WpR K F (fun x y H Q => ∃ a b, x = .bl a ∧ y = .bl b ∧ Q (.bl (!decide (a = b))) H) (.dat (.bl a)) (.dat (.bl b)) ρ k := fun as σ H G vx vy en r1 r2 Q q =>
  ⟨a, b, Rep.blE r1, Rep.blE r2, q _ ρ _ as H G hk en .refl (Rep.bl _)⟩
/-! truth -/
theorem we_andV (h : WpE K F ta ρ fun x ρ1 => ∃ c, x = .dat (.bl c) ∧ if c = true then WpE K F tb ρ1 k else k (.dat (.bl false)) ρ1) : WpE K F (tAndV ta tb) ρ k := fun as σ H G e Q q =>
  h as σ H G e _ fun x ρ1 vx as1 H1 G1 ⟨c, ex, hc⟩ e1 g1 r1 => by
    subst ex
    refine ⟨c, Rep.blE r1, ?_⟩
    cases c with
    | true => exact (show WpE K F tb ρ1 k from hc) as1 σ H1 G1 e1 Q (q.imp g1 fun _ _ z => z)
    | false => exact q _ ρ1 _ as1 H1 G1 hc e1 g1 (Rep.bl _)
theorem we_orV (h : WpE K F ta ρ fun x ρ1 => ∃ c, x = .dat (.bl c) ∧ if c = true then k (.dat (.bl true)) ρ1 else WpE K F tb ρ1 k) : WpE K F (tOrV ta tb) ρ k := fun as σ H G e Q q =>
  h as σ H G e _ fun x ρ1 vx as1 H1 G1 ⟨c, ex, hc⟩ e1 g1 r1 => by
    subst ex
    refine ⟨c, Rep.blE r1, ?_⟩
    cases c with
    | false => exact (show WpE K F tb ρ1 k from hc) as1 σ H1 G1 e1 Q (q.imp g1 fun _ _ z => z)
    | true => exact q _ ρ1 _ as1 H1 G1 hc e1 g1 (Rep.bl _)
theorem we_notV (h : WpE K F ta ρ fun x ρ1 => ∃ c, x = .dat (.bl c) ∧ k (.dat (.bl (!c))) ρ1) : WpE K F (tNotV ta) ρ k := fun as σ H G e Q q =>
  h as σ H G e _ fun x ρ1 vx as1 H1 G1 ⟨c, ex, hc⟩ e1 g1 r1 => by
    subst ex
    exact ⟨c, Rep.blE r1, q _ ρ1 _ as1 H1 G1 hc e1 g1 (Rep.bl _)⟩
theorem we_if (h : WpT K F tt ρ fun b ρ1 => if b = true then WpE K F ta ρ1 k else WpE K F tb ρ1 k) : WpE K F (tIf tt ta tb) ρ k := fun as σ H G e Q q =>
  h as σ H G e _ fun b ρ1 as1 H1 G1 hb e1 g1 => by
    cases b with
    | true => exact (show WpE K F ta ρ1 k from hb) as1 σ H1 G1 e1 Q (q.imp g1 fun _ _ z => z)
    | false => exact (show WpE K F tb ρ1 k from hb) as1 σ H1 G1 e1 Q (q.imp g1 fun _ _ z => z)
theorem wt_test (h : WpE K F te ρ fun x ρ1 => ∃ b, x = .dat (.bl b) ∧ kb b ρ1) : WpT K F (tTest te) ρ kb := fun as σ H G e Q q =>
  h as σ H G e _ fun x ρ1 vx as1 H1 G1 ⟨c, ex, hc⟩ e1 g1 r1 => by
    subst ex
    exact ⟨c, Rep.blE r1, q _ ρ1 as1 H1 G1 hc e1 g1⟩
theorem wt_B (h : WpE K F te ρ fun x ρ1 => ∃ b, x = .dat (.bl b) ∧ kb b ρ1) : WpT K F (tB te) ρ kb := wt_test h
theorem wt_and (h : WpT K F tt ρ fun b ρ1 => if b = true then WpT K F tu ρ1 kb else kb false ρ1) : WpT K F (tAnd tt tu) ρ kb := fun as σ H G e Q q =>
  h as σ H G e _ fun b ρ1 as1 H1 G1 hb e1 g1 => by
    cases b with
    | true => exact (show WpT K F tu ρ1 kb from hb) as1 σ H1 G1 e1 Q fun b2 ρ2 as2 H2 G2 h2 e2 g2 => q _ _ _ _ _ h2 e2 (g1.trans g2)
    | false => exact q _ _ _ _ _ hb e1 g1
theorem wt_or (h : WpT K F tt ρ fun b ρ1 => if b = true then kb true ρ1 else WpT K F tu ρ1 kb) : WpT K F (tOr tt tu) ρ kb := fun as σ H G e Q q =>
  h as σ H G e _ fun b ρ1 as1 H1 G1 hb e1 g1 => by
    cases b with
    | false => exact (show WpT K F tu ρ1 kb from hb) as1 σ H1 G1 e1 Q fun b2 ρ2 as2 H2 G2 h2 e2 g2 => q _ _ _ _ _ h2 e2 (g1.trans g2)
    | true => exact q _ _ _ _ _ hb e1 g1
theorem wt_not (h : WpT K F tt ρ fun b ρ1 => kb (!b) ρ1) : WpT K F (tNot tt) ρ kb := fun as σ H G e Q q => h as σ H G e _ fun b ρ1 as1 H1 G1 hb e1 g1 => q _ _ _ _ _ hb e1 g1
theorem wt_yes (h : kb true ρ) : WpT K F tYes ρ kb := fun as σ H G e Q q => q _ _ _ _ _ h e .refl
/-! ### statements -/
theorem ws_seq (h : WpS K F t ρ { ks with nx := fun ρ1 => WpS K F u ρ1 ks }) : WpS K F (tSeq t u) ρ ks := fun as σ H G e D q =>
  h as σ H G e { D with nx := u D } ⟨fun ρ1 as1 σ1 H1 G1 k1 e1 g1 => k1 as1 σ1 H1 G1 e1 D (EndsOk.grow K F q g1), q.rt, q.bk, q.ct, q.fr⟩
theorem ws_next (h : ks.nx ρ) : WpS K F tNext ρ ks := fun as σ H G e D q => q.nx ρ as σ H G h e .refl
theorem ws_break (h : ks.bk ρ) : WpS K F tBreak ρ ks := fun as σ H G e D q => q.bk ρ as σ H G h e .refl
theorem ws_cont (h : ks.ct ρ) : WpS K F tCont ρ ks := fun as σ H G e D q => q.ct ρ as σ H G h e .refl
theorem ws_drop (h : WpE K F te ρ fun _ ρ1 => ks.nx ρ1) : WpS K F (tDrop te) ρ ks := fun as σ H G e D q => h as σ H G e _ fun x ρ1 vx as1 H1 G1 h1 e1 g1 r1 => q.nx ρ1 as1 σ H1 G1 h1 e1 g1
theorem ws_ret (h : WpE K F te ρ ks.rt) : WpS K F (tRet te) ρ ks := fun as σ H G e D q => h as σ H G e _ fun x ρ1 vx as1 H1 G1 h1 e1 g1 r1 => q.rt x ρ1 vx as1 σ H1 G1 h1 e1 g1 r1
theorem ws_retN (h : ks.rt (.dat .non) ρ) : WpS K F tRetN ρ ks := fun as σ H G e D q => q.rt _ ρ _ as σ H G h e .refl Rep.non
theorem ws_if (h : WpT K F tt ρ fun b ρ1 => if b = true then WpS K F t ρ1 ks else WpS K F u ρ1 ks) : WpS K F (tIfS tt t u) ρ ks := fun as σ H G e D q =>
  h as σ H G e _ fun b ρ1 as1 H1 G1 hb e1 g1 => by
    cases b with
    | true => exact (show WpS K F t ρ1 ks from hb) as1 σ H1 G1 e1 D (EndsOk.grow K F q g1)
    | false => exact (show WpS K F u ρ1 ks from hb) as1 σ H1 G1 e1 D (EndsOk.grow K F q g1)
theorem ws_asg {g : TG} (h : WpE K F te ρ fun x ρ1 => WpG K F g x ρ1 ks.nx) : WpS K F (tAsg te g) ρ ks := fun as σ H G e D q =>
  h as σ H G e _ fun x ρ1 vx as1 H1 G1 h1 e1 g1 r1 => h1 as1 σ H1 G1 vx e1 r1 _ fun ρ2 as2 σ2 H2 G2 h2 e2 g2 => q.nx ρ2 as2 σ2 H2 G2 h2 e2 (g1.trans g2)
def En.put (ρ : En) (i : Nat) (x : AV) : En := ⟨ρ.sl.set i (some x), ρ.ce⟩
theorem EnvOk.put {as : List Addr} {σ : L2.St} {H G : Hp} {i : Nat} {x : AV} {v : V} (e : EnvOk K F ρ as σ H G) (r : RepA K G as x v) : EnvOk K F (ρ.put i x) as (σ.set i (some v)) H G :=
  ⟨e.gh, e.fh, e.fg, e.g0, e.nd, e.pr, e.ln, e.ce, by rw [List.length_set, e.sn]; exact (List.length_set).symm, fun j av hj => by
    show ∃ v', (σ.set i (some v))[j]? = some (some v') ∧ _
    have hj' : (ρ.sl.set i (some x))[j]? = some (some av) := hj
    by_cases hij : i = j
    · subst hij
      rw [List.getElem?_set] at hj' ⊢
      have hl : i < ρ.sl.length := by
        rcases Nat.lt_or_ge i ρ.sl.length with z | z
        · exact z
        · simp at hj'
          exact hj'.1
      simp [hl] at hj'
      subst hj'
      have hl2 : i < σ.length := by rw [e.sn]; exact hl
      exact ⟨v, by simp [hl2], r⟩
    · rw [List.getElem?_set_ne hij] at hj' ⊢
      exact e.sl j av hj'⟩
theorem wg_name {i : Nat} {x : AV} {kn : En → Prop} (h : kn (ρ.put i x)) : WpG K F (gName i) x ρ kn := fun as σ H G v e r Q q => q _ as _ H G h (e.put r) .refl
theorem wgs_nil {kn : En → Prop} (h : kn ρ) : WpGs K F gNil [] ρ kn := fun as σ H G vs e r Q q => by cases r; exact ⟨rfl, q _ _ _ _ _ h e .refl⟩
theorem wgs_cons {g : TG} {gs : TGs} {x : AV} {xs : List AV} {kn : En → Prop} (h : WpG K F g x ρ fun ρ1 => WpGs K F gs xs ρ1 kn) : WpGs K F (gCons g gs) (x :: xs) ρ kn := fun as σ H G vs e r Q q => by
  cases r with
  | cons a b => exact ⟨_, _, rfl, h as σ H G _ e a _ fun ρ1 as1 σ1 H1 G1 h1 e1 g1 => h1 as1 σ1 H1 G1 _ e1 (b.mono g1) Q fun ρ2 as2 σ2 H2 G2 h2 e2 g2 => q _ _ _ _ _ h2 e2 (g1.trans g2)⟩
theorem Reps.as {G : Hp} {as : List Addr} : ∀ {ds : List D} {vs : List V}, Reps K G ds vs → RepAs K G as (ds.map .dat) vs
  | [], _, h => by cases h; exact .nil
  | _ :: _, _, h => by cases h with | cons a b => exact .cons a (Reps.as b)
theorem wg_tup {n : Nat} {gs : TGs} {ds : List D} {kn : En → Prop} (hn : ds.length = n) (h : WpGs K F gs (ds.map .dat) ρ kn) : WpG K F (gTup K n gs) (.dat (.tup ds)) ρ kn := fun as σ H G v e r Q q => by
  obtain ⟨a, vs, rfl, hs, hr⟩ := Rep.tupE r
  exact ⟨a, vs, rfl, Same.seqT e.gh hs, by rw [hr.length]; exact hn, h as σ H G vs e hr.as Q q⟩
theorem ws_par {i j : Nat} {ta : TA} (h : WpA K F ta ρ fun xs ρ1 => ∃ x y, xs = [x, y] ∧ ks.nx ((ρ1.put i x).put j y)) : WpS K F (tPar i j ta) ρ ks := fun as σ H G e D q =>
  h as σ H G e _ fun xs ρ1 vs as1 H1 G1 ⟨x, y, ex, h1⟩ e1 g1 r1 => by
    subst ex
    cases r1 with
    | cons a b => cases b with | cons b c => cases c; exact ⟨_, _, rfl, q.nx _ as1 _ H1 G1 h1 ((e1.put a).put b) g1⟩
/-! ### lists and tuples -/
/-- the items of a list: data, or a cell -/
inductive IsL (ρ : En) : AV → List D → Prop
  | dat (ds : List D) : IsL ρ (.dat (.lst ds)) ds
  | scr (ds : List D) : IsL ρ (.dat (.scr ds)) ds
  | cel {j : Nat} {ds : List D} : ρ.ce[j]? = some (.lst ds) → IsL ρ (.cel j) ds
theorem IsL.rep {as : List Addr} {σ : L2.St} {H G : Hp} {x : AV} {ds : List D} {v : V} (e : EnvOk K F ρ as σ H G) (h : IsL ρ x ds) (r : RepA K G as x v) : ∃ a vs, v = .ref a ∧ SqL K H a vs ∧ Reps K G ds vs := by
  cases h with
  | dat => obtain ⟨a, vs, rfl, hs, hr⟩ := Rep.lstE r; exact ⟨a, vs, rfl, SqL.of (e.gh _ _ hs), hr⟩
  | scr => obtain ⟨a, vs, rfl, hs, hr⟩ := Rep.scrE r; exact ⟨a, vs, rfl, Same.seq e.gh hs, hr⟩
  | cel hc =>
    obtain ⟨a, ha, rfl⟩ := r
    obtain ⟨_, _, _, vs, hv, hr⟩ := e.ce _ _ a hc ha
    exact ⟨a, vs, rfl, SqL.of hv, hr⟩
theorem atI_reps {G : Hp} {ds : List D} {vs : List V} {i : Int} {d : D} (h : Reps K G ds vs) (e : atI ds i = some d) : ∃ v, atI vs i = some v ∧ Rep K G d v := by
  unfold atI at *
  rw [h.length]
  cases q : ixN ds.length i with
  | none => rw [q] at e; cases e
  | some j =>
    rw [q] at e
    exact h.get e
theorem wr_ixL {x : AV} {ds : List D} {i : Int} {d : D} (hx : IsL ρ x ds) (hi : atI ds i = some d) (hk : k (.dat d) ρ) : WpR K F (rIxL K) x (.dat (.int i)) ρ k := fun as σ H G vx vy e r1 r2 Q q => by
  obtain ⟨a, vs, rfl, hs, hr⟩ := hx.rep e r1
  obtain ⟨v, hv, r⟩ := atI_reps hr hi
  exact ⟨a, vs, i, v, rfl, Rep.intE r2, hs, hv, q _ ρ _ as H G hk e .refl r⟩
theorem wr_ixT {ds : List D} {i : Int} {d : D} (hi : atI ds i = some d) (hk : k (.dat d) ρ) : WpR K F (rIxT K) (.dat (.tup ds)) (.dat (.int i)) ρ k := fun as σ H G vx vy e r1 r2 Q q => by
  obtain ⟨a, vs, rfl, hs, hr⟩ := Rep.tupE r1
  obtain ⟨v, hv, r⟩ := atI_reps hr hi
  exact ⟨a, vs, i, v, rfl, Rep.intE r2, Same.seqT e.gh hs, hv, q _ ρ _ as H G hk e .refl r⟩
theorem wc_lenL {x : AV} {ds : List D} (hx : IsL ρ x ds) (hk : k (.dat (.int ds.length)) ρ) : WpC K F (fun xs H Q => ∃ p ys, xs = [.ref p] ∧ (SqL K H p ys ∨ SqT K H p ys) ∧ Q (.int ys.length) H) [x] ρ k := fun as σ H G vs e r Q q => by
  cases r with
  | cons r c =>
    cases c
    obtain ⟨a, vs, rfl, hs, hr⟩ := hx.rep e r
    refine ⟨a, vs, rfl, .inl hs, ?_⟩
    rw [hr.length]
    exact q _ ρ _ as H G hk e .refl (Rep.int _)
theorem wc_lenT {ds : List D} (hk : k (.dat (.int ds.length)) ρ) : WpC K F (fun xs H Q => ∃ p ys, xs = [.ref p] ∧ (SqL K H p ys ∨ SqT K H p ys) ∧ Q (.int ys.length) H) [.dat (.tup ds)] ρ k := fun as σ H G vs e r Q q => by
  cases r with
  | cons r c =>
    cases c
    obtain ⟨a, vs, rfl, hs, hr⟩ := Rep.tupE r
    refine ⟨a, vs, rfl, .inr (Same.seqT e.gh hs), ?_⟩
    rw [hr.length]
    exact q _ ρ _ as H G hk e .refl (Rep.int _)
/-! new things -/
/-- a new frozen object -/
theorem EnvOk.newG {as : List Addr} {σ : L2.St} {H G : Hp} {p : Addr} {o : HO} (e : EnvOk K F ρ as σ H G) (hp : H p = none) : EnvOk K F ρ as σ (upd H p o) (upd G p o) ∧ Gr G as (upd G p o) as := by
  have gp : G p = none := Same.none e.gh hp
  have fp : F.Fr p = none := Same.none e.fh hp
  have sg : Same G (upd G p o) := Same.new (Same.refl _) gp
  refine ⟨⟨fun a u h => ?_, Same.new e.fh hp, fun a u h => ?_, Same.trans e.g0 sg, e.nd, e.pr, e.ln, fun j c a hc ha => ?_, e.sn, fun i av hi => ?_⟩, ⟨sg, [], by simp⟩⟩
  · by_cases q : a = p
    · subst q; rw [upd_same] at h ⊢; exact h
    · rw [upd_ne q] at h ⊢; exact e.gh _ _ h
  · by_cases q : a = p
    · subst q; exact .inr fp
    · rw [upd_ne q] at h; exact e.fg _ _ h
  · obtain ⟨f, ⟨u, hu⟩, ok⟩ := e.ce j c a hc ha
    have na : a ≠ p := ne_of_none hu hp
    refine ⟨f, ⟨u, upd_old hp hu⟩, ?_⟩
    cases c with
    | gone => trivial
    | lst ds => obtain ⟨g, vs, h, r⟩ := ok; exact ⟨by rw [upd_ne na]; exact g, vs, upd_old hp h, Reps.mono sg _ _ r⟩
    | ins C9 ns9 ds => obtain ⟨g, dx9, vs, h, ln9, r⟩ := ok; exact ⟨by rw [upd_ne na]; exact g, dx9, vs, upd_old hp h, ln9, Reps.mono sg _ _ r⟩
    | drw => obtain ⟨g, vs, h, r⟩ := ok; exact ⟨by rw [upd_ne na]; exact g, vs, upd_old hp h, r⟩
  · obtain ⟨v, hv, r⟩ := e.sl i av hi
    exact ⟨v, hv, r.mono ⟨sg, [], by simp⟩⟩
/-- a new cell -/
theorem EnvOk.newO {as : List Addr} {σ : L2.St} {H G : Hp} {p : Addr} {o : HO} {c0 : Cell} (e : EnvOk K F ρ as σ H G) (hp : H p = none) (ok0 : G p = none → CellOk K G (upd H p o) p c0) : EnvOk K F ⟨ρ.sl, ρ.ce ++ [c0]⟩ (as ++ [p]) σ (upd H p o) G ∧ Gr G as G (as ++ [p]) := by
  have gp : G p = none := Same.none e.gh hp
  have fp : F.Fr p = none := Same.none e.fh hp
  have gr : Gr G as G (as ++ [p]) := ⟨Same.refl _, [p], rfl⟩
  refine ⟨⟨fun a u h => upd_old hp (e.gh _ _ h), Same.new e.fh hp, e.fg, e.g0, ?_, e.pr.trans (List.prefix_append _ _), by rw [List.length_append, List.length_append, e.ln]; rfl, fun j c a hc ha => ?_, e.sn, fun i av hi => ?_⟩, gr⟩
  · rw [List.nodup_append]
    refine ⟨e.nd, by simp, fun a ha b hb => ?_⟩
    rw [List.mem_singleton] at hb
    subst hb
    obtain ⟨j, hj⟩ := List.getElem?_of_mem ha
    have hl : j < ρ.ce.length := by rw [← e.ln]; exact (List.getElem?_eq_some_iff.mp hj).1
    obtain ⟨_, ⟨u, hu⟩, _⟩ := e.ce j _ a (List.getElem?_eq_getElem hl) hj
    exact ne_of_none hu hp
  · by_cases hj : j < ρ.ce.length
    · rw [List.getElem?_append_left hj] at hc
      rw [List.getElem?_append_left (by rw [e.ln]; exact hj)] at ha
      obtain ⟨f, ⟨u, hu⟩, ok⟩ := e.ce j c a hc ha
      refine ⟨f, ⟨u, upd_old hp hu⟩, ?_⟩
      cases c with
      | gone => trivial
      | lst ds => obtain ⟨g, vs, h, r⟩ := ok; exact ⟨g, vs, upd_old hp h, r⟩
      | ins C9 ns9 ds => obtain ⟨g, dx9, vs, h, ln9, r⟩ := ok; exact ⟨g, dx9, vs, upd_old hp h, ln9, r⟩
      | drw => obtain ⟨g, vs, h, r⟩ := ok; exact ⟨g, vs, upd_old hp h, r⟩
    · have hj2 : ρ.ce.length ≤ j := by omega
      rw [List.getElem?_append_right hj2] at hc
      rw [List.getElem?_append_right (by rw [e.ln]; exact hj2), e.ln] at ha
      cases z : j - ρ.ce.length with
      | zero =>
        rw [z] at hc ha
        cases hc
        cases ha
        exact ⟨fp, ⟨_, upd_same⟩, ok0 gp⟩
      | succ m => rw [z] at hc; simp at hc
  · obtain ⟨v, hv, r⟩ := e.sl i av hi
    exact ⟨v, hv, r.mono gr⟩
theorem EnvOk.newC {as : List Addr} {σ : L2.St} {H G : Hp} {p : Addr} {vs : List V} {ds : List D} (e : EnvOk K F ρ as σ H G) (hp : H p = none) (hr : Reps K G ds vs) : EnvOk K F ⟨ρ.sl, ρ.ce ++ [.lst ds]⟩ (as ++ [p]) σ (upd H p (.lst vs)) G ∧ Gr G as G (as ++ [p]) := e.newO hp fun gp => ⟨gp, vs, upd_same, hr⟩
/-- a cell is written -/
theorem EnvOk.setO {as : List Addr} {σ : L2.St} {H G : Hp} {j : Nat} {a : Addr} {c c' : Cell} {o : HO} (e : EnvOk K F ρ as σ H G) (hj : ρ.ce[j]? = some c) (ha : as[j]? = some a) (g : G a = none) (ok : CellOk K G (upd H a o) a c') : EnvOk K F ⟨ρ.sl, ρ.ce.set j c'⟩ as σ (upd H a o) G := by
  obtain ⟨fa, ⟨u, hu⟩, _⟩ := e.ce j c a hj ha
  have hl : j < ρ.ce.length := (List.getElem?_eq_some_iff.mp hj).1
  refine ⟨fun b u h => upd_oth (ne_of_none h g) (e.gh _ _ h), fun b u h => upd_oth (ne_of_none h fa) (e.fh _ _ h), e.fg, e.g0, e.nd, e.pr, by rw [e.ln]; exact (List.length_set).symm, fun i c2 b hc hb => ?_, e.sn, e.sl⟩
  have hc' : (ρ.ce.set j c')[i]? = some c2 := hc
  by_cases hij : j = i
  · subst hij
    rw [List.getElem?_set_self hl] at hc'
    cases hc'
    rw [ha] at hb
    cases hb
    exact ⟨fa, ⟨_, upd_same⟩, ok⟩
  · rw [List.getElem?_set_ne hij] at hc'
    obtain ⟨f, ⟨u2, hu2⟩, ok2⟩ := e.ce i c2 b hc' hb
    have nb : b ≠ a := fun z => by
      subst z
      exact hij ((List.getElem?_inj (List.getElem?_eq_some_iff.mp ha).1 e.nd).mp (ha.trans hb.symm))
    refine ⟨f, ⟨u2, upd_oth nb hu2⟩, ?_⟩
    cases c2 with
    | gone => trivial
    | lst ds => obtain ⟨g, vs, h, r⟩ := ok2; exact ⟨g, vs, upd_oth nb h, r⟩
    | ins C9 ns9 ds => obtain ⟨g, dx9, vs, h, ln9, r⟩ := ok2; exact ⟨g, dx9, vs, upd_oth nb h, ln9, r⟩
    | drw => obtain ⟨g, vs, h, r⟩ := ok2; exact ⟨g, vs, upd_oth nb h, r⟩
theorem EnvOk.setC {as : List Addr} {σ : L2.St} {H G : Hp} {j : Nat} {a : Addr} {c c' : Cell} {xs : List V} (e : EnvOk K F ρ as σ H G) (hj : ρ.ce[j]? = some c) (ha : as[j]? = some a) (g : G a = none) (ok : CellOk K G (upd H a (.lst xs)) a c') : EnvOk K F ⟨ρ.sl, ρ.ce.set j c'⟩ as σ (upd H a (.lst xs)) G := e.setO hj ha g ok
/-- a cell is frozen -/
def frzA (j : Nat) (d : D) : AV → AV
  | .cel i => if i = j then .dat d else .cel i
  | x => x
def En.frzD (ρ : En) (j : Nat) (d : D) : En := ⟨ρ.sl.map (fun o => o.map (frzA j d)), ρ.ce.set j .gone⟩
abbrev En.frz (ρ : En) (j : Nat) (ds : List D) : En := ρ.frzD j (.lst ds)
/-- the data that a cell holds -/
def celD : Cell → Option D
  | .lst ds => some (.lst ds)
  | .ins C ns ds => some (.obj C ns ds)
  | _ => none
theorem EnvOk.frzD {as : List Addr} {σ : L2.St} {H G : Hp} {j : Nat} {a : Addr} {c0 : Cell} {d : D} (e : EnvOk K F ρ as σ H G) (hj : ρ.ce[j]? = some c0) (ha : as[j]? = some a) (hd : celD c0 = some d) : ∃ o, EnvOk K F (ρ.frzD j d) as σ H (upd G a o) ∧ Gr G as (upd G a o) as ∧ Rep K (upd G a o) d (.ref a) := by
  obtain ⟨fa, ⟨u, hu⟩, ok⟩ := e.ce j _ a hj ha
  obtain ⟨g, ra⟩ : G a = none ∧ Rep K (upd G a u) d (.ref a) := by
    cases c0 with
    | gone => cases hd
    | drw => cases hd
    | lst ds =>
      cases hd
      obtain ⟨g, vs, hv, hr⟩ := ok
      rw [hu] at hv
      cases hv
      exact ⟨g, .lst upd_same (Reps.mono (Same.new (Same.refl _) g) _ _ hr)⟩
    | ins C ns ds =>
      cases hd
      obtain ⟨g, dx, vs, hv, hl, hr⟩ := ok
      rw [hu] at hv
      cases hv
      exact ⟨g, .obj upd_same hl (Reps.mono (Same.new (Same.refl _) g) _ _ hr)⟩
  have sg : Same G (upd G a u) := Same.new (Same.refl _) g
  have hl : j < ρ.ce.length := (List.getElem?_eq_some_iff.mp hj).1
  refine ⟨u, ⟨fun b o h => ?_, e.fh, fun b o h => ?_, Same.trans e.g0 sg, e.nd, e.pr, by rw [e.ln]; exact (List.length_set).symm, fun i c b hc hb => ?_, by rw [e.sn]; exact (List.length_map _).symm, fun i av hi => ?_⟩, ⟨sg, [], by simp⟩, ra⟩
  · by_cases q : b = a
    · subst q; rw [upd_same] at h; cases h; exact hu
    · rw [upd_ne q] at h; exact e.gh _ _ h
  · by_cases q : b = a
    · subst q; exact .inr fa
    · rw [upd_ne q] at h; exact e.fg _ _ h
  · have hc' : (ρ.ce.set j .gone)[i]? = some c := hc
    by_cases hij : j = i
    · subst hij
      rw [List.getElem?_set_self hl] at hc'
      cases hc'
      rw [ha] at hb
      cases hb
      exact ⟨fa, ⟨_, hu⟩, trivial⟩
    · rw [List.getElem?_set_ne hij] at hc'
      obtain ⟨f, hu2, ok2⟩ := e.ce i c b hc' hb
      have nb : b ≠ a := fun z => by
        subst z
        exact hij ((List.getElem?_inj (List.getElem?_eq_some_iff.mp ha).1 e.nd).mp (ha.trans hb.symm))
      refine ⟨f, hu2, ?_⟩
      cases c with
      | gone => trivial
      | lst ds => obtain ⟨g, vs, h, r⟩ := ok2; exact ⟨by rw [upd_ne nb]; exact g, vs, h, Reps.mono sg _ _ r⟩
      | ins C9 ns9 ds => obtain ⟨g, dx9, vs, h, ln9, r⟩ := ok2; exact ⟨by rw [upd_ne nb]; exact g, dx9, vs, h, ln9, Reps.mono sg _ _ r⟩
      | drw => obtain ⟨g, vs, h, r⟩ := ok2; exact ⟨by rw [upd_ne nb]; exact g, vs, h, r⟩
  · have hi' : (ρ.sl.map (fun o => o.map (frzA j d)))[i]? = some (some av) := hi
    rw [List.getElem?_map] at hi'
    obtain ⟨o, ho, eo⟩ := Option.map_eq_some_iff.mp hi'
    obtain ⟨x, rfl, rfl⟩ := Option.map_eq_some_iff.mp eo
    obtain ⟨v, hv2, r⟩ := e.sl i x ho
    refine ⟨v, hv2, ?_⟩
    cases x with
    | dat d => exact Rep.mono sg _ _ r
    | cel m =>
      obtain ⟨b, hb, rfl⟩ := r
      show RepA K _ as (if m = j then .dat d else .cel m) _
      by_cases q : m = j
      · subst q
        rw [if_pos rfl]
        rw [ha] at hb
        cases hb
        exact ra
      · rw [if_neg q]
        exact ⟨b, hb, rfl⟩
theorem EnvOk.frz {as : List Addr} {σ : L2.St} {H G : Hp} {j : Nat} {a : Addr} {ds : List D} (e : EnvOk K F ρ as σ H G) (hj : ρ.ce[j]? = some (.lst ds)) (ha : as[j]? = some a) : ∃ o, EnvOk K F (ρ.frz j ds) as σ H (upd G a o) ∧ Gr G as (upd G a o) as ∧ Rep K (upd G a o) (.lst ds) (.ref a) := e.frzD hj ha rfl
/-- values that become data -/
inductive Frz : List AV → En → List D → En → Prop
  | nil {ρ : En} : Frz [] ρ [] ρ
  | dat {d : D} {xs : List AV} {ρ ρ' : En} {ds : List D} : Frz xs ρ ds ρ' → Frz (.dat d :: xs) ρ (d :: ds) ρ'
  | cel {j : Nat} {es : List D} {xs : List AV} {ρ ρ' : En} {ds : List D} : ρ.ce[j]? = some (.lst es) → Frz xs (ρ.frz j es) ds ρ' → Frz (.cel j :: xs) ρ (.lst es :: ds) ρ'
  | ins {j : Nat} {C : Addr} {ns : List Str} {es : List D} {xs : List AV} {ρ ρ' : En} {ds : List D} : ρ.ce[j]? = some (.ins C ns es) → Frz xs (ρ.frzD j (.obj C ns es)) ds ρ' → Frz (.cel j :: xs) ρ (.obj C ns es :: ds) ρ'
theorem Frz.run {xs : List AV} {ρ' : En} {ds : List D} (f : Frz xs ρ ds ρ') : ∀ {as : List Addr} {σ : L2.St} {H G : Hp} {vs : List V}, EnvOk K F ρ as σ H G → RepAs K G as xs vs → ∃ G', EnvOk K F ρ' as σ H G' ∧ Gr G as G' as ∧ Reps K G' ds vs := by
  induction f with
  | nil => intro as σ H G vs e r; cases r; exact ⟨G, e, .refl, .nil⟩
  | dat _ ih =>
    intro as σ H G vs e r
    cases r with
    | cons a b =>
      obtain ⟨G', e', g, r'⟩ := ih e b
      exact ⟨G', e', g, .cons (Rep.mono g.g _ _ a) r'⟩
  | cel hc _ ih =>
    intro as σ H G vs e r
    cases r with
    | cons a b =>
      obtain ⟨p, hp, rfl⟩ := a
      obtain ⟨ws, e1, g1, r1⟩ := e.frz hc hp
      obtain ⟨G', e', g, r'⟩ := ih e1 (b.mono g1)
      exact ⟨G', e', g1.trans g, .cons (Rep.mono g.g _ _ r1) r'⟩
  | ins hc _ ih =>
    intro as σ H G vs e r
    cases r with
    | cons a b =>
      obtain ⟨p, hp, rfl⟩ := a
      obtain ⟨ws, e1, g1, r1⟩ := e.frzD hc hp rfl
      obtain ⟨G', e', g, r'⟩ := ih e1 (b.mono g1)
      exact ⟨G', e', g1.trans g, .cons (Rep.mono g.g _ _ r1) r'⟩
theorem we_tup {t : TA} (h : WpA K F t ρ fun xs ρ1 => ∃ ds ρ2, Frz xs ρ1 ds ρ2 ∧ Nat.ble ds.length 1000 = true ∧ k (.dat (.tup ds)) ρ2) : WpE K F (tTup t) ρ k := fun as σ H G e Q q =>
  h as σ H G e _ fun xs ρ1 vs as1 H1 G1 ⟨ds, ρ2, fz, hl, hk⟩ e1 g1 r1 => by
    obtain ⟨G2, e2, g2, r2⟩ := fz.run e1 r1
    refine ⟨sz (by rw [r2.length]; exact hl), fun p hp => ?_⟩
    obtain ⟨e3, g3⟩ := e2.newG (o := .tup vs) hp
    exact q _ _ _ _ _ _ hk e3 (g1.trans (g2.trans g3)) (Rep.tup (SqT.of upd_same) (Reps.mono g3.g _ _ r2))
def En.add (ρ : En) (ds : List D) : En := ⟨ρ.sl, ρ.ce ++ [.lst ds]⟩
theorem RepA.last {as : List Addr} {G : Hp} {p : Addr} {n : Nat} (h : as.length = n) : RepA K G (as ++ [p]) (.cel n) (.ref p) := ⟨p, by rw [List.getElem?_append_right (by omega), h]; simp, rfl⟩
theorem we_lst {t : TA} (h : WpA K F t ρ fun xs ρ1 => ∃ ds ρ2, Frz xs ρ1 ds ρ2 ∧ Nat.ble ds.length 1000 = true ∧ k (.cel ρ2.ce.length) (ρ2.add ds)) : WpE K F (tLst t) ρ k := fun as σ H G e Q q =>
  h as σ H G e _ fun xs ρ1 vs as1 H1 G1 ⟨ds, ρ2, fz, hl, hk⟩ e1 g1 r1 => by
    obtain ⟨G2, e2, g2, r2⟩ := fz.run e1 r1
    refine ⟨sz (by rw [r2.length]; exact hl), fun p hp => ?_⟩
    obtain ⟨e3, g3⟩ := e2.newC hp r2
    exact q _ _ _ _ _ _ hk e3 (g1.trans (g2.trans g3)) (RepA.last e2.ln)
end
/-! ### rules of the data layer: lists that are written to, loops, comprehensions -/
section
variable {K : PySem.W.Frag} {F : Fx} {ρ : En} {k : AV → En → Prop} {kb : Bool → En → Prop} {ks : KS} {t u : TS} {ta tb te : TE} {tt tu : TT}
def lstC : Cell → Bool
  | .lst _ => true
  | .drw => true
  | _ => false
def En.cell (ρ : En) (j : Nat) (c : Cell) : En := ⟨ρ.sl, ρ.ce.set j c⟩
theorem we_bm {r : V → List V → Hp → VK → Prop} {t : TA} (h : WpE K F ta ρ fun x ρ1 => (∃ j c, x = .cel j ∧ ρ1.ce[j]? = some c ∧ lstC c = true) ∧ WpA K F t ρ1 fun xs ρ2 => WpM K F r x xs ρ2 k) : WpE K F (tBM K "list" r ta t) ρ k := fun as σ H G e Q q =>
  h as σ H G e _ fun x ρ1 vx as1 H1 G1 ⟨⟨j, c, ex, hc, hg⟩, h1⟩ e1 g1 r1 => by
    subst ex
    obtain ⟨a, ha, rfl⟩ := id r1
    refine ⟨.inl ⟨rfl, ?_⟩, h1 as1 σ H1 G1 e1 _ fun xs ρ2 vs as2 H2 G2 h2 e2 g2 r2 => h2 as2 σ H2 G2 _ vs e2 (r1.mono g2) r2 Q (q.imp (g1.trans g2) fun _ _ z => z)⟩
    obtain ⟨_, _, ok⟩ := e1.ce j c a hc ha
    cases c with
    | gone => cases hg
    | ins _ _ _ => cases hg
    | lst ds => obtain ⟨_, vs, h, _⟩ := ok; exact ⟨vs, SqL.of h⟩
    | drw => obtain ⟨_, vs, h, _⟩ := ok; exact ⟨vs, SqL.of h⟩
theorem we_bm0 {r : V → List V → Hp → VK → Prop} (h : WpE K F ta ρ fun x ρ1 => (∃ j c, x = .cel j ∧ ρ1.ce[j]? = some c ∧ lstC c = true) ∧ WpM K F r x [] ρ1 k) : WpE K F (tBM0 K "list" r ta) ρ k := fun as σ H G e Q q =>
  h as σ H G e _ fun x ρ1 vx as1 H1 G1 ⟨⟨j, c, ex, hc, hg⟩, h1⟩ e1 g1 r1 => by
    subst ex
    obtain ⟨a, ha, rfl⟩ := id r1
    refine ⟨.inl ⟨rfl, ?_⟩, h1 as1 σ H1 G1 _ [] e1 r1 .nil Q (q.imp g1 fun _ _ z => z)⟩
    obtain ⟨_, _, ok⟩ := e1.ce j c a hc ha
    cases c with
    | gone => cases hg
    | ins _ _ _ => cases hg
    | lst ds => obtain ⟨_, vs, h, _⟩ := ok; exact ⟨vs, SqL.of h⟩
    | drw => obtain ⟨_, vs, h, _⟩ := ok; exact ⟨vs, SqL.of h⟩
theorem wm_append {j : Nat} {x : AV} {ds : List D} {d : D} {ρ2 : En} (fz : Frz [x] ρ [d] ρ2) (hc : ρ2.ce[j]? = some (.lst ds)) (hl : ds.length < 16000000) (hk : k (.dat .non) (ρ2.cell j (.lst (ds ++ [d])))) : WpM K F rAppend (.cel j) [x] ρ k := fun as σ H G v vs e r1 r2 Q q => by
  obtain ⟨G2, e2, g2, r3⟩ := fz.run e r2
  obtain ⟨a, ha, rfl⟩ := r1
  cases r3 with
  | cons y z =>
    cases z
    obtain ⟨_, _, g, ws, hw, hr⟩ := e2.ce j _ a hc ha
    refine ⟨a, ws, _, rfl, rfl, hw, szbl (by rw [hr.length]; omega), q _ _ _ as _ G2 hk (e2.setC hc ha g ⟨g, _, upd_same, hr.append (.cons y .nil)⟩) g2 Rep.non⟩
theorem wm_clear {j : Nat} {ds : List D} (hc : ρ.ce[j]? = some (.lst ds)) (hk : k (.dat .non) (ρ.cell j (.lst []))) : WpM K F rClear (.cel j) [] ρ k := fun as σ H G v vs e r1 r2 Q q => by
  obtain ⟨a, ha, rfl⟩ := r1
  cases r2
  obtain ⟨_, _, g, ws, hw, hr⟩ := e.ce j _ a hc ha
  exact ⟨a, ws, rfl, rfl, hw, q _ _ _ as _ G hk (e.setC hc ha g ⟨g, _, upd_same, .nil⟩) .refl Rep.non⟩
/-- the answer is a new list -/
theorem new_list {as : List Addr} {σ : L2.St} {H G : Hp} {p : Addr} {vs : List V} {ds : List D} {Q : VK} (e : EnvOk K F ρ as σ H G) (q : Got K F ρ as σ G k Q) (hr : Reps K G ds vs) (hk : k (.cel ρ.ce.length) (ρ.add ds)) (hp : H p = none) : Q (.ref p) (upd H p (.lst vs)) := by
  obtain ⟨e3, g3⟩ := e.newC hp hr
  exact q _ _ _ _ _ _ hk e3 g3 (RepA.last e.ln)
theorem wc_list {x : AV} {ds : List D} (hx : IsL ρ x ds) (hk : k (.cel ρ.ce.length) (ρ.add ds)) : WpC K F (fun xs H Q => ∃ p ys, xs = [.ref p] ∧ (SqL K H p ys ∨ SqT K H p ys) ∧ ∀ l, H l = none → Q (.ref l) (upd H l (.lst ys))) [x] ρ k := fun as σ H G vs e r Q q => by
  cases r with
  | cons r c =>
    cases c
    obtain ⟨a, vs, rfl, hs, hr⟩ := hx.rep e r
    exact ⟨a, vs, rfl, .inl hs, fun p hp => new_list e q hr hk hp⟩
theorem wc_listT {ds : List D} (hk : k (.cel ρ.ce.length) (ρ.add ds)) : WpC K F (fun xs H Q => ∃ p ys, xs = [.ref p] ∧ (SqL K H p ys ∨ SqT K H p ys) ∧ ∀ l, H l = none → Q (.ref l) (upd H l (.lst ys))) [.dat (.tup ds)] ρ k := fun as σ H G vs e r Q q => by
  cases r with
  | cons r c =>
    cases c
    obtain ⟨a, vs, rfl, hs, hr⟩ := Rep.tupE r
    exact ⟨a, vs, rfl, .inr (Same.seqT e.gh hs), fun p hp => new_list e q hr hk hp⟩
theorem wc_tuple {x : AV} {ds : List D} (hx : IsL ρ x ds) (hk : k (.dat (.tup ds)) ρ) : WpC K F (fun xs H Q => ∃ p ys, xs = [.ref p] ∧ ((SqL K H p ys ∧ ∀ l, H l = none → Q (.ref l) (upd H l (.tup ys))) ∨ (SqT K H p ys ∧ Q (.ref p) H))) [x] ρ k := fun as σ H G vs e r Q q => by
  cases r with
  | cons r c =>
    cases c
    obtain ⟨a, vs, rfl, hs, hr⟩ := hx.rep e r
    refine ⟨a, vs, rfl, .inl ⟨hs, fun p hp => ?_⟩⟩
    obtain ⟨e3, g3⟩ := e.newG (o := .tup vs) hp
    exact q _ _ _ _ _ _ hk e3 g3 (Rep.tup (SqT.of upd_same) (Reps.mono g3.g _ _ hr))
theorem wr_cat {x y : AV} {ds es : List D} (hx : IsL ρ x ds) (hy : IsL ρ y es) (hl : ds.length + es.length ≤ 16000000) (hk : k (.cel ρ.ce.length) (ρ.add (ds ++ es))) : WpR K F (rCatF K) x y ρ k := fun as σ H G vx vy e r1 r2 Q q => by
  obtain ⟨a, vs, rfl, hs, hr⟩ := hx.rep e r1
  obtain ⟨b, ws, rfl, hs2, hr2⟩ := hy.rep e r2
  exact ⟨a, b, vs, ws, rfl, rfl, hs, hs2, szb (by rw [hr.length, hr2.length]; exact hl), fun p hp => new_list e q (hr.append hr2) hk hp⟩
/-- a list that may be copied whole: data, or a cell -/
inductive IsP (ρ : En) : AV → List D → Prop
  | dat (ds : List D) : IsP ρ (.dat (.lst ds)) ds
  | cel {j : Nat} {ds : List D} : ρ.ce[j]? = some (.lst ds) → IsP ρ (.cel j) ds
theorem IsP.rep {as : List Addr} {σ : L2.St} {H G : Hp} {x : AV} {ds : List D} {v : V} (e : EnvOk K F ρ as σ H G) (h : IsP ρ x ds) (r : RepA K G as x v) : ∃ a vs, v = .ref a ∧ H a = some (.lst vs) ∧ Reps K G ds vs := by
  cases h with
  | dat => obtain ⟨a, vs, rfl, hs, hr⟩ := Rep.lstE r; exact ⟨a, vs, rfl, e.gh _ _ hs, hr⟩
  | cel hc =>
    obtain ⟨a, ha, rfl⟩ := r
    obtain ⟨_, _, _, vs, hv, hr⟩ := e.ce _ _ a hc ha
    exact ⟨a, vs, rfl, hv, hr⟩
theorem wr_rep {x : AV} {ds : List D} {n : Int} (hx : IsP ρ x ds) (h0 : 0 ≤ n) (h1 : n < 1000000) (hl : ds.length * n.toNat ≤ 16000000) (hk : k (.cel ρ.ce.length) (ρ.add (List.replicate n.toNat ds).flatten)) : WpR K F rRep x (.dat (.int n)) ρ k := fun as σ H G vx vy e r1 r2 Q q => by
  obtain ⟨a, vs, rfl, hs, hr⟩ := hx.rep e r1
  exact ⟨a, n, vs, rfl, Rep.intE r2, hs, by omega, by omega, szb (by rw [hr.length]; exact hl), fun p hp => new_list e q (hr.rep n.toNat) hk hp⟩
theorem wm_extend {j : Nat} {x : AV} {ds es : List D} (hx : IsP ρ x es) (hc : ρ.ce[j]? = some (.lst ds)) (hl : ds.length + es.length ≤ 16000000) (hk : k (.dat .non) (ρ.cell j (.lst (ds ++ es)))) : WpM K F rExtend (.cel j) [x] ρ k := fun as σ H G v vs e r1 r2 Q q => by
  obtain ⟨a, ha, rfl⟩ := r1
  cases r2 with
  | cons r2 r3 =>
    cases r3
    obtain ⟨b, ws, rfl, hw, hr⟩ := hx.rep e r2
    obtain ⟨_, _, g, us, hu, hr2⟩ := e.ce j _ a hc ha
    exact ⟨a, b, us, ws, rfl, rfl, hu, hw, szb (by rw [hr.length, hr2.length]; omega), q _ _ _ as _ G hk (e.setC hc ha g ⟨g, _, upd_same, hr2.append hr⟩) .refl Rep.non⟩
def cutD (xs : List D) (lo hi : Option Int) : List D := (xs.drop (HT.sIx xs.length 0 lo)).take (HT.sIx xs.length xs.length hi - HT.sIx xs.length 0 lo)
theorem Reps.cut {G : Hp} {ds : List D} {vs : List V} (h : Reps K G ds vs) (lo hi : Option Int) : Reps K G (cutD ds lo hi) (cutV vs lo hi) := by
  unfold cutD cutV
  rw [h.length]
  exact (h.drop _).take _
def WpO (K : PySem.W.Frag) (F : Fx) (t : TO) (ρ : En) (k : Option Int → En → Prop) : Prop := ∀ as σ H G, EnvOk K F ρ as σ H G → ∀ Q : Option Int → Hp → Prop, (∀ b ρ' as' H' G', k b ρ' → EnvOk K F ρ' as' σ H' G' → Gr G as G' as' → Q b H') → t σ H Q
theorem wo_none {ko : Option Int → En → Prop} (h : ko none ρ) : WpO K F tNoPart ρ ko := fun as σ H G e Q q => q _ _ _ _ _ h e .refl
theorem wo_some {ko : Option Int → En → Prop} (h : WpE K F te ρ fun x ρ1 => ∃ i, x = .dat (.int i) ∧ ko (some i) ρ1) : WpO K F (tPart te) ρ ko := fun as σ H G e Q q =>
  h as σ H G e _ fun x ρ1 vx as1 H1 G1 ⟨c, ex, hc⟩ e1 g1 r1 => by
    subst ex
    exact ⟨c, Rep.intE r1, q _ _ _ _ _ hc e1 g1⟩
theorem we_slL {tl th : TO} (h : WpE K F te ρ fun x ρ1 => WpO K F tl ρ1 fun lo ρ2 => WpO K F th ρ2 fun hi ρ3 => ∃ ds, IsL ρ3 x ds ∧ k (.cel ρ3.ce.length) (ρ3.add (cutD ds lo hi))) : WpE K F (tSl (rSlL K) te tl th) ρ k := fun as σ H G e Q q =>
  h as σ H G e _ fun x ρ1 vx as1 H1 G1 h1 e1 g1 r1 => h1 as1 σ H1 G1 e1 _ fun lo ρ2 as2 H2 G2 h2 e2 g2 => h2 as2 σ H2 G2 e2 _ fun hi ρ3 as3 H3 G3 ⟨ds, hd, h3⟩ e3 g3 => by
    obtain ⟨a, vs, rfl, hs, hr⟩ := hd.rep e3 (r1.mono (g2.trans g3))
    exact ⟨a, vs, rfl, hs, fun p hp => new_list e3 (q.imp (g1.trans (g2.trans g3)) fun _ _ z => z) (hr.cut lo hi) h3 hp⟩
/-! what is walked -/
def ItS (K : PySem.W.Frag) (F : Fx) (J : It) (ds : List D) (gd : En → Prop) (as0 : List Addr) (G0 : Hp) : Prop := ∀ ρ as σ H G, EnvOk K F ρ as σ H G → Gr G0 as0 G as → gd ρ →
  (∀ i, i < ds.length → J.go i H) ∧ J.stop ds.length H ∧ ∀ i x H', i < ds.length → J.yld i H x H' → ∃ d G', ds[i]? = some d ∧ (∀ σ', EnvOk K F ρ as σ' H G → EnvOk K F ρ as σ' H' G') ∧ Gr G as G' as ∧ Rep K G' d x
def WpI (K : PySem.W.Frag) (F : Fx) (wi : TI) (ρ : En) (k : List D → (En → Prop) → En → Prop) : Prop := ∀ as σ H G, EnvOk K F ρ as σ H G → ∀ R : It → Hp → Prop, (∀ ds gd J ρ' as' H' G', k ds gd ρ' → EnvOk K F ρ' as' σ H' G' → Gr G as G' as' → ItS K F J ds gd as' G' → R J H') → wi σ H R
theorem wi_list {ki : List D → (En → Prop) → En → Prop} {tl : TE} (h : WpE K F tl ρ fun x ρ1 => ∃ ds, IsL ρ1 x ds ∧ ki ds (fun ρ2 => IsL ρ2 x ds) ρ1) : WpI K F (iList K tl) ρ ki := fun as σ H G e R q =>
  h as σ H G e _ fun x ρ1 vx as1 H1 G1 ⟨ds, hx, h1⟩ e1 g1 r1 => by
    obtain ⟨a, vs, rfl, hs, hr⟩ := hx.rep e1 r1
    refine ⟨a, rfl, ⟨vs, hs⟩, q _ _ _ _ _ _ _ h1 e1 g1 fun ρ2 as2 σ2 H2 G2 e2 g2 hx2 => ?_⟩
    obtain ⟨a2, ws, ea, hs2, hr2⟩ := hx2.rep e2 (r1.mono g2)
    cases ea
    have w := walk_list (K := K) (a := a) (xs := ws)
    rw [hr2.length] at w
    refine ⟨fun i hi => w.goes i H2 hi hs2, w.stops H2 hs2, fun i x H' hi y => ?_⟩
    obtain ⟨rfl, hx⟩ := w.yields i H2 x H' hi hs2 y
    obtain ⟨d, hd⟩ : ∃ d, ds[i]? = some d := ⟨_, List.getElem?_eq_getElem hi⟩
    obtain ⟨v, hv, rv⟩ := hr2.get hd
    rw [hx] at hv
    cases hv
    exact ⟨d, G2, hd, fun _ z => z, .refl, rv⟩
theorem wi_tup {ki : List D → (En → Prop) → En → Prop} {tl : TE} (h : WpE K F tl ρ fun x ρ1 => ∃ ds, x = .dat (.tup ds) ∧ ki ds (fun _ => True) ρ1) : WpI K F (iTup K tl) ρ ki := fun as σ H G e R q =>
  h as σ H G e _ fun x ρ1 vx as1 H1 G1 ⟨ds, ex, h1⟩ e1 g1 r1 => by
    subst ex
    obtain ⟨a, vs, rfl, hs, hr⟩ := Rep.tupE r1
    refine ⟨a, rfl, ⟨vs, Same.seqT e1.gh hs⟩, q _ _ _ _ _ _ _ h1 e1 g1 fun ρ2 as2 σ2 H2 G2 e2 g2 _ => ?_⟩
    have hs2 := Same.seqT (Same.trans g2.g e2.gh) hs
    have w := walk_tup (K := K) (a := a) (xs := vs)
    rw [hr.length] at w
    refine ⟨fun i hi => w.goes i H2 hi hs2, w.stops H2 hs2, fun i x H' hi y => ?_⟩
    obtain ⟨rfl, hx⟩ := w.yields i H2 x H' hi hs2 y
    obtain ⟨d, hd⟩ : ∃ d, ds[i]? = some d := ⟨_, List.getElem?_eq_getElem hi⟩
    obtain ⟨v, hv, rv⟩ := hr.get hd
    rw [hx] at hv
    cases hv
    exact ⟨d, G2, hd, fun _ z => z, .refl, Rep.mono g2.g _ _ rv⟩
def rngD (lo : Int) (n : Nat) : List D := (List.range n).map fun (i : Nat) => D.int (lo + i)
theorem its_range {lo : Int} {n : Nat} {as : List Addr} {G : Hp} : ItS K F (Itr lo n) (rngD lo n) (fun _ => True) as G := fun ρ2 as2 σ2 H2 G2 e2 g2 _ => by
  have w := walk_range (lo := lo) (n := n)
  have ln : (rngD lo n).length = n := by unfold rngD; rw [List.length_map, List.length_range]
  refine ⟨fun i hi => w.goes i H2 (ln ▸ hi) trivial, by rw [ln]; exact w.stops H2 trivial, fun i x H' hi y => ?_⟩
  obtain ⟨rfl, rfl⟩ := w.yields i H2 x H' (ln ▸ hi) trivial y
  exact ⟨.int (lo + i), G2, by unfold rngD; rw [List.getElem?_map, List.getElem?_range (ln ▸ hi)]; rfl, fun _ z => z, .refl, Rep.int _⟩
theorem wi_rng1 {ki : List D → (En → Prop) → En → Prop} {t : TA} (h : WpA K F t ρ fun xs ρ1 => ∃ j : Int, xs = [.dat (.int j)] ∧ (-(2 ^ 62) ≤ j ∧ j < 2 ^ 62) ∧ ki (rngD 0 j.toNat) (fun _ => True) ρ1) : WpI K F (iRng1 t) ρ ki := fun as σ H G e R q =>
  h as σ H G e _ fun xs ρ1 vs as1 H1 G1 ⟨j, ex, hj, h1⟩ e1 g1 r1 => by
    subst ex
    cases r1 with
    | cons a b => cases b; exact ⟨j, by rw [Rep.intE a], hj.1, hj.2, q _ _ _ _ _ _ _ h1 e1 g1 its_range⟩
theorem wi_rng2 {ki : List D → (En → Prop) → En → Prop} {t : TA} (h : WpA K F t ρ fun xs ρ1 => ∃ i j : Int, xs = [.dat (.int i), .dat (.int j)] ∧ (-(2 ^ 62) ≤ i ∧ i < 2 ^ 62 ∧ -(2 ^ 62) ≤ j ∧ j < 2 ^ 62) ∧ ki (rngD i (j - i).toNat) (fun _ => True) ρ1) : WpI K F (iRng2 t) ρ ki := fun as σ H G e R q =>
  h as σ H G e _ fun xs ρ1 vs as1 H1 G1 ⟨i, j, ex, hj, h1⟩ e1 g1 r1 => by
    subst ex
    cases r1 with
    | cons a b => cases b with | cons b c => cases c; exact ⟨i, j, by rw [Rep.intE a, Rep.intE b], hj, q _ _ _ _ _ _ _ h1 e1 g1 its_range⟩
/-! for -/
/-- cells that a turn made are forgotten -/
def truA (n : Nat) : AV → Option AV
  | .cel j => if j < n then some (.cel j) else none
  | x => some x
theorem pre_take {α : Type} {xs ys : List α} {n : Nat} (h : xs <+: ys) (hn : xs.length ≤ n) : xs <+: ys.take n := by
  obtain ⟨r, rfl⟩ := h
  rw [List.take_append, List.take_of_length_le hn]
  exact List.prefix_append _ _
def En.trunc (ρ : En) (n : Nat) : En := ⟨ρ.sl.map (fun o => o.bind (truA n)), ρ.ce.take n⟩
theorem EnvOk.trunc {as : List Addr} {σ : L2.St} {H G : Hp} (e : EnvOk K F ρ as σ H G) (n : Nat) (hn : F.as0.length ≤ n) : EnvOk K F (ρ.trunc n) (as.take n) σ H G := by
  refine ⟨e.gh, e.fh, e.fg, e.g0, List.Nodup.sublist (List.take_sublist n as) e.nd, pre_take e.pr hn, ?_, fun j c a hc ha => ?_, ?_, fun i av hi => ?_⟩
  · show (as.take n).length = (ρ.ce.take n).length
    rw [List.length_take, List.length_take, e.ln]
  · have hc : (ρ.ce.take n)[j]? = some c := hc
    rw [List.getElem?_take] at hc ha
    split at hc
    · rename_i h
      rw [if_pos h] at ha
      exact e.ce j c a hc ha
    · cases hc
  · show σ.length = (ρ.sl.map _).length
    rw [List.length_map]
    exact e.sn
  · have hi : (ρ.sl.map (fun o => o.bind (truA n)))[i]? = some (some av) := hi
    rw [List.getElem?_map] at hi
    obtain ⟨o, ho, eo⟩ := Option.map_eq_some_iff.mp hi
    obtain ⟨x, rfl, ex⟩ := Option.bind_eq_some_iff.mp eo
    obtain ⟨v, hv, r⟩ := e.sl i x ho
    refine ⟨v, hv, ?_⟩
    cases x with
    | dat d => cases ex; exact r
    | cel j =>
      have ex : (if j < n then some (AV.cel j) else none) = some av := ex
      split at ex
      · rename_i h
        cases ex
        obtain ⟨a, ha, rfl⟩ := r
        exact ⟨a, by rw [List.getElem?_take, if_pos h]; exact ha, rfl⟩
      · cases ex
theorem Gr.trunc {G0 G : Hp} {as0 as : List Addr} {n : Nat} (g : Gr G0 as0 G as) (h : as0.length ≤ n) : Gr G0 as0 G (as.take n) := by
  obtain ⟨g, r, rfl⟩ := g
  exact ⟨g, r.take (n - as0.length), by rw [List.take_append, List.take_of_length_le h]⟩
/-- .. all but one, which is then the next -/
def kepA (n j : Nat) : AV → Option AV
  | .cel i => if i = j then some (.cel n) else if i < n then some (.cel i) else none
  | x => some x
def En.keep (ρ : En) (n j : Nat) : En := ⟨ρ.sl.map (fun o => o.bind (kepA n j)), ρ.ce.take n ++ (ρ.ce[j]?).toList⟩
theorem EnvOk.keep {as : List Addr} {σ : L2.St} {H G : Hp} (e : EnvOk K F ρ as σ H G) {n j : Nat} (hn : F.as0.length ≤ n) (h1 : n ≤ j) (h2 : j < ρ.ce.length) : EnvOk K F (ρ.keep n j) (as.take n ++ (as[j]?).toList) σ H G := by
  have ja : j < as.length := by rw [e.ln]; exact h2
  have ea : as[j]? = some as[j] := List.getElem?_eq_getElem ja
  have ec : ρ.ce[j]? = some ρ.ce[j] := List.getElem?_eq_getElem h2
  have la : (as.take n).length = n := by rw [List.length_take]; omega
  have lc : (ρ.ce.take n).length = n := by rw [List.length_take]; omega
  have at_a : ∀ i, (as.take n ++ (as[j]?).toList)[i]? = if i < n then as[i]? else if i = n then some as[j] else none := fun i => by
    rw [ea]
    by_cases c : i < n
    · rw [if_pos c, List.getElem?_append_left (by rw [la]; exact c), List.getElem?_take, if_pos c]
    · rw [if_neg c, List.getElem?_append_right (by rw [la]; omega), la]
      by_cases c2 : i = n
      · rw [if_pos c2, c2, Nat.sub_self]; rfl
      · rw [if_neg c2]
        exact List.getElem?_eq_none (by show 1 ≤ i - n; omega)
  have at_c : ∀ i, (ρ.ce.take n ++ (ρ.ce[j]?).toList)[i]? = if i < n then ρ.ce[i]? else if i = n then some ρ.ce[j] else none := fun i => by
    rw [ec]
    by_cases c : i < n
    · rw [if_pos c, List.getElem?_append_left (by rw [lc]; exact c), List.getElem?_take, if_pos c]
    · rw [if_neg c, List.getElem?_append_right (by rw [lc]; omega), lc]
      by_cases c2 : i = n
      · rw [if_pos c2, c2, Nat.sub_self]; rfl
      · rw [if_neg c2]
        exact List.getElem?_eq_none (by show 1 ≤ i - n; omega)
  have sub : (as.take n ++ (as[j]?).toList).Sublist as := by
    rw [ea]
    conv => rhs; rw [← List.take_append_drop n as]
    refine List.Sublist.append (List.Sublist.refl _) (List.singleton_sublist.mpr ?_)
    refine List.mem_of_getElem? (i := j - n) ?_
    rw [List.getElem?_drop, show n + (j - n) = j by omega]
    exact ea
  refine ⟨e.gh, e.fh, e.fg, e.g0, List.Nodup.sublist sub e.nd, (pre_take e.pr hn).trans (List.prefix_append _ _), ?_, fun i c a hc ha => ?_, ?_, fun i av hi => ?_⟩
  · show (as.take n ++ _).length = (ρ.ce.take n ++ _).length
    rw [List.length_append, List.length_append, la, lc, ea, ec]; rfl
  · have hc : (ρ.ce.take n ++ (ρ.ce[j]?).toList)[i]? = some c := hc
    rw [at_c] at hc
    rw [at_a] at ha
    split at hc
    · rename_i h
      rw [if_pos h] at ha
      exact e.ce i c a hc ha
    · rename_i h
      rw [if_neg h] at ha
      split at hc
      · rename_i h3
        rw [if_pos h3] at ha
        exact e.ce j c a (ec.trans hc) (ea.trans ha)
      · cases hc
  · show σ.length = (ρ.sl.map _).length
    rw [List.length_map]
    exact e.sn
  · have hi : (ρ.sl.map (fun o => o.bind (kepA n j)))[i]? = some (some av) := hi
    rw [List.getElem?_map] at hi
    obtain ⟨o, ho, eo⟩ := Option.map_eq_some_iff.mp hi
    obtain ⟨x, rfl, ex⟩ := Option.bind_eq_some_iff.mp eo
    obtain ⟨v, hv, r⟩ := e.sl i x ho
    refine ⟨v, hv, ?_⟩
    cases x with
    | dat d => cases ex; exact r
    | cel k =>
      have ex : (if k = j then some (AV.cel n) else if k < n then some (AV.cel k) else none) = some av := ex
      obtain ⟨a, ha, rfl⟩ := r
      split at ex
      · rename_i h
        cases ex
        subst h
        exact ⟨a, by rw [at_a, if_neg (Nat.lt_irrefl _), if_pos rfl]; exact ea.symm.trans ha, rfl⟩
      · split at ex
        · rename_i h
          cases ex
          exact ⟨a, by rw [at_a, if_pos h]; exact ha, rfl⟩
        · cases ex
theorem Gr.keep {G0 G : Hp} {as0 as r : List Addr} {n : Nat} (g : Gr G0 as0 G as) (h : as0.length ≤ n) : Gr G0 as0 G (as.take n ++ r) := by
  obtain ⟨g, s, rfl⟩ := g
  exact ⟨g, s.take (n - as0.length) ++ r, by rw [List.take_append, List.take_of_length_le h, List.append_assoc]⟩
/-- a turn's end: as it is, or without the turn's own cells -/
inductive Tr (n : Nat) (ρ : En) : En → Prop
  | all : Tr n ρ ρ
  | cut : Tr n ρ (ρ.trunc n)
  | keep (j : Nat) (h1 : n ≤ j) (h2 : j < ρ.ce.length) : Tr n ρ (ρ.keep n j)
theorem Tr.run {n : Nat} {ρ' : En} {as as0 : List Addr} {σ : L2.St} {H G G0 : Hp} (t : Tr n ρ ρ') (e : EnvOk K F ρ as σ H G) (g : Gr G0 as0 G as) (h : as0.length ≤ n) (h0 : F.as0.length ≤ n) : ∃ as', EnvOk K F ρ' as' σ H G ∧ Gr G0 as0 G as' := by
  cases t with
  | all => exact ⟨as, e, g⟩
  | cut => exact ⟨_, e.trunc n h0, g.trunc h⟩
  | keep j h1 h2 => exact ⟨_, e.keep h0 h1 h2, g.keep h⟩
def Loop (K : PySem.W.Frag) (F : Fx) (n : Nat) (gd : En → Prop) (g : TG) (tb : TS) (ks : KS) : List D → En → Prop
  | [], ρ => gd ρ ∧ ks.nx ρ
  | d :: ds, ρ => gd ρ ∧ WpG K F g (.dat d) ρ fun ρ1 => WpS K F tb ρ1 { nx := fun ρ2 => ∃ ρ3, Tr n ρ2 ρ3 ∧ Loop K F n gd g tb ks ds ρ3, rt := ks.rt, ct := fun ρ2 => ∃ ρ3, Tr n ρ2 ρ3 ∧ Loop K F n gd g tb ks ds ρ3, bk := ks.nx }
theorem Loop.gd {n : Nat} {gd : En → Prop} {g : TG} {tb : TS} : ∀ {ds : List D} {ρ : En}, Loop K F n gd g tb ks ds ρ → gd ρ
  | [], _, h => h.1
  | _ :: _, _, h => h.1
theorem ws_for {wi : TI} {g : TG} {tb : TS} (h : WpI K F wi ρ fun ds gd ρ1 => Loop K F ρ1.ce.length gd g tb ks ds ρ1) : WpS K F (tFor wi g tb) ρ ks := fun as σ H G e D q =>
  h as σ H G e _ fun ds gd J ρ1 as1 H1 G1 h1 e1 g1 its => by
    have ln1 : as1.length ≤ ρ1.ce.length := by rw [e1.ln]; exact Nat.le_refl _
    have ln0 : F.as0.length ≤ ρ1.ce.length := Nat.le_trans e1.pr.length_le ln1
    refine ⟨fun i m σ' H' => m = ds.length - i ∧ i ≤ ds.length ∧ ∃ ρ2 as2 G2, EnvOk K F ρ2 as2 σ' H' G2 ∧ Gr G1 as1 G2 as2 ∧ Loop K F ρ1.ce.length gd g tb ks (ds.drop i) ρ2, ⟨_, rfl, Nat.zero_le _, ρ1, as1, G1, e1, .refl, h1⟩, ?_⟩
    rintro i m σ' H' ⟨rfl, hi, ρ2, as2, G2, e2, g2, lp⟩
    obtain ⟨go, st, yl⟩ := its ρ2 as2 σ' H' G2 e2 g2 lp.gd
    by_cases hlt : i < ds.length
    · obtain ⟨d, hd⟩ : ∃ d, ds[i]? = some d := ⟨_, List.getElem?_eq_getElem hlt⟩
      have ed : ds.drop i = d :: ds.drop (i + 1) := by
        rw [List.drop_eq_getElem_cons hlt]
        rw [List.getElem?_eq_getElem hlt] at hd
        cases hd
        rfl
      rw [ed] at lp
      refine .inr ⟨go i hlt, fun σ3 H3 => ∃ ρ3 as3 G3, EnvOk K F ρ3 as3 σ3 H3 G3 ∧ Gr G1 as1 G3 as3 ∧ Loop K F ρ1.ce.length gd g tb ks (ds.drop (i + 1)) ρ3, fun σ3 H3 ⟨ρ3, as3, G3, e3, g3, l3⟩ => ⟨_, by omega, rfl, hlt, ρ3, as3, G3, e3, g3, l3⟩, fun x H3 y => ?_⟩
      obtain ⟨d', G3, hd', e3, g3, rx⟩ := yl i x H3 hlt y
      rw [hd] at hd'
      cases hd'
      refine lp.2 as2 σ' H3 G3 x (e3 _ e2) rx _ fun ρ4 as4 σ4 H4 G4 h4 e4 g4 => ?_
      refine h4 as4 σ4 H4 G4 e4 _ ⟨fun ρ5 as5 σ5 H5 G5 ⟨ρ6, tr, h5⟩ e5 g5 => ?_, fun av ρ5 v as5 σ5 H5 G5 h5 e5 g5 r5 => q.rt av ρ5 v as5 σ5 H5 G5 h5 e5 (g1.trans (g2.trans (g3.trans (g4.trans g5)))) r5, fun ρ5 as5 σ5 H5 G5 h5 e5 g5 => q.nx ρ5 as5 σ5 H5 G5 h5 e5 (g1.trans (g2.trans (g3.trans (g4.trans g5)))), fun ρ5 as5 σ5 H5 G5 ⟨ρ6, tr, h5⟩ e5 g5 => ?_, q.fr⟩
      · obtain ⟨as6, e6, g6⟩ := tr.run e5 (g2.trans (g3.trans (g4.trans g5))) ln1 ln0
        exact ⟨ρ6, as6, G5, e6, g6, h5⟩
      · obtain ⟨as6, e6, g6⟩ := tr.run e5 (g2.trans (g3.trans (g4.trans g5))) ln1 ln0
        exact ⟨ρ6, as6, G5, e6, g6, h5⟩
    · have ei : i = ds.length := by omega
      subst ei
      rw [List.drop_length] at lp
      exact .inl ⟨st, q.nx ρ2 as2 σ' H' G2 lp.2 e2 (g1.trans g2)⟩
/-! while -/
theorem ws_while {tc : TT} {tb : TS} (W : Nat → En → Prop) (m0 : Nat) (h0 : W m0 ρ) (hs : ∀ m ρ1, W m ρ1 → WpT K F tc ρ1 fun b ρ2 => if b = true then WpS K F tb ρ2 { nx := fun ρ3 => ∃ m', m' < m ∧ W m' ρ3, rt := ks.rt, ct := fun ρ3 => ∃ m', m' < m ∧ W m' ρ3, bk := ks.nx } else ks.nx ρ2) : WpS K F (tWhile tc tb) ρ ks := fun as σ H G e D q => by
  refine ⟨fun m σ' H' => ∃ ρ2 as2 G2, EnvOk K F ρ2 as2 σ' H' G2 ∧ Gr G as G2 as2 ∧ W m ρ2, ⟨m0, ρ, as, G, e, .refl, h0⟩, ?_⟩
  rintro m σ' H' ⟨ρ2, as2, G2, e2, g2, hw⟩
  refine hs m ρ2 hw as2 σ' H' G2 e2 _ fun b ρ3 as3 H3 G3 h3 e3 g3 => ?_
  cases b with
  | true =>
    refine ⟨fun σ4 H4 => ∃ m', m' < m ∧ ∃ ρ4 as4 G4, EnvOk K F ρ4 as4 σ4 H4 G4 ∧ Gr G as G4 as4 ∧ W m' ρ4, fun σ4 H4 z => z, ?_⟩
    refine (show WpS K F tb ρ3 _ from h3) as3 σ' H3 G3 e3 _ ⟨fun ρ4 as4 σ4 H4 G4 ⟨m', hm, w4⟩ e4 g4 => ⟨m', hm, ρ4, as4, G4, e4, g2.trans (g3.trans g4), w4⟩, fun av ρ4 v as4 σ4 H4 G4 h4 e4 g4 r4 => q.rt av ρ4 v as4 σ4 H4 G4 h4 e4 (g2.trans (g3.trans g4)) r4, fun ρ4 as4 σ4 H4 G4 h4 e4 g4 => q.nx ρ4 as4 σ4 H4 G4 h4 e4 (g2.trans (g3.trans g4)), fun ρ4 as4 σ4 H4 G4 ⟨m', hm, w4⟩ e4 g4 => ⟨m', hm, ρ4, as4, G4, e4, g2.trans (g3.trans g4), w4⟩, q.fr⟩
  | false => exact q.nx ρ3 as3 σ' H3 G3 h3 e3 (g2.trans g3)
end
/-! ### rules of the data layer: promises and calls -/
inductive RV where
  | dat (d : D)
  | new (ds : List D)
def FrX (as : List Addr) (H H' : Hp) : Prop := ∀ a o, a ∉ as → H a = some o → H' a = some o
def NewG (H G G' : Hp) : Prop := ∀ a o, G' a = some o → G a = some o ∨ H a = none
def noGone : List Cell → Bool
  | [] => true
  | .gone :: _ => false
  | .lst _ :: r => noGone r
  | .drw :: r => noGone r
  | .ins _ _ _ :: r => noGone r
structure CellsOk (K : PySem.W.Frag) (G H : Hp) (as : List Addr) (cs : List Cell) : Prop where
  ln : as.length = cs.length
  nd : as.Nodup
  ok : ∀ (j : Nat) (c : Cell) (a : Addr), cs[j]? = some c → as[j]? = some a → (∃ o, H a = some o) ∧ CellOk K G H a c
def RepR (K : PySem.W.Frag) (H G' H' : Hp) : RV → V → Prop
  | .dat d, v => Rep K G' d v
  | .new ds, v => ∃ a vs, v = .ref a ∧ H a = none ∧ G' a = none ∧ H' a = some (.lst vs) ∧ Reps K G' ds vs
abbrev PW0 := List AV → List Cell → (RV → List Cell → Prop) → (Addr → Prop) → Prop
/-- a def's promise by data: W tells what is asked of the arguments and what comes -/
def spG (K : PySem.W.Frag) (W : PW0) : Sp := fun vs H Q E => ∃ G as xs cs post exc, Same G H ∧ CellsOk K G H as cs ∧ RepAs K G as xs vs ∧ W xs cs post exc ∧
  (∀ r cs' v H' G', post r cs' → FrX as H H' → Same G G' → Same G' H' → NewG H G G' → CellsOk K G' H' as cs' → RepR K H G' H' r v → Q v H') ∧ (∀ C H', exc C → FrX as H H' → E (.ref C) none H')
section
variable {K : PySem.W.Frag} {F : Fx} {ρ : En} {k : AV → En → Prop} {kb : Bool → En → Prop} {ks : KS} {t u : TS} {ta tb te : TE} {tt tu : TT}
/-- what a def hands back: data, or a list that it made -/
inductive FinR (n : Nat) (ρ : En) : AV → RV → Prop
  | dat (d : D) : FinR n ρ (.dat d) (.dat d)
  | cel {j : Nat} {ds : List D} : n ≤ j → ρ.ce[j]? = some (.lst ds) → FinR n ρ (.cel j) (.new ds)
def KS.fin (n : Nat) (post : RV → List Cell → Prop) : KS where
  nx := fun ρ => noGone (ρ.ce.take n) = true ∧ post (.dat .non) (ρ.ce.take n)
  rt := fun x ρ => ∃ r, FinR n ρ x r ∧ noGone (ρ.ce.take n) = true ∧ post r (ρ.ce.take n)
theorem noGone_at {cs : List Cell} (h : noGone cs = true) : ∀ {j : Nat}, cs[j]? ≠ some .gone := by
  induction cs with
  | nil => intro j e; simp at e
  | cons c cs ih =>
    intro j e
    cases j with
    | zero => simp at e; subst e; rw [noGone] at h; cases h
    | succ j =>
      have h' : noGone cs = true := by
        cases c <;> first | (rw [noGone] at h; exact h) | (rw [noGone] at h; cases h)
      exact ih h' (by simpa using e)
theorem CellOk.none {G H : Hp} {a : Addr} {c : Cell} (h : CellOk K G H a c) (n : c ≠ .gone) : G a = none := by
  cases c with
  | gone => exact absurd rfl n
  | lst ds => exact h.1
  | drw => exact h.1
  | ins C ns ds => exact h.1
theorem RepAs.get {G : Hp} {as : List Addr} {xs : List AV} {vs : List V} (h : RepAs K G as xs vs) : ∀ {i : Nat} {x : AV}, xs[i]? = some x → ∃ v, vs[i]? = some v ∧ RepA K G as x v := by
  induction h with
  | nil => intro i x e; simp at e
  | cons a _ ih =>
    intro i x e
    cases i with
    | zero => simp at e; subst e; exact ⟨_, rfl, a⟩
    | succ i => obtain ⟨v, q, r⟩ := ih (i := i) (by simpa using e); exact ⟨v, by simpa using q, r⟩
/-- the slots at a def's begin -/
def En.start (n : Nat) (xs : List AV) (cs : List Cell) : En := ⟨xs.map some ++ List.replicate (n - xs.length) none, cs⟩
/-- a def's body by data -/
theorem enterF {N : List Str} {W : PW0} {vs : List V} {H : Hp} {Q : VK} {E : XK} {t : TS} (frv : V → Prop) (hfr : ∀ v H', frv v → Q v H') (h : spG K W vs H Q E) (body : ∀ F xs cs post, F.fr = frv → F.E = E → W xs cs post F.ex → WpS K F t (En.start N.length xs cs) (KS.fin cs.length post)) : t { nx := fun _ H' => Q .non H', rt := Q } (L2.start N vs) H := by
  obtain ⟨G, as, xs, cs, post, exc, gh, ok, rx, hw, hq, he⟩ := h
  have fr : ∀ H', Same (fun a => if a ∈ as then none else H a) H' → FrX as H H' := fun H' s a o na ha => s a o (by show (if a ∈ as then none else H a) = some o; rw [if_neg na]; exact ha)
  let F : Fx := ⟨fun a => if a ∈ as then none else H a, G, E, exc, fun C H' hc s => he C H' hc (fr H' s), frv, []⟩
  have ln := rx.length
  have e0 : EnvOk K F (En.start N.length xs cs) as (L2.start N vs) H G := by
    refine ⟨gh, fun a o h => ?_, fun a o h => .inl h, Same.refl _, ok.nd, List.nil_prefix, ok.ln, fun j c a hc ha => ?_, ?_, fun i av hi => ?_⟩
    · have h' : (if a ∈ as then none else H a) = some o := h
      by_cases q : a ∈ as
      · rw [if_pos q] at h'; cases h'
      · rw [if_neg q] at h'; exact h'
    · refine ⟨?_, ok.ok j c a hc ha⟩
      show (if a ∈ as then none else H a) = none
      rw [if_pos (List.mem_of_getElem? ha)]
    · show (vs.map some ++ List.replicate (N.length - vs.length) none).length = (xs.map some ++ List.replicate (N.length - xs.length) none).length
      simp only [List.length_append, List.length_map, List.length_replicate]
      omega
    · have hi' : (xs.map some ++ List.replicate (N.length - xs.length) none)[i]? = some (some av) := hi
      by_cases q : i < xs.length
      · rw [List.getElem?_append_left (by rw [List.length_map]; exact q), List.getElem?_map] at hi'
        obtain ⟨x, hx, ex⟩ := Option.map_eq_some_iff.mp hi'
        cases ex
        obtain ⟨v, hv, r⟩ := rx.get hx
        refine ⟨v, ?_, r⟩
        show (vs.map some ++ List.replicate (N.length - vs.length) none)[i]? = some (some v)
        rw [List.getElem?_append_left (by rw [List.length_map]; omega), List.getElem?_map, hv]
        rfl
      · rw [List.getElem?_append_right (by rw [List.length_map]; omega), List.getElem?_replicate] at hi'
        split at hi' <;> cases hi'
  -- how it ends
  have fin : ∀ {ρ' : En} {as' : List Addr} {σ' : L2.St} {H' G' : Hp} {r : RV} {v : V}, EnvOk K F ρ' as' σ' H' G' → Gr G as G' as' → noGone (ρ'.ce.take cs.length) = true → post r (ρ'.ce.take cs.length) → RepR K H G' H' r v → Q v H' := by
    intro ρ' as' σ' H' G' r v e g ng hp rr
    obtain ⟨sg, rs, ea⟩ := g
    have lc : cs.length ≤ ρ'.ce.length := by rw [← e.ln, ea, List.length_append, ok.ln]; omega
    have lt : as.length = (ρ'.ce.take cs.length).length := by rw [List.length_take, ok.ln]; omega
    have ce : ∀ (j : Nat) (c : Cell) (a : Addr), (ρ'.ce.take cs.length)[j]? = some c → as[j]? = some a → ρ'.ce[j]? = some c ∧ as'[j]? = some a := fun j c a hc ha => by
      have hj : j < as.length := (List.getElem?_eq_some_iff.mp ha).1
      refine ⟨?_, by rw [ea, List.getElem?_append_left hj]; exact ha⟩
      rw [List.getElem?_take] at hc
      rw [if_pos (by rw [← ok.ln]; exact hj)] at hc
      exact hc
    refine hq r _ v H' G' hp (fr H' e.fh) sg e.gh (fun a o ha => ?_) ⟨lt, ok.nd, fun j c a hc ha => ?_⟩ rr
    · rcases e.fg a o ha with z | z
      · exact .inl z
      · refine .inr ?_
        have z' : (if a ∈ as then none else H a) = none := z
        by_cases q : a ∈ as
        · exfalso
          obtain ⟨j, hj⟩ := List.getElem?_of_mem q
          have hl : j < (ρ'.ce.take cs.length).length := by rw [← lt]; exact (List.getElem?_eq_some_iff.mp hj).1
          have hc := List.getElem?_eq_getElem hl
          obtain ⟨h1, h2⟩ := ce j _ a hc hj
          obtain ⟨_, _, okc⟩ := e.ce j _ a h1 h2
          have gn := CellOk.none okc fun z => noGone_at ng (by rw [hc, z])
          rw [gn] at ha
          cases ha
        · rw [if_neg q] at z'; exact z'
    · obtain ⟨h1, h2⟩ := ce j c a hc ha
      exact (e.ce j c a h1 h2).2
  refine body F xs cs post rfl rfl hw as _ H G e0 _ ⟨fun ρ' as' σ' H' G' ⟨ng, hp⟩ e g => fin (r := .dat .non) e g ng hp Rep.non, fun av ρ' v as' σ' H' G' ⟨r, fr', ng, hp⟩ e g ra => ?_, fun ρ' as' σ' H' G' h _ _ => h.elim, fun ρ' as' σ' H' G' h _ _ => h.elim, fun v H' z => hfr v H' z⟩
  cases fr' with
  | dat d => exact fin (r := .dat d) e g ng hp ra
  | @cel j ds nj hc =>
    obtain ⟨a, ha, rfl⟩ := ra
    refine fin (r := .new ds) e g ng hp ?_
    obtain ⟨fa, _, ga, ws, hw2, hr⟩ := e.ce j _ a hc ha
    refine ⟨a, ws, rfl, ?_, ga, hw2, hr⟩
    have z' : (if a ∈ as then none else H a) = none := fa
    by_cases q : a ∈ as
    · exfalso
      obtain ⟨i, hi⟩ := List.getElem?_of_mem q
      obtain ⟨_, rs, ea⟩ := g
      have hil : i < as.length := (List.getElem?_eq_some_iff.mp hi).1
      have hi2 : as'[i]? = some a := by rw [ea, List.getElem?_append_left hil]; exact hi
      have ij := (List.getElem?_inj (List.getElem?_eq_some_iff.mp hi2).1 e.nd).mp (hi2.trans ha.symm)
      rw [ok.ln] at hil
      omega
    · rw [if_neg q] at z'; exact z'
theorem enter {N : List Str} {W : PW0} {vs : List V} {H : Hp} {Q : VK} {E : XK} {t : TS} (h : spG K W vs H Q E) (body : ∀ F xs cs post, F.E = E → W xs cs post F.ex → WpS K F t (En.start N.length xs cs) (KS.fin cs.length post)) : t { nx := fun _ H' => Q .non H', rt := Q } (L2.start N vs) H := enterF (fun _ => False) (fun _ _ z => z.elim) h fun F xs cs post _ hE hw => body F xs cs post hE hw
/-! calls -/
theorem we_call {sp : Sp} {E : XK} {t : TA} (h : WpA K F t ρ fun xs ρ1 => WpSp K F sp (fun _ => E) xs ρ1 k) : WpE K F (tCall sp [] E t) ρ k := fun as σ H G e Q q =>
  h as σ H G e _ fun xs ρ1 vs as1 H1 G1 h1 e1 g1 r1 => by
    rw [List.append_nil]
    exact h1 as1 σ H1 G1 vs e1 r1 Q (q.imp g1 fun _ _ z => z)
theorem we_call1 {sp : Sp} {v : V} {x : AV} {E : XK} {t : TA} (hv : ∀ G as, RepA K G as x v) (h : WpA K F t ρ fun xs ρ1 => WpSp K F sp (fun _ => E) (xs ++ [x]) ρ1 k) : WpE K F (tCall sp [v] E t) ρ k := fun as σ H G e Q q =>
  h as σ H G e _ fun xs ρ1 vs as1 H1 G1 h1 e1 g1 r1 => h1 as1 σ H1 G1 _ e1 (r1.append (.cons (hv _ _) .nil)) Q (q.imp g1 fun _ _ z => z)
theorem we_callS {sp : Sp} {E : L2.St → XK} {t : TA} (h : WpA K F t ρ fun xs ρ1 => WpSp K F sp E xs ρ1 k) : WpE K F (tCallS sp E t) ρ k := fun as σ H G e Q q =>
  h as σ H G e _ fun xs ρ1 vs as1 H1 G1 h1 e1 g1 r1 => h1 as1 σ H1 G1 vs e1 r1 Q (q.imp g1 fun _ _ z => z)
theorem we_callK {sp : Sp} {gV : List V → List V → List V} {gA : List AV → List AV → List AV} {E : XK} {t tk : TA} (hg : ∀ G as xs ys vs ws, RepAs K G as xs vs → RepAs K G as ys ws → RepAs K G as (gA xs ys) (gV vs ws)) (h : WpA K F t ρ fun xs ρ1 => WpA K F tk ρ1 fun ys ρ2 => WpSp K F sp (fun _ => E) (gA xs ys) ρ2 k) : WpE K F (tCallK sp gV E t tk) ρ k := fun as σ H G e Q q =>
  h as σ H G e _ fun xs ρ1 vs as1 H1 G1 h1 e1 g1 r1 => h1 as1 σ H1 G1 e1 _ fun ys ρ2 ws as2 H2 G2 h2 e2 g2 r2 => h2 as2 σ H2 G2 _ e2 (hg _ _ _ _ _ _ (r1.mono g2) r2) Q (q.imp (g1.trans g2) fun _ _ z => z)
/-- a cell of a list that stands already -/
theorem EnvOk.ownC {as : List Addr} {σ : L2.St} {H G : Hp} {p : Addr} {vs : List V} {ds : List D} (e : EnvOk K F ρ as σ H G) (hp : H p = some (.lst vs)) (gp : G p = none) (fp : F.Fr p = none) (np : p ∉ as) (hr : Reps K G ds vs) : EnvOk K F (ρ.add ds) (as ++ [p]) σ H G := by
  have gr : Gr G as G (as ++ [p]) := ⟨Same.refl _, [p], rfl⟩
  refine ⟨e.gh, e.fh, e.fg, e.g0, ?_, e.pr.trans (List.prefix_append _ _), by show (as ++ [p]).length = (ρ.ce ++ [Cell.lst ds]).length; rw [List.length_append, List.length_append, e.ln]; rfl, fun j c a hc ha => ?_, e.sn, fun i av hi => ?_⟩
  · rw [List.nodup_append]
    refine ⟨e.nd, by simp, fun a ha b hb => ?_⟩
    rw [List.mem_singleton] at hb
    subst hb
    exact fun z => np (z ▸ ha)
  · have hc : (ρ.ce ++ [Cell.lst ds])[j]? = some c := hc
    by_cases hj : j < ρ.ce.length
    · rw [List.getElem?_append_left hj] at hc
      rw [List.getElem?_append_left (by rw [e.ln]; exact hj)] at ha
      exact e.ce j c a hc ha
    · have hj2 : ρ.ce.length ≤ j := by omega
      rw [List.getElem?_append_right hj2] at hc
      rw [List.getElem?_append_right (by rw [e.ln]; exact hj2), e.ln] at ha
      cases z : j - ρ.ce.length with
      | zero =>
        rw [z] at hc ha
        cases hc
        cases ha
        exact ⟨fp, ⟨_, hp⟩, gp, vs, hp, hr⟩
      | succ m => rw [z] at hc; simp at hc
  · obtain ⟨v, hv, r⟩ := e.sl i av hi
    exact ⟨v, hv, r.mono gr⟩
/-- arguments as data: cells are lent to be read -/
inductive AsD (ρ : En) : List AV → List D → Prop
  | nil : AsD ρ [] []
  | dat {d : D} {xs : List AV} {ds : List D} : AsD ρ xs ds → AsD ρ (.dat d :: xs) (d :: ds)
  | cel {j : Nat} {es : List D} {xs : List AV} {ds : List D} : ρ.ce[j]? = some (.lst es) → AsD ρ xs ds → AsD ρ (.cel j :: xs) (.lst es :: ds)
def nocel : List AV → Bool
  | [] => true
  | .cel _ :: _ => false
  | .dat _ :: r => nocel r
theorem nocel_mem {xs : List AV} (h : nocel xs = true) {j : Nat} : .cel j ∉ xs := by
  induction xs with
  | nil => simp
  | cons x xs ih =>
    cases x with
    | cel i => rw [nocel] at h; cases h
    | dat d => rw [nocel] at h; simp [ih h]
theorem AsD.mem {xs : List AV} {ds : List D} (h : AsD ρ xs ds) {j : Nat} (m : .cel j ∈ xs) : ∃ es, ρ.ce[j]? = some (.lst es) := by
  induction h with
  | nil => cases m
  | dat _ ih => rcases List.mem_cons.mp m with z | z; (cases z); exact ih z
  | cel hc _ ih => rcases List.mem_cons.mp m with z | z; (cases z; exact ⟨_, hc⟩); exact ih z
/-- what follows a call by data -/
def aft (ρ : En) (xs : List AV) (k : AV → En → Prop) : RV → Prop
  | .dat d => (nocel xs || hard d) = true ∧ k (.dat d) ρ
  | .new es => (nocel xs || hards es) = true ∧ k (.cel ρ.ce.length) (ρ.add es)
open Classical in
theorem wsp0 {W : PW0} {E : L2.St → XK} {xs : List AV} {ds : List D} {exc : Addr → Prop} (ha : AsD ρ xs ds) (hE : ∀ C as σ H G, exc C → EnvOk K F ρ as σ H G → E σ (.ref C) none H) (hw : W (ds.map .dat) [] (fun r _ => aft ρ xs k r) exc) : WpSp K F (spG K W) E xs ρ k := by
  intro as σ H G vs e rx Q q
  let B : Addr → Prop := fun b => ∃ j : Nat, .cel j ∈ xs ∧ as[j]? = some b
  have bcell : ∀ b, B b → G b = none ∧ ∃ ws, H b = some (.lst ws) := fun b ⟨j, m, hj⟩ => by
    obtain ⟨es, hc⟩ := ha.mem m
    obtain ⟨_, _, g, ws, hw, _⟩ := e.ce j _ b hc hj
    exact ⟨g, ws, hw⟩
  let G1 : Hp := fun b => if B b then H b else G b
  have g1 : ∀ b, B b → G1 b = H b := fun b h => if_pos h
  have g2 : ∀ b, ¬ B b → G1 b = G b := fun b h => if_neg h
  have s1 : Same G G1 := fun b o h => by
    rw [g2 b fun z => by rw [(bcell b z).1] at h; cases h]; exact h
  have h1 : Same G1 H := fun b o h => by
    by_cases z : B b
    · rw [g1 b z] at h; exact h
    · rw [g2 b z] at h; exact e.gh _ _ h
  have rd : RepAs K G1 [] (ds.map .dat) vs := by
    have main : ∀ (ys : List AV) (es : List D) (ws : List V), (∀ j, .cel j ∈ ys → .cel j ∈ xs) → AsD ρ ys es → RepAs K G as ys ws → RepAs K G1 [] (es.map .dat) ws := by
      intro ys es ws sub hd
      induction hd generalizing ws with
      | nil => intro r; cases r; exact .nil
      | dat _ ih =>
        intro r
        cases r with
        | cons a b => exact .cons (Rep.mono s1 _ _ a) (ih _ (fun j m => sub j (List.mem_cons_of_mem _ m)) b)
      | @cel j es2 ys2 ds2 hc _ ih =>
        intro r
        cases r with
        | cons a b =>
          obtain ⟨p, hp, rfl⟩ := a
          obtain ⟨_, _, g, us, hu, hr⟩ := e.ce j _ p hc hp
          refine .cons ?_ (ih _ (fun j m => sub j (List.mem_cons_of_mem _ m)) b)
          exact Rep.lst (by rw [g1 p ⟨j, sub j List.mem_cons_self, hp⟩]; exact hu) (Reps.mono s1 _ _ hr)
    exact main xs ds vs (fun _ m => m) ha rx
  refine ⟨G1, [], ds.map .dat, [], _, exc, h1, ⟨rfl, List.nodup_nil, fun j c a hc => by simp at hc⟩, rd, hw, ?_, ?_⟩
  · intro r cs' v H' G1' hp fr sg gh' nw _ rr
    have hh : Same H H' := fun a o h => fr a o (by simp) h
    let G' : Hp := fun b => if B b then none else G1' b
    have k1 : ∀ b, B b → G' b = none := fun b h => if_pos h
    have k2 : ∀ b, ¬ B b → G' b = G1' b := fun b h => if_neg h
    have sG : Same G G' := fun b o h => by
      have nb : ¬ B b := fun z => by rw [(bcell b z).1] at h; cases h
      rw [k2 b nb]; exact sg _ _ (s1 _ _ h)
    have keep : ∀ a o, G' a = some o → G a = some o ∨ H a = none := fun a o h => by
      by_cases z : B a
      · rw [k1 a z] at h; cases h
      · rw [k2 a z] at h
        rcases nw a o h with y | y
        · rw [g2 a z] at y; exact .inl y
        · exact .inr y
    have e' : EnvOk K F ρ as σ H' G' := by
      refine ⟨fun a o h => ?_, Same.trans e.fh hh, fun a o h => ?_, Same.trans e.g0 sG, e.nd, e.pr, e.ln, fun j c a hc hj => ?_, e.sn, fun i av hi => ?_⟩
      · by_cases z : B a
        · rw [k1 a z] at h; cases h
        · rw [k2 a z] at h; exact gh' _ _ h
      · rcases keep a o h with y | y
        · exact e.fg _ _ y
        · exact .inr (Same.none e.fh y)
      · obtain ⟨fa, ⟨o, ho⟩, ok⟩ := e.ce j c a hc hj
        refine ⟨fa, ⟨o, hh _ _ ho⟩, ?_⟩
        have gn : G a = none → G' a = none := fun g => by
          cases z : G' a with
          | none => rfl
          | some o2 =>
            rcases keep a o2 z with y | y
            · rw [g] at y; cases y
            · rw [ho] at y; cases y
        cases c with
        | gone => trivial
        | lst es => obtain ⟨g, ws, hw, r⟩ := ok; exact ⟨gn g, ws, hh _ _ hw, Reps.mono sG _ _ r⟩
        | ins C9 ns9 es => obtain ⟨g, dx9, ws, hw, ln9, r⟩ := ok; exact ⟨gn g, dx9, ws, hh _ _ hw, ln9, Reps.mono sG _ _ r⟩
        | drw => obtain ⟨g, ws, hw, r⟩ := ok; exact ⟨gn g, ws, hh _ _ hw, r⟩
      · obtain ⟨v, hv, r⟩ := e.sl i av hi
        exact ⟨v, hv, r.mono ⟨sG, [], by simp⟩⟩
    have back : ∀ a o, G1' a = some o → G' a = some o ∨ ∃ xs, o = HO.lst xs := fun a o h => by
      by_cases z : B a
      · obtain ⟨_, ws, hw⟩ := bcell a z
        rw [sg a _ (by rw [g1 a z]; exact hw)] at h
        cases h
        exact .inr ⟨_, rfl⟩
      · exact .inl (by rw [k2 a z]; exact h)
    have all : nocel xs = true → Same G1' G' := fun nc a o h => by
      rw [k2 a fun ⟨j, m, _⟩ => nocel_mem nc m]; exact h
    cases r with
    | dat d =>
      obtain ⟨hc, hk⟩ := hp
      refine q _ ρ v as H' G' hk e' ⟨sG, [], by simp⟩ ?_
      rcases Bool.or_eq_true_iff.mp hc with z | z
      · exact Rep.mono (all z) _ _ rr
      · exact Rep.hard back _ _ z rr
    | new es =>
      obtain ⟨hc, hk⟩ := hp
      obtain ⟨p, ws, rfl, hp0, gp, hp1, hr⟩ := rr
      have np : p ∉ as := fun m => by
        obtain ⟨j, hj⟩ := List.getElem?_of_mem m
        have hl : j < ρ.ce.length := by rw [← e.ln]; exact (List.getElem?_eq_some_iff.mp hj).1
        obtain ⟨_, ⟨o, ho⟩, _⟩ := e.ce j _ p (List.getElem?_eq_getElem hl) hj
        rw [ho] at hp0
        cases hp0
      have nb : ¬ B p := fun ⟨j, _, hj⟩ => np (List.mem_of_getElem? hj)
      have hr' : Reps K G' es ws := by
        rcases Bool.or_eq_true_iff.mp hc with z | z
        · exact Reps.mono (all z) _ _ hr
        · exact Reps.hard back _ _ z hr
      exact q _ _ _ _ H' G' hk (e'.ownC hp1 (by rw [k2 p nb]; exact gp) (Same.none e.fh hp0) np hr') ⟨sG, [p], rfl⟩ (RepA.last e.ln)
  · intro C H' hc fr
    have hh : Same H H' := fun a o h => fr a o (by simp) h
    refine hE C as σ H' G hc ⟨Same.trans e.gh hh, Same.trans e.fh hh, e.fg, e.g0, e.nd, e.pr, e.ln, fun j c a hc hj => ?_, e.sn, e.sl⟩
    obtain ⟨fa, ⟨o, ho⟩, ok⟩ := e.ce j c a hc hj
    refine ⟨fa, ⟨o, hh _ _ ho⟩, ?_⟩
    cases c with
    | gone => trivial
    | lst es => obtain ⟨g, ws, hw, r⟩ := ok; exact ⟨g, ws, hh _ _ hw, r⟩
    | ins C9 ns9 es => obtain ⟨g, dx9, ws, hw, ln9, r⟩ := ok; exact ⟨g, dx9, ws, hh _ _ hw, ln9, r⟩
    | drw => obtain ⟨g, ws, hw, r⟩ := ok; exact ⟨g, ws, hh _ _ hw, r⟩
/-- the same where the caller lets nothing out -/
theorem wspE {W : PW0} {E : L2.St → XK} {xs : List AV} {ds : List D} (ha : AsD ρ xs ds) (hw : W (ds.map .dat) [] (fun r _ => aft ρ xs k r) (fun _ => False)) : WpSp K F (spG K W) E xs ρ k := wsp0 ha (fun _ _ _ _ _ z => z.elim) hw
/-- and where it lets the callee's errors out -/
theorem wspX {W : PW0} {xs : List AV} {ds : List D} (ha : AsD ρ xs ds) (hw : W (ds.map .dat) [] (fun r _ => aft ρ xs k r) F.ex) : WpSp K F (spG K W) (fun _ => F.E) xs ρ k := wsp0 ha (fun C as σ H G h e => F.hE C H h e.fh) hw
/-- a cell is lent to be written -/
def lend : AV → AV
  | .cel _ => .cel 0
  | x => x
def onlyC (j : Nat) : List AV → Bool
  | [] => true
  | .cel i :: r => decide (i = j) && onlyC j r
  | .dat _ :: r => onlyC j r
def aft1 (ρ : En) (j : Nat) (k : AV → En → Prop) (r : RV) (cs : List Cell) : Prop := ∃ c, cs = [c] ∧ noGone cs = true ∧ match r with
  | .dat d => k (.dat d) (ρ.cell j c)
  | .new es => k (.cel ρ.ce.length) ((ρ.cell j c).add es)
theorem wsp1P {W : PW0} {E : L2.St → XK} {xs : List AV} {j : Nat} {c : Cell} {post : RV → List Cell → Prop} (hj : ρ.ce[j]? = some c) (hn : noGone [c] = true) (ho : onlyC j xs = true) (hw : W (xs.map lend) [c] post (fun _ => False)) (hpo : ∀ r cs, post r cs → aft1 ρ j k r cs) : WpSp K F (spG K W) E xs ρ k := by
  intro as σ H G vs e rx Q q
  have hl : j < as.length := by rw [e.ln]; exact (List.getElem?_eq_some_iff.mp hj).1
  obtain ⟨a, ha⟩ : ∃ a, as[j]? = some a := ⟨_, List.getElem?_eq_getElem hl⟩
  obtain ⟨fa, hx, ok⟩ := e.ce j c a hj ha
  have rl : RepAs K G [a] (xs.map lend) vs := by
    have main : ∀ (ys : List AV) (ws : List V), onlyC j ys = true → RepAs K G as ys ws → RepAs K G [a] (ys.map lend) ws := by
      intro ys
      induction ys with
      | nil => intro ws _ r; cases r; exact .nil
      | cons y ys ih =>
        intro ws ho r
        cases r with
        | cons r1 r2 =>
          cases y with
          | dat d => exact .cons (Rep.mono (Same.refl _) _ _ r1) (ih _ ho r2)
          | cel i =>
            rw [onlyC, Bool.and_eq_true] at ho
            have ei := of_decide_eq_true ho.1
            subst ei
            obtain ⟨p, hp, rfl⟩ := r1
            rw [ha] at hp
            cases hp
            exact .cons ⟨a, rfl, rfl⟩ (ih _ ho.2 r2)
    exact main xs vs ho rx
  refine ⟨G, [a], xs.map lend, [c], _, _, e.gh, ⟨rfl, by simp, fun i c2 b hc hb => ?_⟩, rl, hw, ?_, fun _ _ z => z.elim⟩
  · cases i with
    | zero => simp at hc hb; subst hc hb; exact ⟨hx, ok⟩
    | succ i => simp at hc
  · rintro r cs' v H' G' hp0 fr sG gh' nw ck rr
    obtain ⟨c', rfl, ng, hp⟩ := hpo r cs' hp0
    have fr' : ∀ b o, b ≠ a → H b = some o → H' b = some o := fun b o n h => fr b o (by simpa using n) h
    obtain ⟨hx', ok'⟩ := ck.ok 0 c' a rfl rfl
    have e' : EnvOk K F (ρ.cell j c') as σ H' G' := by
      refine ⟨gh', fun b o h => fr' b o (ne_of_none h fa) (e.fh _ _ h), fun b o h => ?_, Same.trans e.g0 sG, e.nd, e.pr, by rw [e.ln]; exact (List.length_set).symm, fun i c2 b hc hb => ?_, e.sn, fun i av hi => ?_⟩
      · rcases nw b o h with y | y
        · exact e.fg _ _ y
        · exact .inr (Same.none e.fh y)
      · have hc' : (ρ.ce.set j c')[i]? = some c2 := hc
        by_cases hij : j = i
        · subst hij
          rw [List.getElem?_set_self (by rw [← e.ln]; exact hl)] at hc'
          cases hc'
          rw [ha] at hb
          cases hb
          exact ⟨fa, hx', ok'⟩
        · rw [List.getElem?_set_ne hij] at hc'
          obtain ⟨fb, ⟨o, ho⟩, okb⟩ := e.ce i c2 b hc' hb
          have nb : b ≠ a := fun z => by
            subst z
            exact hij ((List.getElem?_inj (List.getElem?_eq_some_iff.mp ha).1 e.nd).mp (ha.trans hb.symm))
          refine ⟨fb, ⟨o, fr' _ _ nb ho⟩, ?_⟩
          have gn : G b = none → G' b = none := fun g => by
            cases z : G' b with
            | none => rfl
            | some o2 =>
              rcases nw b o2 z with y | y
              · rw [g] at y; cases y
              · rw [ho] at y; cases y
          cases c2 with
          | gone => trivial
          | lst es => obtain ⟨g, ws, hw, r⟩ := okb; exact ⟨gn g, ws, fr' _ _ nb hw, Reps.mono sG _ _ r⟩
          | ins C9 ns9 es => obtain ⟨g, dx9, ws, hw, ln9, r⟩ := okb; exact ⟨gn g, dx9, ws, fr' _ _ nb hw, ln9, Reps.mono sG _ _ r⟩
          | drw => obtain ⟨g, ws, hw, r⟩ := okb; exact ⟨gn g, ws, fr' _ _ nb hw, r⟩
      · obtain ⟨v, hv, r⟩ := e.sl i av hi
        exact ⟨v, hv, r.mono ⟨sG, [], by simp⟩⟩
    have eln : as.length = (ρ.cell j c').ce.length := e'.ln
    cases r with
    | dat d => exact q _ _ v as H' G' hp e' ⟨sG, [], by simp⟩ rr
    | new es =>
      obtain ⟨p, ws, rfl, hp0, gp, hp1, hr⟩ := rr
      have np : p ∉ as := fun m => by
        obtain ⟨i, hi⟩ := List.getElem?_of_mem m
        have hil : i < ρ.ce.length := by rw [← e.ln]; exact (List.getElem?_eq_some_iff.mp hi).1
        obtain ⟨_, ⟨o, ho⟩, _⟩ := e.ce i _ p (List.getElem?_eq_getElem hil) hi
        rw [ho] at hp0
        cases hp0
      exact q _ _ _ _ H' G' hp (e'.ownC hp1 gp (Same.none e.fh hp0) np hr) ⟨sG, [p], rfl⟩ (RepA.last e.ln)
theorem wsp1 {W : PW0} {E : L2.St → XK} {xs : List AV} {j : Nat} {c : Cell} (hj : ρ.ce[j]? = some c) (hn : noGone [c] = true) (ho : onlyC j xs = true) (hw : W (xs.map lend) [c] (fun r cs => aft1 ρ j k r cs) (fun _ => False)) : WpSp K F (spG K W) E xs ρ k := wsp1P hj hn ho hw fun _ _ z => z
/-- one cell lent to be written, others to be read -/
inductive AsL (ρ : En) (j : Nat) : List AV → List AV → Prop
  | nil : AsL ρ j [] []
  | dat {d : D} {xs ys : List AV} : AsL ρ j xs ys → AsL ρ j (.dat d :: xs) (.dat d :: ys)
  | own {xs ys : List AV} : AsL ρ j xs ys → AsL ρ j (.cel j :: xs) (.cel 0 :: ys)
  | cel {i : Nat} {es : List D} {xs ys : List AV} : i ≠ j → ρ.ce[i]? = some (.lst es) → AsL ρ j xs ys → AsL ρ j (.cel i :: xs) (.dat (.lst es) :: ys)
theorem AsL.mem {j : Nat} {xs ys : List AV} (h : AsL ρ j xs ys) {i : Nat} (m : .cel i ∈ xs) : i = j ∨ ∃ es, ρ.ce[i]? = some (.lst es) := by
  induction h with
  | nil => cases m
  | dat _ ih => rcases List.mem_cons.mp m with z | z; (cases z); exact ih z
  | own _ ih => rcases List.mem_cons.mp m with z | z; (cases z; exact .inl rfl); exact ih z
  | cel _ hc _ ih => rcases List.mem_cons.mp m with z | z; (cases z; exact .inr ⟨_, hc⟩); exact ih z
def aft2 (ρ : En) (j : Nat) (k : AV → En → Prop) (r : RV) (cs : List Cell) : Prop := cs = [.drw] ∧ match r with
  | .dat d => hard d = true ∧ k (.dat d) (ρ.cell j .drw)
  | .new es => hards es = true ∧ k (.cel ρ.ce.length) ((ρ.cell j .drw).add es)
open Classical in
theorem wsp2P {W : PW0} {E : L2.St → XK} {xs ys : List AV} {j : Nat} {c : Cell} {post : RV → List Cell → Prop} (hj : ρ.ce[j]? = some c) (hn : noGone [c] = true) (ha : AsL ρ j xs ys) (hw : W ys [c] post (fun _ => False)) (hpo : ∀ r cs, post r cs → aft2 ρ j k r cs) : WpSp K F (spG K W) E xs ρ k := by
  intro as σ H G vs e rx Q q
  have hl : j < as.length := by rw [e.ln]; exact (List.getElem?_eq_some_iff.mp hj).1
  obtain ⟨a, haj⟩ : ∃ a, as[j]? = some a := ⟨_, List.getElem?_eq_getElem hl⟩
  obtain ⟨fa, hx, ok⟩ := e.ce j c a hj haj
  have cg : c ≠ .gone := fun z => by subst z; rw [noGone] at hn; cases hn
  have apart : ∀ {i : Nat} {b : Addr}, i ≠ j → as[i]? = some b → b ≠ a := fun ne hb z => by
    subst z
    exact ne ((List.getElem?_inj (List.getElem?_eq_some_iff.mp hb).1 e.nd).mp (hb.trans haj.symm))
  let B : Addr → Prop := fun b => ∃ i : Nat, i ≠ j ∧ .cel i ∈ xs ∧ as[i]? = some b
  have bcell : ∀ b, B b → G b = none ∧ ∃ ws, H b = some (.lst ws) := fun b ⟨i, ne, m, hi⟩ => by
    rcases ha.mem m with z | ⟨es, hc⟩
    · exact absurd z ne
    obtain ⟨_, _, g, ws, hw, _⟩ := e.ce i _ b hc hi
    exact ⟨g, ws, hw⟩
  have nBa : ¬ B a := fun ⟨i, ne, _, hi⟩ => apart ne hi rfl
  let G1 : Hp := fun b => if B b then H b else G b
  have g1 : ∀ b, B b → G1 b = H b := fun b h => if_pos h
  have g2 : ∀ b, ¬ B b → G1 b = G b := fun b h => if_neg h
  have s1 : Same G G1 := fun b o h => by
    rw [g2 b fun z => by rw [(bcell b z).1] at h; cases h]; exact h
  have h1 : Same G1 H := fun b o h => by
    by_cases z : B b
    · rw [g1 b z] at h; exact h
    · rw [g2 b z] at h; exact e.gh _ _ h
  have ok1 : CellOk K G1 H a c := by
    cases c with
    | gone => trivial
    | lst es => obtain ⟨g, ws, hw, r⟩ := ok; exact ⟨by rw [g2 a nBa]; exact g, ws, hw, Reps.mono s1 _ _ r⟩
    | ins C9 ns9 es => obtain ⟨g, dx9, ws, hw, ln9, r⟩ := ok; exact ⟨by rw [g2 a nBa]; exact g, dx9, ws, hw, ln9, Reps.mono s1 _ _ r⟩
    | drw => obtain ⟨g, ws, hw, r⟩ := ok; exact ⟨by rw [g2 a nBa]; exact g, ws, hw, r⟩
  have rd : RepAs K G1 [a] ys vs := by
    have main : ∀ (zs es : List AV) (ws : List V), (∀ i, .cel i ∈ zs → .cel i ∈ xs) → AsL ρ j zs es → RepAs K G as zs ws → RepAs K G1 [a] es ws := by
      intro zs es ws sub hd
      induction hd generalizing ws with
      | nil => intro r; cases r; exact .nil
      | dat _ ih =>
        intro r
        cases r with
        | cons a b => exact .cons (Rep.mono s1 _ _ a) (ih _ (fun j m => sub j (List.mem_cons_of_mem _ m)) b)
      | own _ ih =>
        intro r
        cases r with
        | cons r1 b =>
          obtain ⟨p, hp, rfl⟩ := r1
          rw [haj] at hp
          cases hp
          exact .cons ⟨a, rfl, rfl⟩ (ih _ (fun j m => sub j (List.mem_cons_of_mem _ m)) b)
      | @cel i es2 ys2 ds2 ne hc _ ih =>
        intro r
        cases r with
        | cons r1 b =>
          obtain ⟨p, hp, rfl⟩ := r1
          obtain ⟨_, _, g, us, hu, hr⟩ := e.ce i _ p hc hp
          refine .cons ?_ (ih _ (fun j m => sub j (List.mem_cons_of_mem _ m)) b)
          exact Rep.lst (by rw [g1 p ⟨i, ne, sub i List.mem_cons_self, hp⟩]; exact hu) (Reps.mono s1 _ _ hr)
    exact main xs ys vs (fun _ m => m) ha rx
  refine ⟨G1, [a], ys, [c], _, _, h1, ⟨rfl, by simp, fun i c2 b hc hb => ?_⟩, rd, hw, ?_, fun _ _ z => z.elim⟩
  · cases i with
    | zero => simp at hc hb; subst hc hb; exact ⟨hx, ok1⟩
    | succ i => simp at hc
  rintro r cs' v H' G1' hp0 fr sg gh' nw ck rr
  obtain ⟨rfl, hp⟩ := hpo r cs' hp0
  have fr' : ∀ b o, b ≠ a → H b = some o → H' b = some o := fun b o n h => fr b o (by simpa using n) h
  obtain ⟨hx', ok'⟩ := ck.ok 0 .drw a rfl rfl
  let G' : Hp := fun b => if B b then none else G1' b
  have k1 : ∀ b, B b → G' b = none := fun b h => if_pos h
  have k2 : ∀ b, ¬ B b → G' b = G1' b := fun b h => if_neg h
  have sG : Same G G' := fun b o h => by
    have nb : ¬ B b := fun z => by rw [(bcell b z).1] at h; cases h
    rw [k2 b nb]; exact sg _ _ (s1 _ _ h)
  have keep : ∀ a o, G' a = some o → G a = some o ∨ H a = none := fun a o h => by
    by_cases z : B a
    · rw [k1 a z] at h; cases h
    · rw [k2 a z] at h
      rcases nw a o h with y | y
      · rw [g2 a z] at y; exact .inl y
      · exact .inr y
  have back : ∀ a o, G1' a = some o → G' a = some o ∨ ∃ xs, o = HO.lst xs := fun a o h => by
    by_cases z : B a
    · obtain ⟨_, ws, hw⟩ := bcell a z
      rw [sg a _ (by rw [g1 a z]; exact hw)] at h
      cases h
      exact .inr ⟨_, rfl⟩
    · exact .inl (by rw [k2 a z]; exact h)
  have gn : ∀ {b : Addr} {o : HO}, H b = some o → G b = none → G' b = none := fun {b o} ho g => by
    cases z : G' b with
    | none => rfl
    | some o2 =>
      rcases keep b o2 z with y | y
      · rw [g] at y; cases y
      · rw [ho] at y; cases y
  have okc : CellOk K G' H' a .drw → EnvOk K F (ρ.cell j .drw) as σ H' G' := fun okk => by
    refine ⟨fun a o h => ?_, fun b o h => fr' b o (ne_of_none h fa) (e.fh _ _ h), fun b o h => ?_, Same.trans e.g0 sG, e.nd, e.pr, by rw [e.ln]; exact (List.length_set).symm, fun i c2 b hc hb => ?_, e.sn, fun i av hi => ?_⟩
    · by_cases z : B a
      · rw [k1 a z] at h; cases h
      · rw [k2 a z] at h; exact gh' _ _ h
    · rcases keep b o h with y | y
      · exact e.fg _ _ y
      · exact .inr (Same.none e.fh y)
    · have hc' : (ρ.ce.set j .drw)[i]? = some c2 := hc
      by_cases hij : j = i
      · subst hij
        rw [List.getElem?_set_self (by rw [← e.ln]; exact hl)] at hc'
        cases hc'
        rw [haj] at hb
        cases hb
        exact ⟨fa, hx', okk⟩
      · rw [List.getElem?_set_ne hij] at hc'
        obtain ⟨fb, ⟨o, ho⟩, okb⟩ := e.ce i c2 b hc' hb
        have nb : b ≠ a := apart (fun z => hij z.symm) hb
        refine ⟨fb, ⟨o, fr' _ _ nb ho⟩, ?_⟩
        cases c2 with
        | gone => trivial
        | lst es => obtain ⟨g, ws, hw, r⟩ := okb; exact ⟨gn ho g, ws, fr' _ _ nb hw, Reps.mono sG _ _ r⟩
        | ins C9 ns9 es => obtain ⟨g, dx9, ws, hw, ln9, r⟩ := okb; exact ⟨gn ho g, dx9, ws, fr' _ _ nb hw, ln9, Reps.mono sG _ _ r⟩
        | drw => obtain ⟨g, ws, hw, r⟩ := okb; exact ⟨gn ho g, ws, fr' _ _ nb hw, r⟩
    · obtain ⟨v, hv, r⟩ := e.sl i av hi
      exact ⟨v, hv, r.mono ⟨sG, [], by simp⟩⟩
  have gA : G1' a = none → G' a = none := fun z => by rw [k2 a nBa]; exact z
  have finish : EnvOk K F (ρ.cell j .drw) as σ H' G' → Q v H' := fun e' => by
    cases r with
    | dat d => exact q _ _ v as H' G' hp.2 e' ⟨sG, [], by simp⟩ (Rep.hard back _ _ hp.1 rr)
    | new es =>
      obtain ⟨p, ws, rfl, hp0, gp, hp1, hr⟩ := rr
      have np : p ∉ as := fun m => by
        obtain ⟨i, hi⟩ := List.getElem?_of_mem m
        have hil : i < ρ.ce.length := by rw [← e.ln]; exact (List.getElem?_eq_some_iff.mp hi).1
        obtain ⟨_, ⟨o, ho⟩, _⟩ := e.ce i _ p (List.getElem?_eq_getElem hil) hi
        rw [ho] at hp0
        cases hp0
      have nb : ¬ B p := fun ⟨i, _, _, hi⟩ => np (List.mem_of_getElem? hi)
      exact q _ _ _ _ H' G' hp.2 (e'.ownC hp1 (by rw [k2 p nb]; exact gp) (Same.none e.fh hp0) np (Reps.hard back _ _ hp.1 hr)) ⟨sG, [p], rfl⟩ (RepA.last e.ln)
  obtain ⟨g, ws, hw, r⟩ := ok'
  exact finish (okc ⟨gA g, ws, hw, r⟩)
end
section
variable {K : PySem.W.Frag} {F : Fx} {ρ : En} {k : AV → En → Prop}
def aftD (ρ : En) (j : Nat) (xs : List AV) (k : AV → En → Prop) : RV → Prop
  | .dat d => (onlyC j xs || hard d) = true ∧ k (.dat d) ρ
  | .new es => (onlyC j xs || hards es) = true ∧ k (.cel ρ.ce.length) (ρ.add es)
theorem AsL.lend {j : Nat} {xs ys : List AV} (h : AsL ρ j xs ys) (o : onlyC j xs = true) : ys = xs.map LK.lend := by
  induction h with
  | nil => rfl
  | dat _ ih => rw [ih o]; rfl
  | own _ ih => rw [onlyC, Bool.and_eq_true] at o; rw [ih o.2]; rfl
  | cel ne _ _ ih => rw [onlyC, Bool.and_eq_true] at o; exact absurd (of_decide_eq_true o.1) ne
/-- a call that draws from the state at j -/
theorem wspD {W : PW0} {E : L2.St → XK} {xs ys : List AV} {j : Nat} (hj : ρ.ce[j]? = some .drw) (ha : AsL ρ j xs ys) (hw : W ys [.drw] (fun r cs => cs = [.drw] ∧ aftD ρ j xs k r) (fun _ => False)) : WpSp K F (spG K W) E xs ρ k := by
  have es : ρ.cell j .drw = ρ := by
    obtain ⟨sl, ce⟩ := ρ
    show En.mk sl (ce.set j .drw) = ⟨sl, ce⟩
    have hl : j < ce.length := (List.getElem?_eq_some_iff.mp hj).1
    have he : ce[j] = .drw := (List.getElem?_eq_some_iff.mp hj).2
    rw [← he, List.set_getElem_self]
  cases o : onlyC j xs with
  | true =>
    refine wsp1P hj rfl o (by rw [← ha.lend o]; exact hw) ?_
    rintro r cs ⟨rfl, h⟩
    refine ⟨.drw, rfl, rfl, ?_⟩
    cases r with
    | dat d => rw [es]; exact h.2
    | new es2 => rw [es]; exact h.2
  | false =>
    refine wsp2P hj rfl ha hw ?_
    rintro r cs ⟨rfl, h⟩
    refine ⟨rfl, ?_⟩
    cases r with
    | dat d =>
      obtain ⟨h1, h2⟩ := h
      rw [o, Bool.false_or] at h1
      rw [es]
      exact ⟨h1, h2⟩
    | new es2 =>
      obtain ⟨h1, h2⟩ := h
      rw [o, Bool.false_or] at h1
      rw [es]
      exact ⟨h1, h2⟩
end
theorem spG_len {K : PySem.W.Frag} {W : PW0} {vs : List V} {H : Hp} {Q : VK} {E : XK} {n : Nat} (h : spG K W vs H Q E) (hl : ∀ xs cs post exc, W xs cs post exc → xs.length = n) : vs.length = n := by
  obtain ⟨G, as, xs, cs, post, exc, _, _, rx, hw, _⟩ := h
  rw [rx.length]
  exact hl _ _ _ _ hw
/-! ### rules of the data layer: kinds, ==, comprehensions, errors -/
section
variable {K : PySem.W.Frag} {F : Fx} {ρ : En} {k : AV → En → Prop} {kb : Bool → En → Prop} {ks : KS} {t u : TS} {ta tb te : TE} {tt tu : TT}
/-- the built-in class of data -/
def tyD : D → Option String
  | .non => some "NoneType" | .bl _ => some "bool" | .int _ => some "int" | .str _ => some "str" | .tup _ => some "tuple" | .lst _ => some "list" | .scr _ => some "list" | .dic => some "dict" | _ => none
theorem SqL.ty {H : Hp} {a : Addr} {vs : List V} (h : SqL K H a vs) : TyX K H (.ref a) (.type "list") := by
  rcases h with (h | ⟨o, h⟩) | ⟨o, its, n, h1, h2, _⟩
  · exact .base (.lst h)
  · exact .base (.frz h)
  · exact .kList h1 h2
theorem SqT.ty {H : Hp} {a : Addr} {vs : List V} (h : SqT K H a vs) : TyX K H (.ref a) (.type "tuple") := by
  rcases h with (h | ⟨o, h⟩) | ⟨o, its, n, h1, h2, _⟩
  · exact .base (.tup h)
  · exact .fTuple h
  · exact .kTuple h1 h2
theorem tyD_rep {H G : Hp} {d : D} {v : V} {T : String} (gh : Same G H) (r : Rep K G d v) (h : tyD d = some T) : TyX K H v (.type T) := by
  cases d with
  | non => cases h; cases r; exact .base .non
  | bl b => cases h; cases r; exact .base (.bl b)
  | int i => cases h; cases r; exact .base (.int i)
  | str x => cases h; cases r; exact .base (.str x)
  | tup ds => cases h; obtain ⟨a, vs, rfl, hs, _⟩ := Rep.tupE r; exact SqT.ty (Same.seqT gh hs)
  | lst ds => cases h; obtain ⟨a, vs, rfl, hs, _⟩ := Rep.lstE r; exact SqL.ty (SqL.of (gh _ _ hs))
  | scr ds => cases h; obtain ⟨a, vs, rfl, hs, _⟩ := Rep.scrE r; exact SqL.ty (Same.seq gh hs)
  | obj C ns ds => cases h
  | dic => cases h; obtain ⟨a, kvs, rfl, hs⟩ := Rep.dicE r; exact .base (.dK (gh _ _ hs))
  | ty n => cases h
  | cls C => cases h
/-- isinstance by built-in classes -/
def isT (T : String) (d : D) : Bool := match tyD d with
  | some "int" => T == "int"
  | some "bool" => T == "int" || T == "bool"
  | some s => T == s
  | none => false
def isA (T : String) : AV → Bool
  | .dat d => isT T d
  | .cel _ => T == "list"
theorem wc_isiB {T s : String} {d : D} {b : Bool} (h1 : tyD d = some s) (h2 : kitB s T = some b) (hk : k (.dat (.bl b)) ρ) : WpC K F (rIsi K) [.dat d, .dat (.ty T)] ρ k := fun as σ H G vs e r Q q => by
  cases r with
  | cons r1 c =>
    cases c with
    | cons r2 c =>
      cases c
      cases (show Rep K G (.ty T) _ from r2)
      exact ⟨_, _, _, _, b, rfl, .ty _, tyD_rep e.gh r1 h1, kit_ty h2, q _ ρ _ as H G hk e .refl (Rep.bl _)⟩
theorem wc_isi {T : String} {d : D} (hT : T ∈ ["int", "bool", "str", "tuple", "list"]) (hd : (tyD d).isSome = true) (hk : k (.dat (.bl (isT T d))) ρ) : WpC K F (rIsi K) [.dat d, .dat (.ty T)] ρ k := by
  have go : ∀ s, tyD d = some s → kitB s T = some (isT T d) → WpC K F (rIsi K) [.dat d, .dat (.ty T)] ρ k := fun s h1 h2 => wc_isiB h1 h2 hk
  simp only [List.mem_cons, List.not_mem_nil, or_false] at hT
  cases d <;> first
    | (exact Bool.noConfusion (show false = true from hd))
    | (refine go _ rfl ?_; rcases hT with rfl | rfl | rfl | rfl | rfl <;> (simp only [isT, tyD]; decide +kernel))
theorem wc_isiC {T : String} {j : Nat} {ds : List D} (hT : T ∈ ["int", "bool", "str", "tuple", "list"]) (hc : ρ.ce[j]? = some (.lst ds)) (hk : k (.dat (.bl (T == "list"))) ρ) : WpC K F (rIsi K) [.cel j, .dat (.ty T)] ρ k := fun as σ H G vs e r Q q => by
  cases r with
  | cons r1 c =>
    cases c with
    | cons r2 c =>
      cases c
      cases (show Rep K G (.ty T) _ from r2)
      obtain ⟨a, ha, rfl⟩ := r1
      obtain ⟨_, _, _, ws, hw, _⟩ := e.ce j _ a hc ha
      have h2 : kitB "list" T = some (T == "list") := by
        simp only [List.mem_cons, List.not_mem_nil, or_false] at hT
        rcases hT with rfl | rfl | rfl | rfl | rfl <;> decide +kernel
      exact ⟨_, _, _, _, _, rfl, .ty _, .base (.lst hw), kit_ty h2, q _ ρ _ as H G hk e .refl (Rep.bl _)⟩
/-! == -/
mutual
def py : D → PyData
  | .non => .none
  | .bl b => .bool b
  | .int i => .int i
  | .str x => .str x
  | .tup ds => .tuple (pys ds)
  | .lst ds => .list (pys ds)
  | .scr ds => .list (pys ds)
  | .obj _ _ _ => .none
  | .dic => .none
  | .ty _ => .none
  | .cls _ => .none
def pys : List D → List PyData
  | [] => []
  | d :: ds => py d :: pys ds
end
mutual
/-- data of at most this depth that == may look at -/
def fine : Nat → D → Bool
  | _, .non => true
  | _, .bl _ => true
  | _, .int _ => true
  | _, .str x => PyData.strOk x
  | n + 1, .tup ds => fines n ds
  | n + 1, .lst ds => fines n ds
  | n + 1, .scr ds => fines n ds
  | _, _ => false
def fines : Nat → List D → Bool
  | _, [] => true
  | n, d :: ds => fine n d && fines n ds
end
mutual
theorem fine_dp {G : Hp} : ∀ (n : Nat) (d : D) (v : V), fine n d = true → Rep K G d v → Dp K G v (py d) ∧ PyData.canLay0 (py d) = true ∧ PyData.depth (py d) ≤ n
  | _, .non, _, _, r => by cases r; exact ⟨.non, rfl, by simp [py, PyData.depth]⟩
  | _, .bl _, _, _, r => by cases r; exact ⟨.bl _, rfl, by simp [py, PyData.depth]⟩
  | _, .int _, _, _, r => by cases r; exact ⟨.int _, rfl, by simp [py, PyData.depth]⟩
  | n, .str x, _, h, r => by
    cases r
    refine ⟨.str _, ?_, by simp [py, PyData.depth]⟩
    have h' : PyData.strOk x = true := by cases n <;> (rw [fine] at h; exact h)
    simp [py, PyData.canLay0, h']
  | n + 1, .tup ds, _, h, r => by
    cases r with
    | tup a b =>
      obtain ⟨x, y, z⟩ := fine_dps n ds _ (by rw [fine] at h; exact h) b
      exact ⟨.tup a x, by simp [py, PyData.canLay0, y], by simp [py, PyData.depth]; omega⟩
  | n + 1, .lst ds, _, h, r => by
    cases r with
    | lst a b =>
      obtain ⟨x, y, z⟩ := fine_dps n ds _ (by rw [fine] at h; exact h) b
      exact ⟨.lst (SqL.of a) x, by simp [py, PyData.canLay0, y], by simp [py, PyData.depth]; omega⟩
  | n + 1, .scr ds, _, h, r => by
    cases r with
    | scr a b =>
      obtain ⟨x, y, z⟩ := fine_dps n ds _ (by rw [fine] at h; exact h) b
      exact ⟨.lst a x, by simp [py, PyData.canLay0, y], by simp [py, PyData.depth]; omega⟩
  | 0, .tup ds, _, h, r => by simp [fine] at h
  | 0, .lst ds, _, h, r => by simp [fine] at h
  | 0, .scr ds, _, h, r => by simp [fine] at h
  | n, .obj _ _ _, _, h, r => by cases n <;> simp [fine] at h
  | n, .dic, _, h, r => by cases n <;> simp [fine] at h
  | n, .ty _, _, h, r => by cases n <;> simp [fine] at h
  | n, .cls _, _, h, r => by cases n <;> simp [fine] at h
theorem fine_dps {G : Hp} : ∀ (n : Nat) (ds : List D) (vs : List V), fines n ds = true → Reps K G ds vs → DpAll K G vs (pys ds) ∧ PyData.canLayAll0 (pys ds) = true ∧ PyData.depthAll (pys ds) ≤ n
  | _, [], _, _, r => by cases r; exact ⟨.nil, rfl, by simp [pys, PyData.depthAll]⟩
  | n, d :: ds, _, h, r => by
    cases r with
    | cons a b =>
      have h' : fine n d = true ∧ fines n ds = true := by cases n <;> (rw [fines, Bool.and_eq_true] at h; exact h)
      obtain ⟨x, y, z⟩ := fine_dp n d _ h'.1 a
      obtain ⟨x2, y2, z2⟩ := fine_dps n ds _ h'.2 b
      exact ⟨.cons x x2, by simp [pys, PyData.canLayAll0, y, y2], by simp [pys, PyData.depthAll]; omega⟩
end
def eqD (d e : D) : Bool := PyData.eqv (py d) (py e)
/-- data of a value: a cell is its list -/
inductive OfD (ρ : En) : AV → D → Prop
  | dat (d : D) : OfD ρ (.dat d) d
  | cel {j : Nat} {ds : List D} : ρ.ce[j]? = some (.lst ds) → OfD ρ (.cel j) (.lst ds)
theorem OfD.dp {as : List Addr} {σ : L2.St} {H G : Hp} {x : AV} {d : D} {v : V} {n : Nat} (e : EnvOk K F ρ as σ H G) (h : OfD ρ x d) (r : RepA K G as x v) (hf : fine n d = true) (hn : n ≤ 64) : Dp K H v (py d) ∧ SeqAt.shaped (py d) = true := by
  have rr : Rep K H d v := by
    cases h with
    | dat => exact Rep.mono e.gh _ _ r
    | cel hc =>
      obtain ⟨a, ha, rfl⟩ := r
      obtain ⟨_, _, _, ws, hw, hr⟩ := e.ce _ _ a hc ha
      exact .lst hw (Reps.mono e.gh _ _ hr)
  obtain ⟨x, y, z⟩ := fine_dp n d v hf rr
  refine ⟨x, ?_⟩
  unfold SeqAt.shaped
  rw [y, decide_eq_true (by omega : PyData.depth (py d) ≤ 64)]
  rfl
theorem wr_eqD {x y : AV} {d e : D} (n : Nat) (hx : OfD ρ x d) (hy : OfD ρ y e) (h1 : fine n d = true) (h2 : fine n e = true) (hn : n ≤ 64) (hk : k (.dat (.bl (eqD d e))) ρ) : WpR K F (rEqD K) x y ρ k := fun as σ H G vx vy en r1 r2 Q q => by
  obtain ⟨a, b⟩ := hx.dp en r1 h1 hn
  obtain ⟨a2, b2⟩ := hy.dp en r2 h2 hn
  exact ⟨_, _, a, a2, b, b2, q _ ρ _ as H G hk en .refl (Rep.bl _)⟩
theorem wr_neD {x y : AV} {d e : D} (n : Nat) (hx : OfD ρ x d) (hy : OfD ρ y e) (h1 : fine n d = true) (h2 : fine n e = true) (hn : n ≤ 64) (hk : k (.dat (.bl (!eqD d e))) ρ) : WpR K F (rNeD K) x y ρ k := fun as σ H G vx vy en r1 r2 Q q => by
  obtain ⟨a, b⟩ := hx.dp en r1 h1 hn
  obtain ⟨a2, b2⟩ := hy.dp en r2 h2 hn
  exact ⟨_, _, a, a2, b, b2, q _ ρ _ as H G hk en .refl (Rep.bl _)⟩
/-! == without truths in it is being alike -/
mutual
def noB : D → Bool
  | .bl _ => false
  | .tup ds => noBs ds
  | .lst ds => noBs ds
  | .scr _ => false
  | .obj _ _ _ => false
  | .dic => false
  | .ty _ => false
  | .cls _ => false
  | _ => true
def noBs : List D → Bool
  | [] => true
  | d :: ds => noB d && noBs ds
end
mutual
theorem eqD_iff : ∀ (d e : D), noB d = true → noB e = true → (eqD d e = true ↔ d = e)
  | .non, e, _, h => by cases e <;> simp [eqD, py, PyData.eqv, noB] at h ⊢
  | .int i, e, _, h => by cases e <;> simp [eqD, py, PyData.eqv, noB] at h ⊢
  | .str i, e, _, h => by cases e <;> simp [eqD, py, PyData.eqv, noB] at h ⊢
  | .bl _, _, h, _ => by simp [noB] at h
  | .obj _ _ _, _, h, _ => by simp [noB] at h
  | .scr _, _, h, _ => by simp [noB] at h
  | .dic, _, h, _ => by simp [noB] at h
  | .ty _, _, h, _ => by simp [noB] at h
  | .cls _, _, h, _ => by simp [noB] at h
  | .tup ds, e, h, h2 => by
    cases e with
    | tup es =>
      have := eqDs_iff ds es (by rw [noB] at h; exact h) (by rw [noB] at h2; exact h2)
      simp only [eqD, py, PyData.eqv, D.tup.injEq]
      exact this
    | _ => simp [eqD, py, PyData.eqv, noB] at h2 ⊢
  | .lst ds, e, h, h2 => by
    cases e with
    | lst es =>
      have := eqDs_iff ds es (by rw [noB] at h; exact h) (by rw [noB] at h2; exact h2)
      simp only [eqD, py, PyData.eqv, D.lst.injEq]
      exact this
    | _ => simp [eqD, py, PyData.eqv, noB] at h2 ⊢
theorem eqDs_iff : ∀ (ds es : List D), noBs ds = true → noBs es = true → (PyData.eqvAll (pys ds) (pys es) = true ↔ ds = es)
  | [], es, _, _ => by cases es <;> simp [pys, PyData.eqvAll]
  | d :: ds, [], _, _ => by simp [pys, PyData.eqvAll]
  | d :: ds, e :: es, h, h2 => by
    rw [noBs, Bool.and_eq_true] at h h2
    have a := eqD_iff d e h.1 h2.1
    have b := eqDs_iff ds es h.2 h2.2
    simp only [pys, PyData.eqvAll, Bool.and_eq_true, List.cons.injEq]
    unfold eqD at a
    rw [a, b]
end
/-! comprehensions -/
def wipeA (sl : List (Option AV)) : List Nat → List (Option AV)
  | [] => sl
  | v :: vs => (wipeA sl vs).set v none
def En.wipe (ρ : En) (vs : List Nat) : En := ⟨wipeA ρ.sl vs, ρ.ce⟩
theorem wipeA_len (sl : List (Option AV)) : ∀ vs, (wipeA sl vs).length = sl.length
  | [] => rfl
  | v :: vs => by rw [wipeA, List.length_set, wipeA_len sl vs]
theorem wipeA_get (sl : List (Option AV)) {i : Nat} {x : AV} : ∀ vs, (wipeA sl vs)[i]? = some (some x) → i ∉ vs ∧ sl[i]? = some (some x)
  | [], h => ⟨by simp, h⟩
  | v :: vs, h => by
    rw [wipeA] at h
    by_cases q : v = i
    · subst q
      rw [List.getElem?_set] at h
      simp at h
    · rw [List.getElem?_set_ne q] at h
      obtain ⟨a, b⟩ := wipeA_get sl vs h
      exact ⟨by simp only [List.mem_cons, not_or]; exact ⟨fun z => q z.symm, a⟩, b⟩
theorem wipe_get (σ : L2.St) {i : Nat} : ∀ {vs : List Nat}, i ∉ vs → (wipe σ vs)[i]? = σ[i]?
  | [], _ => rfl
  | v :: vs, h => by
    simp only [List.mem_cons, not_or] at h
    show ((wipe σ vs).set v none)[i]? = σ[i]?
    rw [List.getElem?_set_ne (fun z => h.1 z.symm), wipe_get σ h.2]
theorem EnvOk.wipe {as : List Addr} {σ σ2 : L2.St} {H G : Hp} {vs : List Nat} (e : EnvOk K F ρ as σ H G) (h : L2.wipe σ2 vs = L2.wipe σ vs) : EnvOk K F (ρ.wipe vs) as σ2 H G := by
  refine ⟨e.gh, e.fh, e.fg, e.g0, e.nd, e.pr, e.ln, e.ce, ?_, fun i x hi => ?_⟩
  · show σ2.length = (wipeA ρ.sl vs).length
    rw [wipeA_len, ← e.sn, ← wipe_length σ2 vs, h, wipe_length]
  · obtain ⟨a, b⟩ := wipeA_get ρ.sl vs hi
    obtain ⟨v, hv, r⟩ := e.sl i x b
    exact ⟨v, by rw [← wipe_get σ2 a, h, wipe_get σ a]; exact hv, r⟩
/-- a target that writes to these slots alone -/
def Only (g : TG) (vs : List Nat) : Prop := ∀ x σ H (Q Q2 : L2.St → Hp → Prop), (∀ σ' H', Q σ' H' → L2.wipe σ' vs = L2.wipe σ vs → Q2 σ' H') → g x σ H Q → g x σ H Q2
def OnlyS (g : TGs) (vs : List Nat) : Prop := ∀ x σ H (Q Q2 : L2.St → Hp → Prop), (∀ σ' H', Q σ' H' → L2.wipe σ' vs = L2.wipe σ vs → Q2 σ' H') → g x σ H Q → g x σ H Q2
theorem wipe_set (σ : L2.St) {i : Nat} {x : Option V} : ∀ {vs : List Nat}, i ∈ vs → L2.wipe (σ.set i x) vs = L2.wipe σ vs
  | v :: vs, h => by
    show (L2.wipe (σ.set i x) vs).set v none = (L2.wipe σ vs).set v none
    by_cases q : i ∈ vs
    · rw [wipe_set σ q]
    · have e : i = v := by rcases List.mem_cons.mp h with z | z; exact z; exact absurd z q
      subst e
      refine List.ext_getElem? fun j => ?_
      by_cases z : i = j
      · subst z; rw [List.getElem?_set, List.getElem?_set]; simp [wipe_length]
      · rw [List.getElem?_set_ne z, List.getElem?_set_ne z]
        by_cases y : j ∈ vs
        · have zero : ∀ (τ : L2.St) (ws : List Nat), j ∈ ws → (L2.wipe τ ws)[j]? = if j < τ.length then some none else none := by
            intro τ ws
            induction ws with
            | nil => intro m; cases m
            | cons w ws ih =>
              intro m
              show ((L2.wipe τ ws).set w none)[j]? = _
              by_cases b : w = j
              · subst b; rw [List.getElem?_set]; simp [wipe_length]
              · rw [List.getElem?_set_ne b]
                exact ih (by rcases List.mem_cons.mp m with c | c; exact absurd c.symm b; exact c)
          rw [zero _ _ y, zero _ _ y, List.length_set]
        · rw [wipe_get _ y, wipe_get _ y, List.getElem?_set_ne z]
theorem only_name {i : Nat} {vs : List Nat} (h : i ∈ vs) : Only (gName i) vs := fun x σ H Q Q2 i q => i _ _ q (wipe_set σ h)
theorem onlys_nil {vs : List Nat} : OnlyS gNil vs := fun x σ H Q Q2 i ⟨e, q⟩ => ⟨e, i _ _ q rfl⟩
theorem onlys_cons {i : Nat} {gs : TGs} {vs : List Nat} (h : i ∈ vs) (h2 : OnlyS gs vs) : OnlyS (gCons (gName i) gs) vs := fun x σ H Q Q2 im ⟨v, r, e, q⟩ => by
  subst e
  exact ⟨v, r, rfl, h2 r (σ.set i (some v)) H Q Q2 (fun σ' H' a b => im σ' H' a (by rw [b, wipe_set σ h])) q⟩
theorem only_tup {n : Nat} {gs : TGs} {vs : List Nat} (h2 : OnlyS gs vs) : Only (gTup K n gs) vs := fun x σ H Q Q2 im ⟨a, xs, e, s, l, q⟩ => ⟨a, xs, e, s, l, h2 xs σ H Q Q2 im q⟩
/-- the turns of a comprehension: n the cell of what is made -/
def LoopC (K : PySem.W.Frag) (F : Fx) (gd : En → Prop) (g : TG) (tt : TT) (te : TE) (vs : List Nat) (n : Nat) (k : AV → En → Prop) : List D → En → Prop
  | [], ρ => gd ρ ∧ k (.cel n) ρ
  | d :: ds, ρ => gd ρ ∧ WpG K F g (.dat d) ρ fun ρ1 => WpT K F tt ρ1 fun b ρ2 => if b = true then WpE K F te ρ2 fun y ρ3 => ∃ e ρ4 acc, Frz [y] ρ3 [e] ρ4 ∧ ρ4.ce[n]? = some (.lst acc) ∧ acc.length < 16000000 ∧ ∃ ρ5, Tr (n + 1) ((ρ4.cell n (.lst (acc ++ [e]))).wipe vs) ρ5 ∧ LoopC K F gd g tt te vs n k ds ρ5
      else ∃ ρ5, Tr (n + 1) (ρ2.wipe vs) ρ5 ∧ LoopC K F gd g tt te vs n k ds ρ5
theorem LoopC.gd {gd : En → Prop} {g : TG} {vs : List Nat} {n : Nat} : ∀ {ds : List D} {ρ : En}, LoopC K F gd g tt te vs n k ds ρ → gd ρ
  | [], _, h => h.1
  | _ :: _, _, h => h.1
theorem wipe_wipe (σ : L2.St) (vs : List Nat) : L2.wipe (L2.wipe σ vs) vs = L2.wipe σ vs := by
  refine List.ext_getElem? fun j => ?_
  by_cases y : j ∈ vs
  · have zero : ∀ (τ : L2.St) (ws : List Nat), j ∈ ws → (L2.wipe τ ws)[j]? = if j < τ.length then some none else none := by
      intro τ ws
      induction ws with
      | nil => intro m; cases m
      | cons w ws ih =>
        intro m
        show ((L2.wipe τ ws).set w none)[j]? = _
        by_cases b : w = j
        · subst b; rw [List.getElem?_set]; simp [wipe_length]
        · rw [List.getElem?_set_ne b]
          exact ih (by rcases List.mem_cons.mp m with c | c; exact absurd c.symm b; exact c)
    rw [zero _ _ y, zero _ _ y, wipe_length]
  · rw [wipe_get _ y]
theorem Tr.run2 {n : Nat} {ρ' : En} {as as0 : List Addr} {σ σ2 : L2.St} {H G G0 : Hp} (t : Tr n ρ ρ') (e : EnvOk K F ρ as σ H G) (e2 : EnvOk K F ρ as σ2 H G) (g : Gr G0 as0 G as) (h : as0.length ≤ n) (h0 : F.as0.length ≤ n) : ∃ as', EnvOk K F ρ' as' σ H G ∧ EnvOk K F ρ' as' σ2 H G ∧ Gr G0 as0 G as' := by
  cases t with
  | all => exact ⟨as, e, e2, g⟩
  | cut => exact ⟨_, e.trunc n h0, e2.trunc n h0, g.trunc h⟩
  | keep j h1 h2 => exact ⟨_, e.keep h0 h1 h2, e2.keep h0 h1 h2, g.keep h⟩
theorem we_lc {wi : TI} {g : TG} {vs : List Nat} (ho : Only g vs) (h : WpI K F wi ρ fun ds gd ρ1 => LoopC K F gd g tt te vs ρ1.ce.length k ds ((ρ1.add []).wipe vs)) : WpE K F (tLc wi g tt te vs) ρ k := fun as σ H G e Q q =>
  h as σ H G e _ fun ds gd J ρ1 as1 H1 G1 h1 e1 g1 its => by
    intro p hp
    obtain ⟨e2, g2⟩ := e1.newC (ds := []) (vs := []) hp .nil
    have pn : as1.length = ρ1.ce.length := e1.ln
    have pn0 : F.as0.length ≤ ρ1.ce.length + 1 := by have := e1.pr.length_le; omega
    have pn2 : (as1 ++ [p]).length ≤ ρ1.ce.length + 1 := by rw [List.length_append, pn]; exact Nat.le_refl _
    refine ⟨fun i m H' => m = ds.length - i ∧ i ≤ ds.length ∧ ∃ ρ2 as2 G2, EnvOk K F ρ2 as2 σ H' G2 ∧ EnvOk K F ρ2 as2 (L2.wipe σ vs) H' G2 ∧ Gr G1 (as1 ++ [p]) G2 as2 ∧ LoopC K F gd g tt te vs ρ1.ce.length k (ds.drop i) ρ2, ⟨_, rfl, Nat.zero_le _, _, _, _, e2.wipe rfl, e2.wipe (wipe_wipe σ vs), .refl, h1⟩, ?_⟩
    rintro i m H' ⟨rfl, hi, ρ2, as2, G2, e3, e3w, g3, lp⟩
    have g13 : Gr G1 as1 G2 as2 := g2.trans g3
    obtain ⟨go, st, yl⟩ := its ρ2 as2 (L2.wipe σ vs) H' G2 e3w g13 lp.gd
    have hat : as2[ρ1.ce.length]? = some p := by
      obtain ⟨_, r, rfl⟩ := g3
      rw [List.append_assoc, List.getElem?_append_right (by omega), pn]
      simp
    by_cases hlt : i < ds.length
    · obtain ⟨d, hd⟩ : ∃ d, ds[i]? = some d := ⟨_, List.getElem?_eq_getElem hlt⟩
      have ed : ds.drop i = d :: ds.drop (i + 1) := by
        rw [List.drop_eq_getElem_cons hlt]
        rw [List.getElem?_eq_getElem hlt] at hd
        cases hd
        rfl
      rw [ed] at lp
      refine .inr ⟨go i hlt, fun H3 => ∃ ρ3 as3 G3, EnvOk K F ρ3 as3 σ H3 G3 ∧ EnvOk K F ρ3 as3 (L2.wipe σ vs) H3 G3 ∧ Gr G1 (as1 ++ [p]) G3 as3 ∧ LoopC K F gd g tt te vs ρ1.ce.length k (ds.drop (i + 1)) ρ3, fun H3 ⟨ρ3, as3, G3, e3, e3w, g3, l3⟩ => ⟨_, by omega, rfl, hlt, ρ3, as3, G3, e3, e3w, g3, l3⟩, fun x H3 y => ?_⟩
      obtain ⟨d', G3, hd', e4, g4, rx⟩ := yl i x H3 hlt y
      rw [hd] at hd'
      cases hd'
      have main := lp.2 as2 (L2.wipe σ vs) H3 G3 x (e4 _ e3w) rx
        (fun σ2 H2 => (∃ ρ4 as4 G4, (WpT K F tt ρ4 fun b ρ2 => if b = true then WpE K F te ρ2 fun y ρ3 => ∃ e ρ4 acc, Frz [y] ρ3 [e] ρ4 ∧ ρ4.ce[ρ1.ce.length]? = some (.lst acc) ∧ acc.length < 16000000 ∧ ∃ ρ5, Tr (ρ1.ce.length + 1) ((ρ4.cell ρ1.ce.length (.lst (acc ++ [e]))).wipe vs) ρ5 ∧ LoopC K F gd g tt te vs ρ1.ce.length k (ds.drop (i + 1)) ρ5
      else ∃ ρ5, Tr (ρ1.ce.length + 1) (ρ2.wipe vs) ρ5 ∧ LoopC K F gd g tt te vs ρ1.ce.length k (ds.drop (i + 1)) ρ5) ∧ EnvOk K F ρ4 as4 σ2 H2 G4 ∧ Gr G3 as2 G4 as4)) (fun ρ4 as4 σ4 H4 G4 h4 e5 g5 => ⟨ρ4, as4, G4, h4, e5, g5⟩)
      refine ho x _ _ _ _ ?_ main
      rintro σ2 H4 ⟨ρ4, as4, G4, h4, e5, g5⟩ ew
      rw [wipe_wipe] at ew
      refine ⟨ew, h4 as4 σ2 H4 G4 e5 _ fun b ρ5 as5 H5 G5 h5 e6 g6 => ?_⟩
      have gg : Gr G1 (as1 ++ [p]) G5 as5 := g3.trans (g4.trans (g5.trans g6))
      cases b with
      | false =>
        obtain ⟨ρ7, tr, lp2⟩ := (show ∃ ρ5', Tr (ρ1.ce.length + 1) (ρ5.wipe vs) ρ5' ∧ _ from h5)
        obtain ⟨as7, x1, x2, x3⟩ := tr.run2 (e6.wipe ew.symm) (show EnvOk K F _ _ (L2.wipe σ vs) _ _ from e6.wipe (by rw [wipe_wipe, ew])) gg pn2 pn0
        exact ⟨ρ7, as7, G5, x1, x2, x3, lp2⟩
      | true =>
        refine (show WpE K F te ρ5 _ from h5) as5 σ2 H5 G5 e6 _ ?_
        rintro y ρ6 v as6 H6 G6 ⟨e', ρ7, acc, fz, hc, hl, ρ8, tr, lp2⟩ e7 g7 r7
        obtain ⟨G7, e8, g8, r8⟩ := fz.run e7 (.cons r7 .nil)
        have hat6 : as6[ρ1.ce.length]? = some p := by
          obtain ⟨_, r, rfl⟩ := g4.trans (g5.trans (g6.trans g7))
          rw [List.getElem?_append_left (List.getElem?_eq_some_iff.mp hat).1]
          exact hat
        obtain ⟨_, _, gn, ws, hw, hr⟩ := e8.ce _ _ p hc hat6
        cases r8 with
        | cons ra rb =>
          cases rb
          have e9 := e8.setC (c' := .lst (acc ++ [e'])) hc hat6 gn ⟨gn, _, upd_same, hr.append (.cons ra .nil)⟩
          obtain ⟨as7, x1, x2, x3⟩ := tr.run2 (e9.wipe ew.symm) (show EnvOk K F _ _ (L2.wipe σ vs) _ _ from e9.wipe (by rw [wipe_wipe, ew])) (gg.trans (g7.trans g8)) pn2 pn0
          exact ⟨ws, hw, szbl (by rw [hr.length]; omega), ρ8, as7, G7, x1, x2, x3, lp2⟩
    · have ei : i = ds.length := by omega
      subst ei
      rw [List.drop_length] at lp
      exact .inl ⟨st, q _ _ _ _ _ _ lp.2 e3 (g1.trans g13) ⟨p, hat, rfl⟩⟩
/-! errors -/
theorem ws_exc (h : ∀ as σ H G D, EnvOk K F ρ as σ H G → t D σ H) : WpS K F t ρ ks := fun as σ H G e D _ => h as σ H G D e
end
theorem frz_in {xs ds : List _} {ρ ρ2 : En} {P : List D → En → Prop} (h0 : Frz xs ρ ds ρ2) (h1 : Nat.ble ds.length 1000 = true) (h2 : P ds ρ2) : ∃ ds ρ2, Frz xs ρ ds ρ2 ∧ Nat.ble ds.length 1000 = true ∧ P ds ρ2 := ⟨ds, ρ2, h0, h1, h2⟩
theorem il_in {x : AV} {ds : List D} {ρ : En} {P : List D → Prop} (h0 : IsL ρ x ds) (h2 : P ds) : ∃ ds, IsL ρ x ds ∧ P ds := ⟨ds, h0, h2⟩
theorem lc_in {y : AV} {e : D} {ρ ρ4 : En} {n : Nat} {acc : List D} {P : D → En → List D → Prop} (h0 : Frz [y] ρ [e] ρ4) (h1 : ρ4.ce[n]? = some (.lst acc)) (h2 : acc.length < 16000000) (h3 : P e ρ4 acc) : ∃ e ρ4 acc, Frz [y] ρ [e] ρ4 ∧ ρ4.ce[n]? = some (.lst acc) ∧ acc.length < 16000000 ∧ P e ρ4 acc := ⟨e, ρ4, acc, h0, h1, h2, h3⟩
theorem wgs_nilM {K : PySem.W.Frag} {F : Fx} {ρ : En} {kn : En → Prop} (h : kn ρ) : WpGs K F gNil (List.map AV.dat []) ρ kn := wgs_nil h
theorem wgs_consM {K : PySem.W.Frag} {F : Fx} {ρ : En} {g : TG} {gs : TGs} {d : D} {ds : List D} {kn : En → Prop} (h : WpG K F g (.dat d) ρ fun ρ1 => WpGs K F gs (ds.map .dat) ρ1 kn) : WpGs K F (gCons g gs) ((d :: ds).map .dat) ρ kn := wgs_cons h
section
variable {K : PySem.W.Frag} {F : Fx} {ρ : En} {k : AV → En → Prop} {ks ks' : KS} {t : TS} {te : TE} {tt : TT}
theorem WpS.imp (h : WpS K F t ρ ks) (h1 : ∀ ρ, ks.nx ρ → ks'.nx ρ) (h2 : ∀ x ρ, ks.rt x ρ → ks'.rt x ρ) (h3 : ∀ ρ, ks.bk ρ → ks'.bk ρ) (h4 : ∀ ρ, ks.ct ρ → ks'.ct ρ) : WpS K F t ρ ks' := fun as σ H G e D q =>
  h as σ H G e D ⟨fun ρ as' σ H G' a b c => q.nx ρ as' σ H G' (h1 _ a) b c, fun av ρ v as' σ H G' a b c d => q.rt av ρ v as' σ H G' (h2 _ _ a) b c d, fun ρ as' σ H G' a b c => q.bk ρ as' σ H G' (h3 _ a) b c, fun ρ as' σ H G' a b c => q.ct ρ as' σ H G' (h4 _ a) b c, q.fr⟩
theorem WpG.imp {g : TG} {x : AV} {kn kn' : En → Prop} (h : WpG K F g x ρ kn) (i : ∀ ρ, kn ρ → kn' ρ) : WpG K F g x ρ kn' := fun as σ H G v e r Q q => h as σ H G v e r Q fun ρ' as' σ' H' G' a b c => q ρ' as' σ' H' G' (i _ a) b c
theorem WpT.imp {kb kb' : Bool → En → Prop} (h : WpT K F tt ρ kb) (i : ∀ b ρ, kb b ρ → kb' b ρ) : WpT K F tt ρ kb' := fun as σ H G e Q q => h as σ H G e Q fun b ρ' as' H' G' a c d => q b ρ' as' H' G' (i _ _ a) c d
/-- what holds at a turn's end -/
inductive Now (p : Prop) : Prop
  | one (h : p)
  | two (h : p)
theorem now {p : Prop} (h : p) : Now p := .one h
theorem Now.out {p : Prop} (h : Now p) : p := by cases h <;> assumption
theorem loop_by {n : Nat} {gd : En → Prop} {g : TG} {tb : TS} {ds : List D} (I : List D → En → Prop) (h0 : I ds ρ) (hn : ∀ ρ, I [] ρ → gd ρ ∧ ks.nx ρ)
    (hs : ∀ d ds ρ, I (d :: ds) ρ → gd ρ ∧ WpG K F g (.dat d) ρ fun ρ1 => WpS K F tb ρ1 { nx := fun ρ2 => Now (I ds ρ2), rt := ks.rt, ct := fun ρ2 => Now (I ds ρ2), bk := ks.nx }) : Loop K F n gd g tb ks ds ρ := by
  induction ds generalizing ρ with
  | nil => exact hn ρ h0
  | cons d ds ih =>
    obtain ⟨a, b⟩ := hs d ds ρ h0
    exact ⟨a, b.imp fun ρ1 h1 => h1.imp (fun ρ2 h2 => ⟨ρ2, .all, ih h2.out⟩) (fun _ _ z => z) (fun _ z => z) (fun ρ2 h2 => ⟨ρ2, .all, ih h2.out⟩)⟩
/-- .. each turn's own cells forgotten -/
theorem loop_cut {n : Nat} {gd : En → Prop} {g : TG} {tb : TS} {ds : List D} (I : List D → En → Prop) (h0 : I ds ρ) (hn : ∀ ρ, I [] ρ → gd ρ ∧ ks.nx ρ)
    (hs : ∀ d ds ρ, I (d :: ds) ρ → gd ρ ∧ WpG K F g (.dat d) ρ fun ρ1 => WpS K F tb ρ1 { nx := fun ρ2 => Now (I ds (ρ2.trunc n)), rt := ks.rt, ct := fun ρ2 => Now (I ds (ρ2.trunc n)), bk := ks.nx }) : Loop K F n gd g tb ks ds ρ := by
  induction ds generalizing ρ with
  | nil => exact hn ρ h0
  | cons d ds ih =>
    obtain ⟨a, b⟩ := hs d ds ρ h0
    exact ⟨a, b.imp fun ρ1 h1 => h1.imp (fun ρ2 h2 => ⟨_, .cut, ih h2.out⟩) (fun _ _ z => z) (fun _ z => z) (fun ρ2 h2 => ⟨_, .cut, ih h2.out⟩)⟩
/-- .. each turn's end as one likes -/
theorem loop_any {n : Nat} {gd : En → Prop} {g : TG} {tb : TS} {ds : List D} (I : List D → En → Prop) (h0 : I ds ρ) (hn : ∀ ρ, I [] ρ → gd ρ ∧ ks.nx ρ)
    (hs : ∀ d ds ρ, I (d :: ds) ρ → gd ρ ∧ WpG K F g (.dat d) ρ fun ρ1 => WpS K F tb ρ1 { nx := fun ρ2 => Now (∃ ρ3, Tr n ρ2 ρ3 ∧ I ds ρ3), rt := ks.rt, ct := fun ρ2 => Now (∃ ρ3, Tr n ρ2 ρ3 ∧ I ds ρ3), bk := ks.nx }) : Loop K F n gd g tb ks ds ρ := by
  induction ds generalizing ρ with
  | nil => exact hn ρ h0
  | cons d ds ih =>
    obtain ⟨a, b⟩ := hs d ds ρ h0
    exact ⟨a, b.imp fun ρ1 h1 => h1.imp (fun ρ2 h2 => let ⟨ρ3, t, i⟩ := h2.out; ⟨ρ3, t, ih i⟩) (fun _ _ z => z) (fun _ z => z) (fun ρ2 h2 => let ⟨ρ3, t, i⟩ := h2.out; ⟨ρ3, t, ih i⟩)⟩
theorem loopC_by {gd : En → Prop} {g : TG} {vs : List Nat} {n : Nat} {ds : List D} (I : List D → En → Prop) (h0 : I ds ρ) (hn : ∀ ρ, I [] ρ → gd ρ ∧ k (.cel n) ρ)
    (hs : ∀ d ds ρ, I (d :: ds) ρ → gd ρ ∧ WpG K F g (.dat d) ρ fun ρ1 => WpT K F tt ρ1 fun b ρ2 => if b = true then WpE K F te ρ2 fun y ρ3 => ∃ e ρ4 acc, Frz [y] ρ3 [e] ρ4 ∧ ρ4.ce[n]? = some (.lst acc) ∧ acc.length < 16000000 ∧ Now (I ds (((ρ4.cell n (.lst (acc ++ [e]))).wipe vs).trunc (n + 1)))
      else Now (I ds ((ρ2.wipe vs).trunc (n + 1)))) : LoopC K F gd g tt te vs n k ds ρ := by
  induction ds generalizing ρ with
  | nil => exact hn ρ h0
  | cons d ds ih =>
    obtain ⟨a, b⟩ := hs d ds ρ h0
    refine ⟨a, b.imp fun ρ1 h1 => h1.imp fun b ρ2 h2 => ?_⟩
    cases b with
    | true => exact WpE.imp h2 fun y ρ3 ⟨e, ρ4, acc, x1, x2, x3, x4⟩ => ⟨e, ρ4, acc, x1, x2, x3, _, .cut, ih x4.out⟩
    | false => exact ⟨_, .cut, ih (show Now _ from h2).out⟩
end
section
variable {K : PySem.W.Frag} {F : Fx} {ρ : En} {k : AV → En → Prop}
/-- an item at a drawn place -/
theorem wr_ixA {x : AV} {ds : List D} {i : Int} (hx : IsL ρ x ds) (h0 : 0 ≤ i) (h1 : i < ds.length) (hk : ∀ d ∈ ds, k (.dat d) ρ) : WpR K F (rIxL K) x (.dat (.int i)) ρ k := by
  have hl : i.toNat < ds.length := by omega
  have e : ((i.toNat : Nat) : Int) = i := by omega
  have ha := atI_nat (xs := ds) (j := i.toNat) (v := ds[i.toNat]) (List.getElem?_eq_getElem hl)
  rw [e] at ha
  exact wr_ixL hx ha (hk _ (List.getElem_mem hl))
/-- a list of one number is a state to draw from -/
theorem EnvOk.drw {as : List Addr} {σ : L2.St} {H G : Hp} {j : Nat} {n : Int} (e : EnvOk K F ρ as σ H G) (hj : ρ.ce[j]? = some (.lst [.int n])) : EnvOk K F (ρ.cell j .drw) as σ H G := by
  have hl : j < ρ.ce.length := (List.getElem?_eq_some_iff.mp hj).1
  refine ⟨e.gh, e.fh, e.fg, e.g0, e.nd, e.pr, by rw [e.ln]; exact (List.length_set).symm, fun i c a hc ha => ?_, e.sn, e.sl⟩
  have hc' : (ρ.ce.set j .drw)[i]? = some c := hc
  by_cases hij : j = i
  · subst hij
    rw [List.getElem?_set_self hl] at hc'
    cases hc'
    obtain ⟨fa, ho, g, ws, hw, hr⟩ := e.ce j _ a hj ha
    refine ⟨fa, ho, g, ws, hw, ?_⟩
    cases hr with
    | cons x y => cases y; cases x; exact .inl ⟨_, rfl⟩
  · rw [List.getElem?_set_ne hij] at hc'
    exact e.ce i c a hc' ha
theorem wsp_drw {sp : Sp} {E : L2.St → XK} {xs : List AV} {j : Nat} {n : Int} (hj : ρ.ce[j]? = some (.lst [.int n])) (h : WpSp K F sp E xs (ρ.cell j .drw) k) : WpSp K F sp E xs ρ k := fun as σ H G vs e r Q q =>
  h as σ H G vs (e.drw hj) r Q (q.imp .refl fun _ _ z => z)
theorem ws_drw {t : TS} {ks : KS} {j : Nat} {n : Int} (hj : ρ.ce[j]? = some (.lst [.int n])) (h : WpS K F t (ρ.cell j .drw) ks) : WpS K F t ρ ks := fun as σ H G e D q => h as σ H G (e.drw hj) D q
end
theorem rngD_len {lo : Int} {n : Nat} : (rngD lo n).length = n := by unfold rngD; rw [List.length_map, List.length_range]
theorem rngD_drop {lo : Int} {n i : Nat} (h : i < n) : (rngD lo n).drop i = .int (lo + i) :: (rngD lo n).drop (i + 1) := by
  have hl : i < (rngD lo n).length := by rw [rngD_len]; exact h
  rw [List.drop_eq_getElem_cons hl]
  congr 1
  have : (rngD lo n)[i]? = some (.int (lo + i)) := by unfold rngD; rw [List.getElem?_map, List.getElem?_range h]; rfl
  rw [List.getElem?_eq_getElem hl] at this
  exact Option.some.inj this
section
variable {K : PySem.W.Frag} {F : Fx} {ρ : En} {k : AV → En → Prop} {ks : KS} {te : TE} {tt : TT}
theorem loop_rng {m : Nat} {gd : En → Prop} {g : TG} {tb : TS} {lo : Int} {n : Nat} (I : Nat → En → Prop) (h0 : I 0 ρ) (hn : ∀ ρ, I n ρ → gd ρ ∧ ks.nx ρ)
    (hs : ∀ i ρ, i < n → I i ρ → gd ρ ∧ WpG K F g (.dat (.int (lo + i))) ρ fun ρ1 => WpS K F tb ρ1 { nx := fun ρ2 => Now (I (i + 1) (ρ2.trunc m)), rt := ks.rt, ct := fun ρ2 => Now (I (i + 1) (ρ2.trunc m)), bk := ks.nx }) : Loop K F m gd g tb ks (rngD lo n) ρ := by
  refine loop_cut (fun ds ρ => ∃ i, i ≤ n ∧ ds = (rngD lo n).drop i ∧ I i ρ) ⟨0, Nat.zero_le _, rfl, h0⟩ ?_ ?_
  · rintro ρ ⟨i, hi, hd, h⟩
    have : i = n := by
      rcases Nat.lt_or_ge i n with z | z
      · rw [rngD_drop z] at hd; cases hd
      · omega
    subst this
    exact hn ρ h
  · rintro d ds ρ ⟨i, hi, hd, h⟩
    rcases Nat.lt_or_ge i n with z | z
    · rw [rngD_drop z] at hd
      cases hd
      obtain ⟨a, b⟩ := hs i ρ z h
      exact ⟨a, b.imp fun ρ1 h1 => h1.imp (fun ρ2 h2 => now ⟨i + 1, z, rfl, h2.out⟩) (fun _ _ z => z) (fun _ z => z) (fun ρ2 h2 => now ⟨i + 1, z, rfl, h2.out⟩)⟩
    · rw [List.drop_of_length_le (by rw [rngD_len]; exact z)] at hd; cases hd
theorem loopC_rng {gd : En → Prop} {g : TG} {vs : List Nat} {m : Nat} {lo : Int} {n : Nat} (I : Nat → En → Prop) (h0 : I 0 ρ) (hn : ∀ ρ, I n ρ → gd ρ ∧ k (.cel m) ρ)
    (hs : ∀ i ρ, i < n → I i ρ → gd ρ ∧ WpG K F g (.dat (.int (lo + i))) ρ fun ρ1 => WpT K F tt ρ1 fun b ρ2 => if b = true then WpE K F te ρ2 fun y ρ3 => ∃ e ρ4 acc, Frz [y] ρ3 [e] ρ4 ∧ ρ4.ce[m]? = some (.lst acc) ∧ acc.length < 16000000 ∧ Now (I (i + 1) (((ρ4.cell m (.lst (acc ++ [e]))).wipe vs).trunc (m + 1)))
      else Now (I (i + 1) ((ρ2.wipe vs).trunc (m + 1)))) : LoopC K F gd g tt te vs m k (rngD lo n) ρ := by
  refine loopC_by (fun ds ρ => ∃ i, i ≤ n ∧ ds = (rngD lo n).drop i ∧ I i ρ) ⟨0, Nat.zero_le _, rfl, h0⟩ ?_ ?_
  · rintro ρ ⟨i, hi, hd, h⟩
    have : i = n := by
      rcases Nat.lt_or_ge i n with z | z
      · rw [rngD_drop z] at hd; cases hd
      · omega
    subst this
    exact hn ρ h
  · rintro d ds ρ ⟨i, hi, hd, h⟩
    rcases Nat.lt_or_ge i n with z | z
    · rw [rngD_drop z] at hd
      cases hd
      obtain ⟨a, b⟩ := hs i ρ z h
      refine ⟨a, b.imp fun ρ1 h1 => h1.imp fun b ρ2 h2 => ?_⟩
      cases b with
      | true => exact WpE.imp h2 fun y ρ3 ⟨e, ρ4, acc, x1, x2, x3, x4⟩ => ⟨e, ρ4, acc, x1, x2, x3, now ⟨i + 1, z, rfl, x4.out⟩⟩
      | false => exact now ⟨i + 1, z, rfl, (show Now _ from h2).out⟩
    · rw [List.drop_of_length_le (by rw [rngD_len]; exact z)] at hd; cases hd
end
/-! ### *v by data -/
theorem spG_star {K : PySem.W.Frag} {W : PW0} {vs : List V} {H : Hp} {Q : VK} {E : XK} (h : spG K (fun xs cs post exc => ∃ ds, xs = ds.map .dat ∧ cs = [] ∧ ds.length ≤ 1000 ∧ W [.dat (.tup ds)] [] post exc) vs H Q E) : vs.length ≤ sizeLine ∧ ∀ p, H p = none → spG K W [.ref p] (upd H p (.tup vs)) Q E := by
  obtain ⟨G, as, xs, cs, post, exc, gh, ok, rx, ⟨ds, rfl, rfl, hl, hw⟩, hq, he⟩ := h
  have ln : as = [] := List.length_eq_zero_iff.mp ok.ln
  subst ln
  have rd : Reps K G ds vs := by
    have main : ∀ (es : List D) (ws : List V), RepAs K G [] (es.map .dat) ws → Reps K G es ws := by
      intro es
      induction es with
      | nil => intro ws r; cases r; exact .nil
      | cons e es ih => intro ws r; cases r with | cons a b => exact .cons a (ih _ b)
    exact main ds vs rx
  refine ⟨szn (by rw [rd.length]; exact hl), fun p hp => ?_⟩
  have gp : G p = none := Same.none gh hp
  have sg : Same G (upd G p (.tup vs)) := Same.new (Same.refl _) gp
  have sh : Same H (upd H p (.tup vs)) := Same.new (Same.refl _) hp
  have old : ∀ {a : Addr}, upd H p (.tup vs) a = none → H a = none := fun {a} z => Same.none sh z
  refine ⟨upd G p (.tup vs), [], [.dat (.tup ds)], [], post, exc, fun a o h => ?_, ⟨rfl, List.nodup_nil, fun j c a hc => by simp at hc⟩, .cons (Rep.tup (SqT.of upd_same) (Reps.mono sg _ _ rd)) .nil, hw, ?_, ?_⟩
  · by_cases q : a = p
    · subst q; rw [upd_same] at h ⊢; exact h
    · rw [upd_ne q] at h ⊢; exact gh _ _ h
  · intro r cs' v H' G' hp' fr s1 s2 nw ck rr
    refine hq r cs' v H' G' hp' (fun a o na ha => fr a o na (sh _ _ ha)) (Same.trans sg s1) s2 (fun a o ha => ?_) ck ?_
    · rcases nw a o ha with y | y
      · by_cases q : a = p
        · subst q; exact .inr hp
        · rw [upd_ne q] at y; exact .inl y
      · exact .inr (old y)
    · cases r with
      | dat d => exact rr
      | new es => obtain ⟨a, ws, e1, e2, e3⟩ := rr; exact ⟨a, ws, e1, old e2, e3⟩
  · exact fun C H' hc fr => he C H' hc fun a o na ha => fr a o na (sh _ _ ha)
/-! ### rules of the data layer: truth of lists, items stored, pop -/
def tTru (K : PySem.W.Frag) (ta : TE) : TT := fun σ H Q => ta σ H fun x H' => ∃ k, TruV K x H' k ∧ Q k H'
theorem pt_tru {X : Cx} {K : PySem.W.Frag} {a : Expr} {ta : TE} (hK : X.K = K) (h : PE X a ta) (he : ∀ whole, isTrue a X.env whole = (do let v ← whole; standAt a.pos; holding [v] (truthy v))) : PT X a (tTru K ta) := by
  subst hK
  exact pt_truth h he
section
variable {K : PySem.W.Frag} {F : Fx} {ρ : En} {k : AV → En → Prop} {kb : Bool → En → Prop} {ta to ti : TE}
theorem isEmpty_reps {G : Hp} {ds : List D} {vs : List V} (h : Reps K G ds vs) : vs.isEmpty = ds.isEmpty := by
  cases ds with
  | nil => cases h; rfl
  | cons => cases h; rfl
theorem wt_tru (h : WpE K F ta ρ fun x ρ1 => ∃ ds, IsL ρ1 x ds ∧ kb (!ds.isEmpty) ρ1) : WpT K F (tTru K ta) ρ kb := fun as σ H G e Q q =>
  h as σ H G e _ fun x ρ1 vx as1 H1 G1 ⟨ds, hx, h1⟩ e1 g1 r1 => by
    obtain ⟨a, vs, rfl, hs, hr⟩ := hx.rep e1 r1
    refine ⟨!ds.isEmpty, .inl ⟨vs, hs, by rw [isEmpty_reps hr]⟩, q _ _ _ _ _ h1 e1 g1⟩
theorem wg_sub {x : AV} {kn : En → Prop} (h : WpE K F to ρ fun o ρ1 => WpE K F ti ρ1 fun i ρ2 => ∃ (j m : Nat) (n : Int) (d : D) (ρ3 : En) (ds : List D), o = .cel j ∧ i = .dat (.int n) ∧ Frz [x] ρ2 [d] ρ3 ∧ ρ3.ce[j]? = some (.lst ds) ∧ ixN ds.length n = some m ∧ kn (ρ3.cell j (.lst (ds.set m d)))) : WpG K F (gSub to ti rSetL) x ρ kn := fun as σ H G v e r Q q =>
  h as σ H G e _ fun o ρ1 vo as1 H1 G1 h1 e1 g1 r1 => h1 as1 σ H1 G1 e1 _ fun i ρ2 vi as2 H2 G2 ⟨j, m, n, d, ρ3, ds, eo, ei, fz, hc, hi, hk⟩ e2 g2 r2 => by
    subst eo ei
    obtain ⟨G3, e3, g3, r3⟩ := fz.run e2 (.cons (r.mono (g1.trans g2)) .nil)
    obtain ⟨a, ha, rfl⟩ := r1.mono g2
    cases r3 with
    | cons y z =>
      cases z
      obtain ⟨_, _, g, ws, hw, hr⟩ := e3.ce j _ a hc ha
      refine ⟨a, ws, n, m, rfl, Rep.intE r2, hw, by rw [hr.length]; exact hi, q _ as2 σ _ G3 hk (e3.setC hc ha g ⟨g, _, upd_same, hr.set y m⟩) (g1.trans (g2.trans g3))⟩
theorem wm_pop {j : Nat} {ds : List D} {d : D} (hc : ρ.ce[j]? = some (.lst ds)) (hd : ds.getLast? = some d) (hk : k (.dat d) (ρ.cell j (.lst ds.dropLast))) : WpM K F rPop (.cel j) [] ρ k := fun as σ H G v vs e r1 r2 Q q => by
  obtain ⟨a, ha, rfl⟩ := r1
  cases r2
  obtain ⟨_, _, g, ws, hw, hr⟩ := e.ce j _ a hc ha
  rw [List.getLast?_eq_getElem?] at hd
  obtain ⟨v, hv, rv⟩ := hr.get hd
  have hdl : Reps K G ds.dropLast ws.dropLast := by
    rw [List.dropLast_eq_take, List.dropLast_eq_take, hr.length]
    exact hr.take _
  exact ⟨a, ws, v, rfl, rfl, hw, by rw [hr.length]; exact hv, q _ _ _ as _ G hk (e.setC hc ha g ⟨g, _, upd_same, hdl⟩) .refl rv⟩
theorem sub_in {o i : AV} {x : AV} {j m : Nat} {n : Int} {d : D} {ρ2 ρ3 : En} {ds : List D} {kn : En → Prop} (h1 : o = .cel j) (h2 : i = .dat (.int n)) (h0 : Frz [x] ρ2 [d] ρ3) (h3 : ρ3.ce[j]? = some (.lst ds)) (h4 : ixN ds.length n = some m) (hk : kn (ρ3.cell j (.lst (ds.set m d)))) :
    ∃ (j m : Nat) (n : Int) (d : D) (ρ3 : En) (ds : List D), o = .cel j ∧ i = .dat (.int n) ∧ Frz [x] ρ2 [d] ρ3 ∧ ρ3.ce[j]? = some (.lst ds) ∧ ixN ds.length n = some m ∧ kn (ρ3.cell j (.lst (ds.set m d))) := ⟨j, m, n, d, ρ3, ds, h1, h2, h0, h3, h4, hk⟩
end
theorem mapC {α β : Type} (f : α → β) (a : α) (l : List α) : List.map f (a :: l) = f a :: List.map f l := rfl
theorem mapN {α β : Type} (f : α → β) : List.map f [] = [] := rfl
theorem frzA_d (j : Nat) (d e : D) : frzA j d (.dat e) = .dat e := rfl
theorem frzA_c (j i : Nat) (d : D) : frzA j d (.cel i) = if i = j then .dat d else .cel i := rfl
/-! ### try by data -/
section
variable {K : PySem.W.Frag} {F : Fx} {ρ : En} {k : AV → En → Prop} {ks : KS}
def En.clr (ρ : En) (i : Nat) : En := ⟨ρ.sl.set i none, ρ.ce⟩
theorem EnvOk.clr {as : List Addr} {σ : L2.St} {H G : Hp} (e : EnvOk K F ρ as σ H G) (i : Nat) : EnvOk K F (ρ.clr i) as (σ.set i none) H G :=
  ⟨e.gh, e.fh, e.fg, e.g0, e.nd, e.pr, e.ln, e.ce, by rw [List.length_set, e.sn]; exact (List.length_set).symm, fun j av hj => by
    have hj' : (ρ.sl.set i none)[j]? = some (some av) := hj
    by_cases hij : i = j
    · subst hij
      rw [List.getElem?_set] at hj'
      simp at hj'
    · rw [List.getElem?_set_ne hij] at hj'
      obtain ⟨v, hv, r⟩ := e.sl j av hj'
      exact ⟨v, by rw [List.getElem?_set_ne hij]; exact hv, r⟩⟩
def KS.off (ks : KS) (i : Nat) : KS := { nx := fun ρ => ks.nx (ρ.clr i), rt := ks.rt, bk := fun ρ => ks.bk (ρ.clr i), ct := fun ρ => ks.ct (ρ.clr i) }
theorem EndsOk.off {as : List Addr} {G : Hp} {D : Ends} (q : EndsOk K F as G ks D) (i : Nat) : EndsOk K F as G (ks.off i) (offAt i D) :=
  ⟨fun ρ as' σ H G' a b c => q.nx _ as' _ H G' a (b.clr i) c, q.rt, fun ρ as' σ H G' a b c => q.bk _ as' _ H G' a (b.clr i) c, fun ρ as' σ H G' a b c => q.ct _ as' _ H G' a (b.clr i) c, q.fr⟩
/-- what an error of the class C meets at the clauses -/
def Mix (K : PySem.W.Frag) (F : Fx) (C : Addr) (out : Prop) : List (Value × Option Nat × Suite) → En → KS → Prop
  | [], _, _ => out
  | (c, none, t) :: r, ρ, ks => ∃ y, PySem.W.exmOne K (.ref C) c = some y ∧ if y = true then ∀ e, WpS K F (t e (.ref C) none) ρ ks else Mix K F C out r ρ ks
  | (c, some i, t) :: r, ρ, ks => ∃ y, PySem.W.exmOne K (.ref C) c = some y ∧ if y = true then ∀ e, WpS K F (t e (.ref C) none) (ρ.put i (.dat (.cls e))) (ks.off i) else Mix K F C out r ρ ks
theorem Mix.run {C : Addr} {out : Prop} {Wo : WX} {as as0 : List Addr} {σ : L2.St} {H G G0 : Hp} {D : Ends} (e : EnvOk K F ρ as σ H G) (hWo : out → Wo (.ref C) none σ H) (q : EndsOk K F as G ks D) : ∀ {l : List (Value × Option Nat × Suite)}, Mix K F C out l ρ ks → wMix K Wo D l (.ref C) none σ H
  | [], h => hWo h
  | (c, none, t) :: r, ⟨y, hy, h⟩ => by
    refine ⟨y, hy, fun z x _ => ?_, fun z => ?_⟩
    · subst z
      exact (show ∀ x, WpS K F (t x (.ref C) none) ρ ks from h) x as σ H G e D q
    · subst z
      exact Mix.run (as0 := as0) (G0 := G0) e hWo q (show Mix K F C out r ρ ks from h)
  | (c, some i, t) :: r, ⟨y, hy, h⟩ => by
    refine ⟨y, hy, fun z x _ => ?_, fun z => ?_⟩
    · subst z
      exact (show ∀ x, WpS K F (t x (.ref C) none) (ρ.put i (.dat (.cls x))) (ks.off i) from h) x as _ H G (e.put (x := .dat (.cls x)) (Rep.cls x)) _ (q.off i)
    · subst z
      exact Mix.run (as0 := as0) (G0 := G0) e hWo q (show Mix K F C out r ρ ks from h)
/-- xk: which errors come, and at which environment -/
theorem ws_try {tb : WX → TS} {Wo : WX} {l : List (Value × Option Nat × Suite)} (xk : Addr → En → Prop) (out : Addr → Prop)
    (hWo : ∀ C ρ' as σ H G, out C → EnvOk K F ρ' as σ H G → Wo (.ref C) none σ H)
    (hb : ∀ (F1 : Fx) (W : WX), F1.fr = F.fr → (∀ C ρ' as σ H G, xk C ρ' → EnvOk K F1 ρ' as σ H G → W (.ref C) none σ H) → WpS K F1 (tb W) ρ ks)
    (hs : ∀ C ρ', xk C ρ' → Mix K F C (out C) l ρ' ks) : WpS K F (fun D u G => tb (wMix K Wo D l) D u G) ρ ks := fun as σ H G e D q => by
  have e1 : EnvOk K ⟨F.Fr, G, F.E, F.ex, F.hE, F.fr, as⟩ ρ as σ H G := ⟨e.gh, e.fh, fun a o h => .inl h, Same.refl _, e.nd, List.prefix_refl _, e.ln, e.ce, e.sn, e.sl⟩
  have back : ∀ {ρ' : En} {as' : List Addr} {σ' : L2.St} {H' G' : Hp}, EnvOk K ⟨F.Fr, G, F.E, F.ex, F.hE, F.fr, as⟩ ρ' as' σ' H' G' → EnvOk K F ρ' as' σ' H' G' ∧ Gr G as G' as' := fun {ρ' as' σ' H' G'} x => by
    refine ⟨⟨x.gh, x.fh, fun a o h => ?_, Same.trans e.g0 x.g0, x.nd, e.pr.trans x.pr, x.ln, x.ce, x.sn, x.sl⟩, ⟨x.g0, ?_⟩⟩
    · rcases x.fg a o h with z | z
      · exact e.fg a o z
      · exact .inr z
    · obtain ⟨r, hr⟩ := x.pr
      exact ⟨r, hr.symm⟩
  refine hb ⟨F.Fr, G, F.E, F.ex, F.hE, F.fr, as⟩ (wMix K Wo D l) rfl (fun C ρ' as' σ' H' G' hx ex => ?_) as σ H G e1 D ⟨fun ρ' as' σ' H' G' a b _ => ?_, fun av ρ' v as' σ' H' G' a b _ r => ?_, fun ρ' as' σ' H' G' a b _ => ?_, fun ρ' as' σ' H' G' a b _ => ?_, q.fr⟩
  · obtain ⟨b1, g1⟩ := back ex
    exact Mix.run (as0 := as) (G0 := G) b1 (fun z => hWo C ρ' as' σ' H' G' z b1) (EndsOk.grow K F q g1) (hs C ρ' hx)
  · obtain ⟨b1, g1⟩ := back b
    exact q.nx ρ' as' σ' H' G' a b1 g1
  · obtain ⟨b1, g1⟩ := back b
    exact q.rt av ρ' v as' σ' H' G' a b1 g1 r
  · obtain ⟨b1, g1⟩ := back b
    exact q.bk ρ' as' σ' H' G' a b1 g1
  · obtain ⟨b1, g1⟩ := back b
    exact q.ct ρ' as' σ' H' G' a b1 g1
/-- nothing is let out -/
theorem ws_try0 {tb : WX → TS} {l : List (Value × Option Nat × Suite)} (xk : Addr → En → Prop)
    (hb : ∀ (F1 : Fx) (W : WX), F1.fr = F.fr → (∀ C ρ' as σ H G, xk C ρ' → EnvOk K F1 ρ' as σ H G → W (.ref C) none σ H) → WpS K F1 (tb W) ρ ks)
    (hs : ∀ C ρ', xk C ρ' → Mix K F C False l ρ' ks) : WpS K F (fun D u G => tb (wMix K (fun _ _ _ _ => False) D l) D u G) ρ ks := ws_try xk (fun _ => False) (fun _ _ _ _ _ _ z _ => z) hb hs
/-- a call in a try: its errors meet the clauses -/
theorem wspT {W : PW0} {Wx : WX} {xk : Addr → En → Prop} {xs : List AV} {ds : List D} (hW : ∀ C ρ' as σ H G, xk C ρ' → EnvOk K F ρ' as σ H G → Wx (.ref C) none σ H) (ha : AsD ρ xs ds) (hw : W (ds.map .dat) [] (fun r _ => aft ρ xs k r) (fun C => xk C ρ)) : WpSp K F (spG K W) (L2.WE Wx) xs ρ k := wsp0 ha (fun C as σ H G h e => hW C ρ as σ H G h e) hw
/-- isinstance of a caught error -/
theorem wc_isE {a C Y : Addr} {b : Bool} (hx : ExcC K C) (hk : PySem.W.kitOne K (.ref C) (.ref Y) = some b) (h : k (.dat (.bl b)) ρ) : WpC K F (fun xs H Q => ∃ D, Value.ref C = .ref D ∧ (none : Option Addr) = none ∧ ExcC K D ∧ rIsE K D a xs H Q) [.dat (.cls a), .dat (.cls Y)] ρ k := fun as σ H G vs e r Q q => by
  cases r with
  | cons r1 r2 =>
    cases r2 with
    | cons r2 r3 =>
      cases r3
      cases (show Rep K G (.cls a) _ from r1)
      cases (show Rep K G (.cls Y) _ from r2)
      exact ⟨C, rfl, rfl, hx, _, _, b, rfl, (fun u hu => by cases hu; rfl), hk, q _ ρ _ as H G h e .refl (Rep.bl _)⟩
theorem wc_isEB {a C : Addr} {s : String} {b : Bool} (hx : ExcC K C) (hk : PySem.W.kitOne K (.ref C) (.type s) = some b) (h : k (.dat (.bl b)) ρ) : WpC K F (fun xs H Q => ∃ D, Value.ref C = .ref D ∧ (none : Option Addr) = none ∧ ExcC K D ∧ rIsE K D a xs H Q) [.dat (.cls a), .dat (.ty s)] ρ k := fun as σ H G vs e r Q q => by
  cases r with
  | cons r1 r2 =>
    cases r2 with
    | cons r2 r3 =>
      cases r3
      cases (show Rep K G (.cls a) _ from r1)
      cases (show Rep K G (.ty s) _ from r2)
      exact ⟨C, rfl, rfl, hx, _, _, b, rfl, (fun u hu => by cases hu; rfl), hk, q _ ρ _ as H G h e .refl (Rep.bl _)⟩
/-- {} -/
theorem we_dnew (h : k (.dat .dic) ρ) : WpE K F tDNewK ρ k := fun as σ H G e Q q p hp => by
  obtain ⟨e3, g3⟩ := e.newG (o := .dK []) hp
  exact q _ _ _ _ _ _ h e3 g3 (Rep.dic upd_same)
end
/-- arguments as data -/
local macro_rules | `(tactic| walk_at "as") => `(tactic| first
  | exact AsD.nil
  | (apply AsD.dat; walk_at "as")
  | (apply AsD.cel rfl; walk_at "as")
  | fail)
local macro_rules | `(tactic| walk_at "fz") => `(tactic| first
  | exact Frz.nil
  | (apply Frz.dat; walk_at "fz")
  | (apply Frz.cel rfl; walk_at "fz")
  | (apply Frz.ins rfl; walk_at "fz")
  | fail)
local macro_rules | `(tactic| walk_at "il") => `(tactic| first
  | exact IsL.dat _
  | exact IsL.cel rfl
  | exact IsL.scr _
  | fail)
local macro_rules | `(tactic| walk_at "od") => `(tactic| first
  | exact OfD.dat _
  | exact OfD.cel rfl
  | fail)
local macro_rules | `(tactic| walk_at "on") => `(tactic| first
  | exact only_name (by simp)
  | (refine only_tup ?_; repeat first | exact onlys_nil | refine onlys_cons (by simp) ?_)
  | fail)
/-- a call: its arguments as data -/
local macro_rules | `(tactic| walk_at "c") => `(tactic| (refine' wspE ?q1 ?z9; (case q1 => walk_at "as")))
local macro_rules | `(tactic| walk_at "cx") => `(tactic| (refine' wspX ?q1 ?z9; (case q1 => walk_at "as")))
local macro_rules | `(tactic| walk_at "al") => `(tactic| first
  | exact AsL.nil
  | (apply AsL.dat; walk_at "al")
  | (apply AsL.own; walk_at "al")
  | (apply AsL.cel (Nat.ne_of_beq_eq_false rfl) rfl; walk_at "al")
  | fail)
/-- a call that is lent a cell -/
local macro_rules | `(tactic| walk_at "c1") => `(tactic| (refine' wsp1 ?q1 ?q2 ?q3 ?z9; (case q1 => rfl); (case q2 => rfl); (case q3 => rfl)))
local macro_rules | `(tactic| walk_at "c2") => `(tactic| (refine' wsp2 ?q1 ?q2 ?q3 ?z9; (case q1 => rfl); (case q2 => rfl); (case q3 => walk_at "al")))
local macro_rules | `(tactic| walk_at "cd") => `(tactic| (refine' wspD ?q1 ?q2 ?z9; (case q2 => walk_at "al"); (case q1 => rfl)))
/-- one step by data -/
local macro_rules | `(tactic| walk_at "d") => `(tactic| first
  | with_reducible refine ws_seq ?_
  | with_reducible refine ws_asg ?_
  | with_reducible refine ws_ret ?_
  | with_reducible refine ws_if ?_
  | with_reducible refine ws_drop ?_
  | with_reducible refine ws_par ?_
  | with_reducible refine ws_next ?_
  | with_reducible refine ws_retN ?_
  | with_reducible refine ws_break ?_
  | with_reducible refine ws_cont ?_
  | with_reducible refine ws_for ?_
  | ((with_reducible refine' we_var ?v1 ?z9); (case v1 => exact rfl))
  | with_reducible refine we_ci ?_
  | with_reducible refine we_cs ?_
  | with_reducible refine we_cn ?_
  | with_reducible refine we_cb ?_
  | with_reducible refine we_ct ?_
  | with_reducible refine we_op ?_
  | with_reducible refine we_un ?_
  | with_reducible refine we_tCB ?_
  | with_reducible refine wa_nil ?_
  | with_reducible refine wa_cons ?_
  | with_reducible refine we_andV ?_
  | with_reducible refine we_orV ?_
  | with_reducible refine we_notV ?_
  | with_reducible refine we_if ?_
  | with_reducible refine wt_test ?_
  | with_reducible refine wt_B ?_
  | with_reducible refine wt_and ?_
  | with_reducible refine wt_or ?_
  | with_reducible refine wt_not ?_
  | with_reducible refine wt_yes ?_
  | with_reducible refine wt_tru ?_
  | with_reducible refine we_tup ?_
  | with_reducible refine we_lst ?_
  | with_reducible refine we_call ?_
  | with_reducible refine we_callS ?_
  | with_reducible refine wo_none ?_
  | with_reducible refine wo_some ?_
  | with_reducible refine wi_rng1 ?_
  | with_reducible refine wi_rng2 ?_
  | with_reducible refine wg_name ?_
  | with_reducible refine wg_sub ?_
  | with_reducible refine wgs_nil ?_
  | with_reducible refine wgs_cons ?_
  | with_reducible refine wgs_consM ?_
  | with_reducible refine wgs_nilM ?_
  | with_reducible refine wr_I0i ?_
  | with_reducible refine wr_I0b ?_
  | with_reducible refine wr_isN ?_
  | with_reducible refine wr_notN ?_
  | with_reducible refine wr_isB ?_
  | with_reducible refine wr_isnotB ?_
  | (with_reducible refine wu_neg ?_)
  | with_reducible refine wc_abs ?_
  | ((with_reducible refine' wr_eq ?v1 ?z9); (case v1 => exact rfl))
  | ((with_reducible refine' wr_ne ?v1 ?z9); (case v1 => exact rfl))
  | ((with_reducible refine' we_lc ?v0 ?z9); (case v0 => walk_at "on"))
  | ((with_reducible refine' wm_append ?v0 ?v1 ?v2 ?z9); (case v0 => walk_at "fz"); (case v1 => exact rfl))
  | refine we_bm ?_
  | refine we_bm0 ?_
  | refine we_slL ?_
  | refine wi_list ?_
  | refine wi_tup ?_
  | ((refine' wg_tup ?v1 ?z9); (case v1 => exact rfl))
  | ((refine' wr_ixT ?v1 ?z9); (case v1 => exact rfl))
  | ((refine' wr_ixL ?v0 ?v1 ?z9); (case v0 => walk_at "il"); (case v1 => exact rfl))
  | refine wc_lenT ?_
  | ((refine' wc_lenL ?v0 ?z9); (case v0 => walk_at "il"))
  | ((refine' wc_isi ?v0 ?v1 ?z9); (case v0 => simp); (case v1 => exact rfl))
  | ((refine' wc_isiC ?v0 ?v1 ?z9); (case v0 => simp); (case v1 => exact rfl))
  | ((refine' wc_list ?v0 ?z9); (case v0 => walk_at "il"))
  | refine wc_listT ?_
  | ((refine' wc_tuple ?v0 ?z9); (case v0 => walk_at "il"))
  | (first | refine ⟨⟨_, _, rfl, rfl, rfl⟩, ?_⟩ | refine ⟨⟨_, _, rfl, rfl, fun z => by cases z⟩, ?_⟩ | fail)
  | ((with_reducible refine' frz_in ?v0 ?v1 ?z9); (case v0 => walk_at "fz"); (case v1 => exact rfl))
  | ((with_reducible refine' il_in ?v0 ?z9); (case v0 => walk_at "il"))
  | ((with_reducible refine' lc_in ?v0 ?v1 ?v2 ?z9); (case v0 => walk_at "fz"); (case v1 => exact rfl))
  | (refine ⟨_, rfl, ?_⟩)
  | (refine ⟨_, _, rfl, ?_⟩)
  | fail)
/-- steps, and ifs whose test is told -/
local macro_rules | `(tactic| walk_at "D") => `(tactic| repeat (first
  | walk_at "d"
  | refine ifT rfl ?_
  | refine ifF rfl ?_))
/-- the environment written out -/
local macro_rules | `(tactic| walk_at "nrm") => `(tactic| first | (dsimp only [En.put, En.add, En.cell, List.set_cons_zero, List.set_cons_succ, List.cons_append, List.nil_append, List.length_cons, List.length_nil, Nat.zero_add, Nat.reduceAdd]) | skip)

/-- .. with what was frozen and forgotten -/
local macro_rules | `(tactic| walk_at "nr2") => `(tactic| first | (dsimp only [En.start, En.put, En.add, En.cell, En.frz, En.frzD, En.clr, frzA_d, frzA_c, mapC, mapN, Option.map_some, Option.map_none, List.set_cons_zero, List.set_cons_succ, List.cons_append, List.nil_append, List.length_cons, List.length_nil, Nat.zero_add, Nat.reduceAdd, Nat.reduceSub, List.replicate_succ, List.replicate_zero, ↓reduceIte, Nat.reduceEqDiff, reduceCtorEq]) | skip)
/-! ### sizes of whole numbers -/
def Sm (n : Nat) (x : Int) : Prop := x.natAbs < 2 ^ n
theorem Sm.mono {a b : Nat} {x : Int} (h : Sm a x) (l : a ≤ b) : Sm b x := Nat.lt_of_lt_of_le h (Nat.pow_le_pow_right (by decide) l)
theorem Sm.mul {a b : Nat} {x y : Int} (h : Sm a x) (k : Sm b y) : Sm (a + b) (x * y) := wide_lt h k
theorem Sm.add {a b : Nat} {x y : Int} (h : Sm a x) (k : Sm b y) : Sm (a + b + 1) (x + y) := by
  have h1 := Sm.mono h (Nat.le_add_right a b)
  have h2 := Sm.mono k (Nat.le_add_left b a)
  unfold Sm at *
  rw [Nat.pow_succ]
  omega
theorem Sm.sub {a b : Nat} {x y : Int} (h : Sm a x) (k : Sm b y) : Sm (a + b + 1) (x - y) := by
  have h1 := Sm.mono h (Nat.le_add_right a b)
  have h2 := Sm.mono k (Nat.le_add_left b a)
  unfold Sm at *
  rw [Nat.pow_succ]
  omega
theorem Sm.neg {a : Nat} {x : Int} (h : Sm a x) : Sm a (-x) := by
  unfold Sm at *
  omega
theorem Sm.le {a : Nat} {x y : Int} (h : Sm a x) (l : y.natAbs ≤ x.natAbs) : Sm a y := Nat.lt_of_le_of_lt l h
theorem Sm.mulok {a b : Nat} {x y : Int} (h : Sm a x) (k : Sm b y) (ha : a ≤ 400000) (hb : b ≤ 400000) : CMulW x y := by
  refine wide_mul (a := a + 1) (b := b + 1) (Sm.mono h (Nat.le_succ a)) (Sm.mono k (Nat.le_succ b)) (Nat.succ_pos _) (Nat.succ_pos _) (by omega)
def CDivZ (_ j : Int) : Prop := j ≠ 0 ∧ Sm 8000 j
theorem op_fdivZ {X : Cx} : OpR X (binaryOp .FloorDiv) (rI CDivZ fun i j => .int (i.fdiv j)) := opI fun i j _ _ _ _ _ hc q => by
  have h : j.natAbs.log2 < 9000 := Nat.lt_of_lt_of_le (PySem.Flt.log2_lt_of (by decide) hc.2) (by decide)
  exact floordiv_int hc.1 q (.inl (PyProof.noPylong_of_log2 h))
/-! ### fractions -/
theorem gcd_turn {x y : Int} (hx : 0 ≤ x) (hy : 0 < y) : Int.gcd y (x % y) = Int.gcd x y := by
  obtain ⟨m, rfl⟩ := Int.eq_ofNat_of_zero_le hx
  obtain ⟨n, rfl⟩ := Int.eq_ofNat_of_zero_le (Int.le_of_lt hy)
  show Nat.gcd _ _ = Nat.gcd _ _
  rw [← Int.natCast_emod]
  simp only [Int.natAbs_natCast]
  rw [Nat.gcd_comm m n, Nat.gcd_rec n m, Nat.gcd_comm]
theorem gcd_abs (x y : Int) : Int.gcd (if x < 0 then -x else x) (if y < 0 then -y else y) = Int.gcd x y := by
  split <;> split <;> simp [Int.gcd]
theorem gcd_pos {t b : Int} (h : b ≠ 0) : (0 : Int) < (Int.gcd t b : Nat) := by
  have := Int.gcd_pos_of_ne_zero_right t h
  omega
/-- the divisor with the bottom's sign -/
def dvs (t b : Int) : Int := if b < 0 then -((Int.gcd t b : Nat) : Int) else ((Int.gcd t b : Nat) : Int)
theorem frac_num {t b : Int} (h : b ≠ 0) : t.fdiv (dvs t b) = (Rat.divInt t b).num := by
  have g0 := gcd_pos (t := t) h
  have gt : ((Int.gcd t b : Nat) : Int) ∣ t := Int.gcd_dvd_left t b
  rw [Rat.num_divInt, Int.gcd_comm b t]
  unfold dvs
  by_cases hb : b < 0
  · rw [if_pos hb, Int.sign_eq_neg_one_of_neg hb, Int.fdiv_neg (by omega), if_pos gt, Int.fdiv_eq_ediv_of_dvd gt]
    rw [Int.neg_mul, Int.one_mul, Int.neg_ediv_of_dvd gt]
  · rw [if_neg hb, Int.sign_eq_one_of_pos (by omega), Int.one_mul, Int.fdiv_eq_ediv_of_dvd gt]
theorem frac_den {t b : Int} (h : b ≠ 0) : b.fdiv (dvs t b) = ((Rat.divInt t b).den : Int) := by
  have g0 := gcd_pos (t := t) h
  have gb : ((Int.gcd t b : Nat) : Int) ∣ b := Int.gcd_dvd_right t b
  rw [Rat.den_divInt, if_neg h, Int.gcd_comm b t, Int.natCast_ediv]
  unfold dvs
  by_cases hb : b < 0
  · rw [if_pos hb, Int.fdiv_neg (by omega), if_pos gb, Int.fdiv_eq_ediv_of_dvd gb]
    rw [show ((b.natAbs : Nat) : Int) = -b by omega, Int.neg_ediv_of_dvd gb]
  · rw [if_neg hb, Int.fdiv_eq_ediv_of_dvd gb]
    rw [show ((b.natAbs : Nat) : Int) = b by omega]
theorem dvs_ne {t b : Int} (h : b ≠ 0) : dvs t b ≠ 0 := by
  have g0 := gcd_pos (t := t) h
  unfold dvs
  split <;> omega
theorem dvs_sm {t b : Int} {n : Nat} (h : b ≠ 0) (s : Sm n b) : Sm n (dvs t b) := by
  refine s.le ?_
  have hd : Int.gcd t b ∣ b.natAbs := Int.gcd_dvd_natAbs_right t b
  have hl := Nat.le_of_dvd (by omega) hd
  unfold dvs
  split <;> omega
theorem num_sm {t b : Int} {n : Nat} (h : b ≠ 0) (s : Sm n t) : Sm n (Rat.divInt t b).num := by
  refine s.le ?_
  have g0 : 0 < Int.gcd t b := Int.gcd_pos_of_ne_zero_right t h
  have gt : ((Int.gcd t b : Nat) : Int) ∣ t := Int.gcd_dvd_left t b
  rw [← frac_num h]
  have e : t.fdiv (dvs t b) * dvs t b = t := by
    rw [Int.mul_comm]
    refine Int.mul_fdiv_cancel_of_dvd ?_
    unfold dvs
    split
    · exact Int.neg_dvd.mpr gt
    · exact gt
  have e2 : t.natAbs = (t.fdiv (dvs t b)).natAbs * (dvs t b).natAbs := by
    rw [← Int.natAbs_mul, e]
  rw [e2]
  have : 0 < (dvs t b).natAbs := by
    have := dvs_ne (t := t) h
    omega
  exact Nat.le_mul_of_pos_right _ this
theorem den_sm {t b : Int} {n : Nat} (h : b ≠ 0) (s : Sm n b) : Sm n ((Rat.divInt t b).den : Int) := by
  refine s.le ?_
  rw [Rat.den_divInt, if_neg h]
  exact Nat.div_le_self _ _
/-- a fraction as it stands in a tuple -/
def pr (q : Rat) : List V := [.int q.num, .int (q.den : Int)]
theorem pr_ints (q : Rat) : pr q = [q.num, (q.den : Int)].map V.int := rfl
theorem den_pos (q : Rat) : (0 : Int) < (q.den : Int) := by
  have := q.den_nz
  omega
theorem num_gcd (q : Rat) : Int.gcd q.num (q.den : Int) = 1 := by
  have := q.reduced
  show Nat.gcd _ _ = 1
  simpa using this
theorem rat_inj {p q : Rat} : ([p.num, (p.den : Int)] = [q.num, (q.den : Int)]) ↔ p = q := by
  constructor
  · intro h
    simp only [List.cons.injEq, and_true] at h
    obtain ⟨h1, h2⟩ := h
    exact Rat.ext h1 (by omega)
  · rintro rfl
    rfl
theorem divInt_self (q : Rat) : Rat.divInt q.num (q.den : Int) = q := Rat.num_divInt_den q
theorem divInt_cross {t b : Int} (h : b ≠ 0) : (Rat.divInt t b).num * b = t * ((Rat.divInt t b).den : Int) := by
  have e : Rat.divInt (Rat.divInt t b).num ((Rat.divInt t b).den : Int) = Rat.divInt t b := divInt_self _
  exact (Rat.divInt_eq_divInt_iff (by have := den_pos (Rat.divInt t b); omega) h).mp e
theorem log_small {n : Int} (h0 : 0 ≤ n) (h1 : n < 1000) : n.natAbs.log2 < 1920 := by
  have h : n.natAbs < 2 ^ 10 := by omega
  exact Nat.lt_of_lt_of_le (PySem.Flt.log2_lt_of (by decide) h) (by decide)
theorem den_ne (a : Rat) : (a.den : Int) ≠ 0 := by
  have := den_pos a
  omega
theorem add_is (a b : Rat) : Rat.divInt (a.num * (b.den : Int) + b.num * (a.den : Int)) ((a.den : Int) * (b.den : Int)) = a + b := by
  rw [← Rat.divInt_add_divInt _ _ (den_ne a) (den_ne b), divInt_self, divInt_self]
theorem sub_is (a b : Rat) : Rat.divInt (a.num * (b.den : Int) - b.num * (a.den : Int)) ((a.den : Int) * (b.den : Int)) = a - b := by
  rw [← Rat.divInt_sub_divInt _ _ (den_ne a) (den_ne b), divInt_self, divInt_self]
theorem mul_is (a b : Rat) : Rat.divInt (a.num * b.num) ((a.den : Int) * (b.den : Int)) = a * b := by
  rw [← Rat.divInt_mul_divInt, divInt_self, divInt_self]
theorem mul_ne {a b : Int} (h : a ≠ 0) (k : b ≠ 0) : a * b ≠ 0 := Int.mul_ne_zero h k
/-! ### sums and products shortened crosswise -/
theorem mul_num (a b : Rat) : a.num.fdiv ((a.num.natAbs.gcd b.den : Nat) : Int) * b.num.fdiv ((b.num.natAbs.gcd a.den : Nat) : Int) = (a * b).num := by
  have e : (a * b).num = a.num / ((a.num.natAbs.gcd b.den : Nat) : Int) * (b.num / ((b.num.natAbs.gcd a.den : Nat) : Int)) := by
    show (Rat.mul a b).num = _
    unfold Rat.mul
    simp only [Int.divExact_eq_ediv]
  rw [e, Int.fdiv_eq_ediv_of_nonneg _ (Int.natCast_nonneg _), Int.fdiv_eq_ediv_of_nonneg _ (Int.natCast_nonneg _)]
theorem mul_den (a b : Rat) : (a.den : Int).fdiv ((b.num.natAbs.gcd a.den : Nat) : Int) * (b.den : Int).fdiv ((a.num.natAbs.gcd b.den : Nat) : Int) = ((a * b).den : Int) := by
  have e : (a * b).den = a.den / (b.num.natAbs.gcd a.den) * (b.den / (a.num.natAbs.gcd b.den)) := by
    show (Rat.mul a b).den = _
    unfold Rat.mul
    simp only [Nat.divExact_eq_div]
  rw [e, Int.fdiv_eq_ediv_of_nonneg _ (Int.natCast_nonneg _), Int.fdiv_eq_ediv_of_nonneg _ (Int.natCast_nonneg _)]
  rw [Int.natCast_mul, Int.natCast_ediv, Int.natCast_ediv]
/-- the sum's top before it is shortened -/
def sumTop (a c : Rat) : Int := a.num * ((c.den / a.den.gcd c.den : Nat) : Int) + c.num * ((a.den / a.den.gcd c.den : Nat) : Int)
def sumRest (a c : Rat) : Nat := (sumTop a c).natAbs.gcd (a.den.gcd c.den)
theorem sum_facts (a c : Rat) : (sumTop a c).fdiv (sumRest a c : Int) = (a + c).num ∧ ((c.den / a.den.gcd c.den : Nat) : Int) * ((a.den / sumRest a c : Nat) : Int) = ((a + c).den : Int) := by
  have d0 : 0 < a.den.gcd c.den := Nat.gcd_pos_of_pos_left _ a.den_pos
  have aux := Rat.add.aux a c (g := a.den.gcd c.den) rfl rfl rfl
  obtain ⟨x, hx⟩ := Nat.gcd_dvd_left a.den c.den
  obtain ⟨y, hy⟩ := Nat.gcd_dvd_right a.den c.den
  have ex : a.den / a.den.gcd c.den = x := by conv => lhs; lhs; rw [hx]
                                              exact Nat.mul_div_cancel_left _ d0
  have ey : c.den / a.den.gcd c.den = y := by conv => lhs; lhs; rw [hy]
                                              exact Nat.mul_div_cancel_left _ d0
  have er : sumRest a c = (sumTop a c).natAbs.gcd (x * c.den) := by
    unfold sumRest
    rw [← ex]
    exact aux
  have hz : (x * c.den : Nat) ≠ 0 := by
    have h1 := a.den_pos
    have h2 := c.den_pos
    intro z
    rcases Nat.mul_eq_zero.mp z with z | z
    · rw [z, Nat.mul_zero] at hx; omega
    · omega
  have hv : Rat.divInt (sumTop a c) ((x * c.den : Nat) : Int) = a + c := by
    rw [← add_is a c]
    have d1 : ((a.den.gcd c.den : Nat) : Int) ≠ 0 := by omega
    rw [← Rat.divInt_mul_right d1]
    have hx' : (a.den : Int) = ((a.den.gcd c.den : Nat) : Int) * (x : Int) := by exact_mod_cast hx
    have hy' : (c.den : Int) = ((a.den.gcd c.den : Nat) : Int) * (y : Int) := by exact_mod_cast hy
    have e1 : sumTop a c * ((a.den.gcd c.den : Nat) : Int) = a.num * (c.den : Int) + c.num * (a.den : Int) := by
      unfold sumTop
      rw [ex, ey]
      generalize ((a.den.gcd c.den : Nat) : Int) = g at hx' hy'
      rw [hx', hy']
      grind
    have e2 : ((x * c.den : Nat) : Int) * ((a.den.gcd c.den : Nat) : Int) = (a.den : Int) * (c.den : Int) := by
      rw [Int.natCast_mul]
      generalize ((a.den.gcd c.den : Nat) : Int) = g at hx' hy'
      rw [hx']
      grind
    rw [e1, e2]
  have hzi : ((x * c.den : Nat) : Int) ≠ 0 := by omega
  have ed : dvs (sumTop a c) ((x * c.den : Nat) : Int) = (sumRest a c : Int) := by
    unfold dvs
    rw [if_neg (by omega), er]; rfl
  have n1 := frac_num (t := sumTop a c) hzi
  have n2 := frac_den (t := sumTop a c) hzi
  rw [hv, ed] at n1 n2
  refine ⟨n1, ?_⟩
  rw [← n2, Int.fdiv_eq_ediv_of_nonneg _ (Int.natCast_nonneg _), ← Int.natCast_ediv, ← Int.natCast_mul, ey]
  congr 1
  obtain ⟨z, hz2⟩ : sumRest a c ∣ a.den.gcd c.den := Nat.gcd_dvd_right _ _
  have r0 : 0 < sumRest a c := Nat.gcd_pos_of_pos_right _ d0
  have e3 : a.den / sumRest a c = z * x := by
    conv => lhs; lhs; rw [hx, hz2, Nat.mul_assoc]
    exact Nat.mul_div_cancel_left _ r0
  have e4 : x * c.den / sumRest a c = x * z * y := by
    have : x * c.den = sumRest a c * (x * z * y) := by
      conv => lhs; rw [hy, hz2]
      simp only [Nat.mul_assoc, Nat.mul_comm, Nat.mul_left_comm]
    rw [this]
    exact Nat.mul_div_cancel_left _ r0
  rw [e3, e4]
  simp only [Nat.mul_assoc, Nat.mul_comm, Nat.mul_left_comm]
theorem inv_pos {b : Rat} (h : 0 < b.num) : (b⁻¹).num = (b.den : Int) ∧ ((b⁻¹).den : Int) = b.num := by
  show (Rat.inv b).num = _ ∧ ((Rat.inv b).den : Int) = _
  unfold Rat.inv
  rw [dif_neg (by omega), dif_pos h]
  exact ⟨rfl, by show ((b.num.natAbs : Nat) : Int) = b.num; omega⟩
theorem inv_neg {b : Rat} (h : b.num < 0) : (b⁻¹).num = -(b.den : Int) ∧ ((b⁻¹).den : Int) = -b.num := by
  show (Rat.inv b).num = _ ∧ ((Rat.inv b).den : Int) = _
  unfold Rat.inv
  rw [dif_pos h]
  exact ⟨rfl, by show ((b.num.natAbs : Nat) : Int) = -b.num; omega⟩
theorem fdiv_nat (m n : Nat) : (m : Int).fdiv (n : Int) = ((m / n : Nat) : Int) := by
  rw [Int.fdiv_eq_ediv_of_nonneg _ (Int.natCast_nonneg _), ← Int.natCast_ediv]
theorem gcd_absN (x : Int) (n : Nat) : Int.gcd (if x < 0 then -x else x) (n : Int) = x.natAbs.gcd n := by
  split <;> simp [Int.gcd]
def spSummed : Sp := fun vs H Q _ => ∃ (p : Addr) (a c : Rat), vs = [.ref p, .int c.num, .int (c.den : Int)] ∧ H p = some (.tup (pr a)) ∧ Sm 1900 a.num ∧ Sm 1900 (a.den : Int) ∧ Sm 1900 c.num ∧ Sm 1900 (c.den : Int) ∧ ∀ n, H n = none → Q (.ref n) (upd H n (.tup (pr (a + c))))
theorem Sm.div {n m k : Nat} (h : Sm n (m : Int)) : Sm n ((m / k : Nat) : Int) := h.le (show m / k ≤ m from Nat.div_le_self m k)
theorem Sm.ediv {n k : Nat} {x : Int} (h : Sm n x) : Sm n (x / (k : Int)) := h.le (Int.natAbs_ediv_le_natAbs x k)
theorem Sm.fdiv {n k : Nat} {x : Int} (h : Sm n x) : Sm n (x.fdiv (k : Int)) := by
  rw [Int.fdiv_eq_ediv_of_nonneg _ (Int.natCast_nonneg _)]
  exact Sm.ediv h
section
variable {P : Program} {w : World} {K : PySem.W.Frag} {mg : Str → Option Value} {base : Heap}
/-! ### fractions by data -/
def fD (q : Rat) : D := .tup [.int q.num, .int (q.den : Int)]
/-- small enough to be reckoned with -/
def Sz (n : Nat) (q : Rat) : Prop := Sm n q.num ∧ Sm n (q.den : Int)
def wGcd : PW0 := fun xs cs post _ => ∃ a b : Int, xs = [.dat (.int a), .dat (.int b)] ∧ cs = [] ∧ 0 ≤ a ∧ 0 ≤ b ∧ post (.dat (.int ((Int.gcd a b : Nat) : Int))) []
theorem ok_common_divisor (T : Txt K mg) : FnOk P w K mg base CX0 1 T.a_common_divisor T.d_common_divisor ["one", "other"] (spG K wGcd) := by
  refine T.F_common_divisor.ok sc_common_divisor (fun vs H Q E h => spG_len h fun xs cs post exc ⟨a, b, e, _⟩ => by rw [e]; rfl) (fun cdv A outer s H vs Q E hr h => ⟨_, (pss_cons (ps_while PassesOwn.never (pt_cmpR op_gt (pv 1) pe_int (nomark _)) (pss_one (ps_par (i := 0) (j := 1) (by rfl) sc_common_divisor.nd rfl rfl (by decide) rfl rfl (pa_cons (pv 1) (pa_cons (pe_op op_mod (pv 0) (pv 1)) pa_nil)) (by rfl))))
      (pss_one (ps_ret (pv 0)))), enter h fun F xs cs post hE hw => ?_⟩)
  obtain ⟨a, b, rfl, rfl, a0, b0, q⟩ := hw
  walk_at "D"
  refine ws_while (fun m ρ1 => ∃ x y : Int, ρ1 = ⟨[some (.dat (.int x)), some (.dat (.int y))], []⟩ ∧ 0 ≤ x ∧ 0 ≤ y ∧ Int.gcd x y = Int.gcd a b ∧ m = y.toNat) b.toNat ⟨a, b, rfl, a0, b0, rfl, rfl⟩ ?_
  rintro m ρ1 ⟨x, y, rfl, x0, y0, e, rfl⟩
  walk_at "D"
  refine ifC (fun c => ?_) (fun c => ?_)
  · have c := of_decide_eq_true c
    walk_at "D"
    refine wr_Ii c ?_
    walk_at "D"
    have := Int.emod_lt_of_pos x c
    have := Int.emod_nonneg x (show y ≠ 0 by omega)
    exact ⟨_, by omega, y, x % y, rfl, y0, by omega, (gcd_turn x0 c).trans e, rfl⟩
  · have c := of_decide_eq_false c
    have y1 : y = 0 := by omega
    subst y1
    rw [← e] at q
    walk_at "D"
    have e2 : ((Int.gcd x 0 : Nat) : Int) = x := by
      rw [Int.gcd_zero_right]
      omega
    rw [e2] at q
    exact ⟨_, .dat _, rfl, q⟩
/-- what ends a def's body -/
theorem fin_dat {n : Nat} {post : RV → List Cell → Prop} {ρ : En} {d : D} (ng : noGone (ρ.ce.take n) = true) (q : post (.dat d) (ρ.ce.take n)) : (KS.fin n post).rt (.dat d) ρ := ⟨_, .dat d, ng, q⟩
def wSummed : PW0 := fun xs cs post _ => ∃ a c : Rat, xs = [.dat (fD a), .dat (.int c.num), .dat (.int (c.den : Int))] ∧ cs = [] ∧ Sz 4000 a ∧ Sz 4000 c ∧ post (.dat (fD (a + c))) []
theorem ok_summed (T : Txt K mg) : FnOk P w K mg base CX0 2 T.a_summed T.d_summed ["one", "top", "bottom"] (spG K wSummed) := by
  refine T.F_summed.ok sc_summed (fun vs H Q E h => spG_len h fun xs cs post exc ⟨a, b, e, _⟩ => by rw [e]; rfl) (fun cdv A outer s H vs Q E hr h => ⟨_, (pss_cons (ps_set (i := 3) sc_summed.nd rfl (Or.inl rfl) (pe_call (ok_common_divisor T) (hr.mono (by decide)) (by rfl) T.g_common_divisor T.F_common_divisor.kp T.b_common_divisor .nil pass0 (pa_cons (pe_ix ix_tup (pv 0) pe_int (fun _ _ => rfl)) (pa_cons (pv 2) pa_nil))))
      (pss_cons (ps_set (i := 4) sc_summed.nd rfl (Or.inl rfl) (pe_op op_fdivZ (pv 2) (pv 3)))
      (pss_cons (ps_set (i := 5) sc_summed.nd rfl (Or.inl rfl) (pe_op op_add (pe_op op_mulW (pe_ix ix_tup (pv 0) pe_int (fun _ _ => rfl)) (pv 4)) (pe_op op_mulW (pv 1) (pe_op op_fdivZ (pe_ix ix_tup (pv 0) pe_int (fun _ _ => rfl)) (pv 3)))))
      (pss_cons (ps_set (i := 6) sc_summed.nd rfl (Or.inl rfl) (pe_call (ok_common_divisor T) (hr.mono (by decide)) (by rfl) T.g_common_divisor T.F_common_divisor.kp T.b_common_divisor .nil pass0 (pa_cons (pe_callB call_abs (by rfl) T.m_abs (by decide +kernel) (pa_cons (pv 5) pa_nil)) (pa_cons (pv 3) pa_nil))))
      (pss_one (ps_ret (pe_tup (pa_cons (pe_op op_fdivZ (pv 5) (pv 6)) (pa_cons (pe_op op_mulW (pv 4) (pe_op op_fdivZ (pe_ix ix_tup (pv 0) pe_int (fun _ _ => rfl)) (pv 6))) pa_nil))))))))), enter h fun F xs cs post hE hw => ?_⟩)
  obtain ⟨a, c, rfl, rfl, ⟨s1, s2⟩, ⟨s3, s4⟩, q⟩ := hw
  have hf := sum_facts a c
  have d0 : 0 < a.den.gcd c.den := Nat.gcd_pos_of_pos_left _ a.den_pos
  have dz : ((a.den.gcd c.den : Nat) : Int) ≠ 0 := by omega
  have r0 : 0 < sumRest a c := Nat.gcd_pos_of_pos_right _ d0
  have rz : ((sumRest a c : Nat) : Int) ≠ 0 := by omega
  have dl := Nat.le_of_dvd a.den_pos (Nat.gcd_dvd_left a.den c.den)
  have rl : sumRest a c ≤ a.den.gcd c.den := Nat.le_of_dvd d0 (Nat.gcd_dvd_right _ _)
  have ds : Sm 4000 ((a.den.gcd c.den : Nat) : Int) := s2.le (by omega)
  have rs : Sm 4000 ((sumRest a c : Nat) : Int) := s2.le (by omega)
  have ps : Sm 4000 ((c.den / a.den.gcd c.den : Nat) : Int) := s4.div
  have qs : Sm 4000 ((a.den / a.den.gcd c.den : Nat) : Int) := s2.div
  have us : Sm 4000 ((a.den / sumRest a c : Nat) : Int) := s2.div
  walk_at "D"
  walk_at "c"
  refine ⟨_, _, rfl, rfl, by omega, by omega, rfl, ?_⟩
  rw [show Int.gcd (a.den : Int) (c.den : Int) = a.den.gcd c.den from rfl]
  walk_at "D"
  refine wr_Ii ⟨dz, ds.mono (by decide)⟩ ?_
  rw [fdiv_nat c.den (a.den.gcd c.den)]
  walk_at "D"
  refine wr_Ii (Sm.mulok s1 ps (by decide) (by decide)) ?_
  walk_at "D"
  refine wr_Ii ⟨dz, ds.mono (by decide)⟩ ?_
  rw [fdiv_nat a.den (a.den.gcd c.den)]
  walk_at "D"
  refine wr_Ii (Sm.mulok s3 qs (by decide) (by decide)) ?_
  walk_at "D"
  walk_at "c"
  refine ⟨_, _, rfl, rfl, by split <;> omega, by omega, rfl, ?_⟩
  rw [gcd_absN]
  rw [show (Int.natAbs (a.num * ((c.den / a.den.gcd c.den : Nat) : Int) + c.num * ((a.den / a.den.gcd c.den : Nat) : Int))).gcd (a.den.gcd c.den) = sumRest a c from rfl]
  walk_at "D"
  refine wr_Ii ⟨rz, rs.mono (by decide)⟩ ?_
  walk_at "D"
  refine wr_Ii ⟨rz, rs.mono (by decide)⟩ ?_
  rw [fdiv_nat a.den (sumRest a c)]
  refine wr_Ii (Sm.mulok ps us (by decide) (by decide)) ?_
  walk_at "D"
  rw [hf.2]
  rw [show (a.num * ((c.den / a.den.gcd c.den : Nat) : Int) + c.num * ((a.den / a.den.gcd c.den : Nat) : Int)).fdiv (sumRest a c : Int) = (a + c).num from hf.1]
  exact fin_dat rfl q
def wBin (f : Rat → Rat → Rat) : PW0 := fun xs cs post _ => ∃ a c : Rat, xs = [.dat (fD a), .dat (fD c)] ∧ cs = [] ∧ Sz 4000 a ∧ Sz 4000 c ∧ post (.dat (fD (f a c))) []
theorem ok_plus (T : Txt K mg) : FnOk P w K mg base CX0 3 T.a_plus T.d_plus ["one", "other"] (spG K (wBin HAdd.hAdd)) := by
  refine T.F_plus.ok sc_plus (fun vs H Q E h => spG_len h fun xs cs post exc ⟨a, b, e, _⟩ => by rw [e]; rfl) (fun cdv A outer s H vs Q E hr h => ⟨_, (pss_one (ps_ret (pe_call (ok_summed T) (hr.mono (by decide)) (by rfl) T.g_summed T.F_summed.kp T.b_summed .nil pass0 (pa_cons (pv 0) (pa_cons (pe_ix ix_tup (pv 1) pe_int (fun _ _ => rfl)) (pa_cons (pe_ix ix_tup (pv 1) pe_int (fun _ _ => rfl)) pa_nil)))))), enter h fun F xs cs post hE hw => ?_⟩)
  obtain ⟨a, c, rfl, rfl, s1, s2, q⟩ := hw
  walk_at "D"
  walk_at "c"
  refine ⟨a, c, rfl, rfl, s1, s2, rfl, fin_dat rfl q⟩
theorem ok_minus (T : Txt K mg) : FnOk P w K mg base CX0 3 T.a_minus T.d_minus ["one", "other"] (spG K (wBin HSub.hSub)) := by
  refine T.F_minus.ok sc_minus (fun vs H Q E h => spG_len h fun xs cs post exc ⟨a, b, e, _⟩ => by rw [e]; rfl) (fun cdv A outer s H vs Q E hr h => ⟨_, (pss_one (ps_ret (pe_call (ok_summed T) (hr.mono (by decide)) (by rfl) T.g_summed T.F_summed.kp T.b_summed .nil pass0 (pa_cons (pv 0) (pa_cons (pe_un un_neg (pe_ix ix_tup (pv 1) pe_int (fun _ _ => rfl))) (pa_cons (pe_ix ix_tup (pv 1) pe_int (fun _ _ => rfl)) pa_nil)))))), enter h fun F xs cs post hE hw => ?_⟩)
  obtain ⟨a, c, rfl, rfl, s1, s2, q⟩ := hw
  walk_at "D"
  walk_at "c"
  refine ⟨a, -c, by rw [Rat.neg_num, Rat.neg_den]; rfl, rfl, s1, ⟨by rw [Rat.neg_num]; exact s2.1.neg, by rw [Rat.neg_den]; exact s2.2⟩, ?_⟩
  rw [← Rat.sub_eq_add_neg]
  exact ⟨rfl, fin_dat rfl q⟩
theorem ok_times (T : Txt K mg) : FnOk P w K mg base CX0 2 T.a_times T.d_times ["one", "other"] (spG K (wBin HMul.hMul)) := by
  refine T.F_times.ok sc_times (fun vs H Q E h => spG_len h fun xs cs post exc ⟨a, b, e, _⟩ => by rw [e]; rfl) (fun cdv A outer s H vs Q E hr h => ⟨_, (pss_cons (ps_set (i := 2) sc_times.nd rfl (Or.inl rfl) (pe_call (ok_common_divisor T) (hr.mono (by decide)) (by rfl) T.g_common_divisor T.F_common_divisor.kp T.b_common_divisor .nil pass0 (pa_cons (pe_callB call_abs (by rfl) T.m_abs (by decide +kernel) (pa_cons (pe_ix ix_tup (pv 0) pe_int (fun _ _ => rfl)) pa_nil)) (pa_cons (pe_ix ix_tup (pv 1) pe_int (fun _ _ => rfl)) pa_nil))))
      (pss_cons (ps_set (i := 3) sc_times.nd rfl (Or.inl rfl) (pe_call (ok_common_divisor T) (hr.mono (by decide)) (by rfl) T.g_common_divisor T.F_common_divisor.kp T.b_common_divisor .nil pass0 (pa_cons (pe_callB call_abs (by rfl) T.m_abs (by decide +kernel) (pa_cons (pe_ix ix_tup (pv 1) pe_int (fun _ _ => rfl)) pa_nil)) (pa_cons (pe_ix ix_tup (pv 0) pe_int (fun _ _ => rfl)) pa_nil))))
      (pss_one (ps_ret (pe_tup (pa_cons (pe_op op_mulW (pe_op op_fdivZ (pe_ix ix_tup (pv 0) pe_int (fun _ _ => rfl)) (pv 2)) (pe_op op_fdivZ (pe_ix ix_tup (pv 1) pe_int (fun _ _ => rfl)) (pv 3))) (pa_cons (pe_op op_mulW (pe_op op_fdivZ (pe_ix ix_tup (pv 0) pe_int (fun _ _ => rfl)) (pv 3)) (pe_op op_fdivZ (pe_ix ix_tup (pv 1) pe_int (fun _ _ => rfl)) (pv 2))) pa_nil))))))), enter h fun F xs cs post hE hw => ?_⟩)
  obtain ⟨a, b, rfl, rfl, ⟨s1, s2⟩, ⟨s3, s4⟩, q⟩ := hw
  have l0 : 0 < a.num.natAbs.gcd b.den := Nat.gcd_pos_of_pos_right _ b.den_pos
  have r0 : 0 < b.num.natAbs.gcd a.den := Nat.gcd_pos_of_pos_right _ a.den_pos
  have ll := Nat.le_of_dvd b.den_pos (Nat.gcd_dvd_right a.num.natAbs b.den)
  have rl := Nat.le_of_dvd a.den_pos (Nat.gcd_dvd_right b.num.natAbs a.den)
  have cl : CDivZ 0 ((a.num.natAbs.gcd b.den : Nat) : Int) := ⟨by omega, (s4.le (by omega) : Sm 4000 _).mono (by decide)⟩
  have cr : CDivZ 0 ((b.num.natAbs.gcd a.den : Nat) : Int) := ⟨by omega, (s2.le (by omega) : Sm 4000 _).mono (by decide)⟩
  walk_at "D"
  walk_at "c"
  refine ⟨_, _, rfl, rfl, by split <;> omega, by omega, rfl, ?_⟩
  rw [gcd_absN]
  walk_at "D"
  walk_at "c"
  refine ⟨_, _, rfl, rfl, by split <;> omega, by omega, rfl, ?_⟩
  rw [gcd_absN]
  walk_at "D"
  refine wr_Ii cl ?_
  walk_at "D"
  refine wr_Ii cr ?_
  refine wr_Ii (Sm.mulok s1.fdiv s3.fdiv (by decide) (by decide)) ?_
  walk_at "D"
  refine wr_Ii cr ?_
  walk_at "D"
  refine wr_Ii cl ?_
  refine wr_Ii (Sm.mulok s2.fdiv s4.fdiv (by decide) (by decide)) ?_
  walk_at "D"
  rw [mul_num, mul_den]
  exact fin_dat rfl q
theorem lt_cross (a b : Rat) : (a.num * (b.den : Int) < b.num * (a.den : Int)) ↔ a < b := (Rat.lt_iff a b).symm
def wLess : PW0 := fun xs cs post _ => ∃ a c : Rat, xs = [.dat (fD a), .dat (fD c)] ∧ cs = [] ∧ Sz 40000 a ∧ Sz 40000 c ∧ post (.dat (.bl (decide (a < c)))) []
theorem ok_less (T : Txt K mg) : FnOk P w K mg base CX0 1 T.a_less T.d_less ["one", "other"] (spG K wLess) := by
  refine T.F_less.ok sc_less (fun vs H Q E h => spG_len h fun xs cs post exc ⟨a, b, e, _⟩ => by rw [e]; rfl) (fun cdv A outer s H vs Q E hr h => ⟨_, (pss_one (ps_ret (pe_cmpR op_lt (pe_op op_mulW (pe_ix ix_tup (pv 0) pe_int (fun _ _ => rfl)) (pe_ix ix_tup (pv 1) pe_int (fun _ _ => rfl))) (pe_op op_mulW (pe_ix ix_tup (pv 1) pe_int (fun _ _ => rfl)) (pe_ix ix_tup (pv 0) pe_int (fun _ _ => rfl))) (nomark _)))), enter h fun F xs cs post hE hw => ?_⟩)
  obtain ⟨a, c, rfl, rfl, s1, s2, q⟩ := hw
  walk_at "D"
  refine wr_Ii (Sm.mulok s1.1 s2.2 (by decide) (by decide)) ?_
  walk_at "D"
  refine wr_Ii (Sm.mulok s2.1 s1.2 (by decide) (by decide)) ?_
  walk_at "D"
  rw [decide_eq_decide.mpr (lt_cross a c)]
  exact fin_dat rfl q
/-! ### sizes of fractions -/
theorem Sz.mono {a b : Nat} {q : Rat} (h : Sz a q) (l : a ≤ b) : Sz b q := ⟨h.1.mono l, h.2.mono l⟩
theorem Sz.div {n m : Nat} {t b : Int} (h : b ≠ 0) (s1 : Sm n t) (s2 : Sm n b) : Sz n (Rat.divInt t b) := ⟨num_sm h s1, den_sm h s2⟩
theorem Sz.add {a b : Nat} {p q : Rat} (h : Sz a p) (k : Sz b q) : Sz (a + b + 1) (p + q) := by
  rw [← add_is p q]
  have h1 : Sm (a + b) (p.num * (q.den : Int)) := h.1.mul k.2
  have h2 : Sm (a + b) (q.num * (p.den : Int)) := by rw [Nat.add_comm]; exact k.1.mul h.2
  have h3 : Sm (a + b) ((p.den : Int) * (q.den : Int)) := h.2.mul k.2
  refine ⟨num_sm (mul_ne (den_ne p) (den_ne q)) ?_, den_sm (mul_ne (den_ne p) (den_ne q)) (h3.mono (by omega))⟩
  unfold Sm at *
  rw [Nat.pow_succ]
  omega
theorem Sz.neg {a : Nat} {p : Rat} (h : Sz a p) : Sz a (-p) := ⟨by rw [Rat.neg_num]; exact h.1.neg, by rw [Rat.neg_den]; exact h.2⟩
theorem Sz.sub {a b : Nat} {p q : Rat} (h : Sz a p) (k : Sz b q) : Sz (a + b + 1) (p - q) := by rw [Rat.sub_eq_add_neg]; exact h.add k.neg
theorem Sz.mul {a b : Nat} {p q : Rat} (h : Sz a p) (k : Sz b q) : Sz (a + b) (p * q) := by
  rw [← mul_is p q]
  exact ⟨num_sm (mul_ne (den_ne p) (den_ne q)) (h.1.mul k.1), den_sm (mul_ne (den_ne p) (den_ne q)) (h.2.mul k.2)⟩
end
/-- arguments as data -/
local macro_rules | `(tactic| walk_at "as") => `(tactic| first
  | exact AsD.nil
  | (apply AsD.dat; walk_at "as")
  | (apply AsD.cel rfl; walk_at "as")
  | fail)
local macro_rules | `(tactic| walk_at "fz") => `(tactic| first
  | exact Frz.nil
  | (apply Frz.dat; walk_at "fz")
  | (apply Frz.cel rfl; walk_at "fz")
  | (apply Frz.ins rfl; walk_at "fz")
  | fail)
local macro_rules | `(tactic| walk_at "il") => `(tactic| first
  | exact IsL.dat _
  | exact IsL.cel rfl
  | exact IsL.scr _
  | fail)
local macro_rules | `(tactic| walk_at "od") => `(tactic| first
  | exact OfD.dat _
  | exact OfD.cel rfl
  | fail)
local macro_rules | `(tactic| walk_at "on") => `(tactic| first
  | exact only_name (by simp)
  | (refine only_tup ?_; repeat first | exact onlys_nil | refine onlys_cons (by simp) ?_)
  | fail)
/-- a call: its arguments as data -/
local macro_rules | `(tactic| walk_at "c") => `(tactic| (refine' wspE ?q1 ?z9; (case q1 => walk_at "as")))
local macro_rules | `(tactic| walk_at "cx") => `(tactic| (refine' wspX ?q1 ?z9; (case q1 => walk_at "as")))
local macro_rules | `(tactic| walk_at "al") => `(tactic| first
  | exact AsL.nil
  | (apply AsL.dat; walk_at "al")
  | (apply AsL.own; walk_at "al")
  | (apply AsL.cel (Nat.ne_of_beq_eq_false rfl) rfl; walk_at "al")
  | fail)
/-- a call that is lent a cell -/
local macro_rules | `(tactic| walk_at "c1") => `(tactic| (refine' wsp1 ?q1 ?q2 ?q3 ?z9; (case q1 => rfl); (case q2 => rfl); (case q3 => rfl)))
local macro_rules | `(tactic| walk_at "c2") => `(tactic| (refine' wsp2 ?q1 ?q2 ?q3 ?z9; (case q1 => rfl); (case q2 => rfl); (case q3 => walk_at "al")))
local macro_rules | `(tactic| walk_at "cd") => `(tactic| (refine' wspD ?q1 ?q2 ?z9; (case q2 => walk_at "al"); (case q1 => rfl)))
/-- one step by data -/
local macro_rules | `(tactic| walk_at "d") => `(tactic| first
  | with_reducible refine ws_seq ?_
  | with_reducible refine ws_asg ?_
  | with_reducible refine ws_ret ?_
  | with_reducible refine ws_if ?_
  | with_reducible refine ws_drop ?_
  | with_reducible refine ws_par ?_
  | with_reducible refine ws_next ?_
  | with_reducible refine ws_retN ?_
  | with_reducible refine ws_break ?_
  | with_reducible refine ws_cont ?_
  | with_reducible refine ws_for ?_
  | ((with_reducible refine' we_var ?v1 ?z9); (case v1 => exact rfl))
  | with_reducible refine we_ci ?_
  | with_reducible refine we_cs ?_
  | with_reducible refine we_cn ?_
  | with_reducible refine we_cb ?_
  | with_reducible refine we_ct ?_
  | with_reducible refine we_op ?_
  | with_reducible refine we_un ?_
  | with_reducible refine we_tCB ?_
  | with_reducible refine wa_nil ?_
  | with_reducible refine wa_cons ?_
  | with_reducible refine we_andV ?_
  | with_reducible refine we_orV ?_
  | with_reducible refine we_notV ?_
  | with_reducible refine we_if ?_
  | with_reducible refine wt_test ?_
  | with_reducible refine wt_B ?_
  | with_reducible refine wt_and ?_
  | with_reducible refine wt_or ?_
  | with_reducible refine wt_not ?_
  | with_reducible refine wt_yes ?_
  | with_reducible refine wt_tru ?_
  | with_reducible refine we_tup ?_
  | with_reducible refine we_lst ?_
  | with_reducible refine we_call ?_
  | with_reducible refine we_callS ?_
  | with_reducible refine wo_none ?_
  | with_reducible refine wo_some ?_
  | with_reducible refine wi_rng1 ?_
  | with_reducible refine wi_rng2 ?_
  | with_reducible refine wg_name ?_
  | with_reducible refine wg_sub ?_
  | with_reducible refine wgs_nil ?_
  | with_reducible refine wgs_cons ?_
  | with_reducible refine wgs_consM ?_
  | with_reducible refine wgs_nilM ?_
  | with_reducible refine wr_I0i ?_
  | with_reducible refine wr_I0b ?_
  | with_reducible refine wr_isN ?_
  | with_reducible refine wr_notN ?_
  | with_reducible refine wr_isB ?_
  | with_reducible refine wr_isnotB ?_
  | (with_reducible refine wu_neg ?_)
  | with_reducible refine wc_abs ?_
  | ((with_reducible refine' wr_eq ?v1 ?z9); (case v1 => exact rfl))
  | ((with_reducible refine' wr_ne ?v1 ?z9); (case v1 => exact rfl))
  | ((with_reducible refine' we_lc ?v0 ?z9); (case v0 => walk_at "on"))
  | ((with_reducible refine' wm_append ?v0 ?v1 ?v2 ?z9); (case v0 => walk_at "fz"); (case v1 => exact rfl))
  | refine we_bm ?_
  | refine we_bm0 ?_
  | refine we_slL ?_
  | refine wi_list ?_
  | refine wi_tup ?_
  | ((refine' wg_tup ?v1 ?z9); (case v1 => exact rfl))
  | ((refine' wr_ixT ?v1 ?z9); (case v1 => exact rfl))
  | ((refine' wr_ixL ?v0 ?v1 ?z9); (case v0 => walk_at "il"); (case v1 => exact rfl))
  | refine wc_lenT ?_
  | ((refine' wc_lenL ?v0 ?z9); (case v0 => walk_at "il"))
  | ((refine' wc_isi ?v0 ?v1 ?z9); (case v0 => simp); (case v1 => exact rfl))
  | ((refine' wc_isiC ?v0 ?v1 ?z9); (case v0 => simp); (case v1 => exact rfl))
  | ((refine' wc_list ?v0 ?z9); (case v0 => walk_at "il"))
  | refine wc_listT ?_
  | ((refine' wc_tuple ?v0 ?z9); (case v0 => walk_at "il"))
  | (first | refine ⟨⟨_, _, rfl, rfl, rfl⟩, ?_⟩ | refine ⟨⟨_, _, rfl, rfl, fun z => by cases z⟩, ?_⟩ | fail)
  | ((with_reducible refine' frz_in ?v0 ?v1 ?z9); (case v0 => walk_at "fz"); (case v1 => exact rfl))
  | ((with_reducible refine' il_in ?v0 ?z9); (case v0 => walk_at "il"))
  | ((with_reducible refine' lc_in ?v0 ?v1 ?v2 ?z9); (case v0 => walk_at "fz"); (case v1 => exact rfl))
  | (refine ⟨_, rfl, ?_⟩)
  | (refine ⟨_, _, rfl, ?_⟩)
  | fail)
/-- steps, and ifs whose test is told -/
local macro_rules | `(tactic| walk_at "D") => `(tactic| repeat (first
  | walk_at "d"
  | refine ifT rfl ?_
  | refine ifF rfl ?_))
/-- the environment written out -/
local macro_rules | `(tactic| walk_at "nrm") => `(tactic| first | (dsimp only [En.put, En.add, En.cell, List.set_cons_zero, List.set_cons_succ, List.cons_append, List.nil_append, List.length_cons, List.length_nil, Nat.zero_add, Nat.reduceAdd]) | skip)

/-- .. with what was frozen and forgotten -/
local macro_rules | `(tactic| walk_at "nr2") => `(tactic| first | (dsimp only [En.start, En.put, En.add, En.cell, En.frz, En.frzD, En.clr, frzA_d, frzA_c, mapC, mapN, Option.map_some, Option.map_none, List.set_cons_zero, List.set_cons_succ, List.cons_append, List.nil_append, List.length_cons, List.length_nil, Nat.zero_add, Nat.reduceAdd, Nat.reduceSub, List.replicate_succ, List.replicate_zero, ↓reduceIte, Nat.reduceEqDiff, reduceCtorEq]) | skip)
section
variable {P : Program} {w : World} {K : PySem.W.Frag} {mg : Str → Option Value} {base : Heap}
/-! ### what is a number, a fraction, a moment: of any plain data -/
mutual
def pl : D → Bool
  | .tup ds => pls ds
  | .lst ds => pls ds
  | .scr _ => false
  | .obj _ _ _ => false
  | .ty _ => false
  | .cls _ => false
  | _ => true
def pls : List D → Bool
  | [] => true
  | d :: ds => pl d && pls ds
end
theorem pl_ty {d : D} (h : pl d = true) : (tyD d).isSome = true := by cases d <;> first | rfl | (simp [pl] at h)
theorem pls_cons {d : D} {ds : List D} (h : pls (d :: ds) = true) : pl d = true ∧ pls ds = true := by rw [pls, Bool.and_eq_true] at h; exact h
theorem pls_mem {ds : List D} (h : pls ds = true) : ∀ d ∈ ds, pl d = true := by
  induction ds with
  | nil => intro d m; cases m
  | cons e ds ih =>
    intro d m
    obtain ⟨a, b⟩ := pls_cons h
    rcases List.mem_cons.mp m with rfl | m
    · exact a
    · exact ih b d m
def isInt : D → Bool
  | .int _ => true
  | _ => false
def isFr : D → Bool
  | .tup [.int t, .int b] => decide (1 ≤ b) && decide (Int.gcd t b = 1)
  | _ => false
def isMo : D → Bool
  | .tup [.int t, .int b] => decide (1 ≤ b) && decide (Int.gcd t b = 1) && decide (0 ≤ t)
  | _ => false
theorem isFr_of {d : D} (h : isFr d = true) : ∃ q : Rat, d = fD q := by
  unfold isFr at h
  split at h
  · rename_i t b
    rw [Bool.and_eq_true, decide_eq_true_eq, decide_eq_true_eq] at h
    obtain ⟨h1, h2⟩ := h
    have hb : ((b.toNat : Nat) : Int) = b := by omega
    refine ⟨⟨t, b.toNat, by omega, ?_⟩, ?_⟩
    · show Nat.Coprime t.natAbs b.toNat
      unfold Nat.Coprime
      have : b.toNat = b.natAbs := by omega
      rw [this]
      exact h2
    · show D.tup [.int t, .int b] = .tup [.int t, .int ((b.toNat : Nat) : Int)]
      rw [hb]
  · cases h
theorem isFr_fD (q : Rat) : isFr (fD q) = true := by
  have h1 := den_pos q
  have h2 := num_gcd q
  show (decide (1 ≤ (q.den : Int)) && decide (Int.gcd q.num (q.den : Int) = 1)) = true
  rw [h2, decide_eq_true (by omega : 1 ≤ (q.den : Int))]
  rfl
theorem isMo_fD (q : Rat) : isMo (fD q) = decide (0 ≤ q.num) := by
  have h1 := den_pos q
  have h2 := num_gcd q
  show (decide (1 ≤ (q.den : Int)) && decide (Int.gcd q.num (q.den : Int) = 1) && decide (0 ≤ q.num)) = _
  rw [h2, decide_eq_true (by omega : 1 ≤ (q.den : Int))]
  rfl
def wNumber : PW0 := fun xs cs post _ => ∃ d, xs = [.dat d] ∧ cs = [] ∧ pl d = true ∧ post (.dat (.bl (isInt d))) []
theorem ok_is_number (T : Txt K mg) : FnOk P w K mg base CX0 1 T.a_is_number T.d_is_number ["thing"] (spG K wNumber) := by
  refine T.F_is_number.ok sc_is_number (fun vs H Q E h => spG_len h fun xs cs post exc ⟨a, e, _⟩ => by rw [e]; rfl) (fun cdv A outer s H vs Q E hr h => ⟨_, (pss_one (ps_ret (pe_and (pe_callB call_isi (by rfl) T.m_isinstance (by decide +kernel) (pa_cons (pv 0) (pa_cons (pe_bltn (v := .ty "int") (by rfl) T.m_int (by decide +kernel) rfl) pa_nil))) (pe_one (pe_not (pe_callB call_isi (by rfl) T.m_isinstance (by decide +kernel) (pa_cons (pv 0) (pa_cons (pe_bltn (v := .ty "bool") (by rfl) T.m_bool (by decide +kernel) rfl) pa_nil)))))))), enter h fun F xs cs post hE hw => ?_⟩)
  obtain ⟨d, rfl, rfl, hp, q⟩ := hw
  cases d <;> first
    | (exact Bool.noConfusion (show false = true by simpa [pl] using hp))
    | (walk_at "D"; exact fin_dat rfl q)
def wThing (f : D → Bool) : PW0 := fun xs cs post _ => ∃ d, xs = [.dat d] ∧ cs = [] ∧ pl d = true ∧ post (.dat (.bl (f d))) []
theorem ok_is_fraction (T : Txt K mg) : FnOk P w K mg base CX0 2 T.a_is_fraction T.d_is_fraction ["thing"] (spG K (wThing isFr)) := by
  refine T.F_is_fraction.ok sc_is_fraction (fun vs H Q E h => spG_len h fun xs cs post exc ⟨a, e, _⟩ => by rw [e]; rfl) (fun cdv A outer s H vs Q E hr h => ⟨_, (pss_cons (ps_if (PW.pt (pw_or (pt_not (pt_val (pe_callB call_isi (by rfl) T.m_isinstance (by decide +kernel) (pa_cons (pv 0) (pa_cons (pe_bltn (v := .ty "tuple") (by rfl) T.m_tuple (by decide +kernel) rfl) pa_nil))))) (pw_or1 (pt_cmpR op_ne (pe_callB call_len_seq (by rfl) T.m_len (by decide +kernel) (pa_cons (pv 0) pa_nil)) pe_int (nomark _))))) (pss_one (ps_ret pe_bl)) pss_nil)
      (pss_cons (ps_asg (pv 0) (pg_tup rfl (pgs_cons (pg_name (i := 1) sc_is_fraction.nd rfl (Or.inl rfl)) (pgs_cons (pg_name (i := 2) sc_is_fraction.nd rfl (Or.inl rfl)) pgs_nil))))
      (pss_cons (ps_if (PW.pt (pw_or (pt_not (pt_val (pe_call (ok_is_number T) (hr.mono (by decide)) (by rfl) T.g_is_number T.F_is_number.kp T.b_is_number .nil pass0 (pa_cons (pv 1) pa_nil)))) (pw_or (pt_not (pt_val (pe_call (ok_is_number T) (hr.mono (by decide)) (by rfl) T.g_is_number T.F_is_number.kp T.b_is_number .nil pass0 (pa_cons (pv 2) pa_nil)))) (pw_or1 (pt_cmpR op_lt (pv 2) pe_int (nomark _)))))) (pss_one (ps_ret pe_bl)) pss_nil)
      (pss_one (ps_ret (pe_cmpR op_eq (pe_call (ok_common_divisor T) (hr.mono (by decide)) (by rfl) T.g_common_divisor T.F_common_divisor.kp T.b_common_divisor .nil pass0 (pa_cons (pe_callB call_abs (by rfl) T.m_abs (by decide +kernel) (pa_cons (pv 1) pa_nil)) (pa_cons (pv 2) pa_nil))) pe_int (nomark _))))))), enter h fun F xs cs post hE hw => ?_⟩)
  obtain ⟨d, rfl, rfl, hp, q⟩ := hw
  cases d with
  | tup ds =>
    match ds, hp, q with
    | [], hp, q => walk_at "D"; exact fin_dat rfl q
    | [a], hp, q =>
      rw [show isFr (.tup [a]) = false from by cases a <;> rfl] at q
      walk_at "D"; exact fin_dat rfl q
    | a :: b :: c :: r, hp, q =>
      rw [show isFr (.tup (a :: b :: c :: r)) = false from by cases a <;> first | rfl | (cases b <;> rfl)] at q
      walk_at "D"
      exact fin_dat rfl q
    | [a, b], hp, q =>
      obtain ⟨pa, hp⟩ := pls_cons (show pls [a, b] = true by rw [pl] at hp; exact hp)
      obtain ⟨pb, _⟩ := pls_cons hp
      walk_at "D"
      walk_at "c"
      refine ⟨a, rfl, rfl, pa, rfl, ?_⟩
      cases ha : isInt a with
      | false =>
        walk_at "D"
        rw [show isFr (.tup [a, b]) = false from by cases a <;> first | rfl | cases ha] at q
        exact fin_dat rfl q
      | true =>
        obtain ⟨t, rfl⟩ : ∃ t, a = .int t := by cases a <;> first | exact ⟨_, rfl⟩ | cases ha
        walk_at "D"
        walk_at "c"
        refine ⟨b, rfl, rfl, pb, rfl, ?_⟩
        cases hb : isInt b with
        | false =>
          walk_at "D"
          rw [show isFr (.tup [.int t, b]) = false from by cases b <;> first | rfl | cases hb] at q
          exact fin_dat rfl q
        | true =>
          obtain ⟨n, rfl⟩ : ∃ t, b = .int t := by cases b <;> first | exact ⟨_, rfl⟩ | cases hb
          walk_at "D"
          have e : isFr (.tup [.int t, .int n]) = (decide (1 ≤ n) && decide (Int.gcd t n = 1)) := rfl
          refine ifC (fun c => ?_) (fun c => ?_)
          · have c := of_decide_eq_true c
            rw [e, decide_eq_false (by omega : ¬ 1 ≤ n)] at q
            walk_at "D"
            exact fin_dat rfl q
          · have c := of_decide_eq_false c
            walk_at "D"
            walk_at "c"
            refine ⟨_, _, rfl, rfl, by split <;> omega, by omega, rfl, ?_⟩
            walk_at "D"
            rw [e, decide_eq_true (by omega : 1 ≤ n)] at q
            have g : Int.gcd (if t < 0 then -t else t) n = Int.gcd t n := by split <;> simp [Int.gcd]
            rw [g]
            have e2 : eqS (.int ((Int.gcd t n : Nat) : Int)) (.int 1) = decide (Int.gcd t n = 1) := by
              simp only [eqS]
              exact decide_eq_decide.mpr ⟨fun h => by omega, fun h => by omega⟩
            rw [e2]
            exact fin_dat rfl q
  | obj => rw [pl] at hp; cases hp
  | scr => rw [pl] at hp; cases hp
  | ty => rw [pl] at hp; cases hp
  | cls => rw [pl] at hp; cases hp
  | _ => walk_at "D"; exact fin_dat rfl q
theorem ok_is_moment (T : Txt K mg) : FnOk P w K mg base CX0 3 T.a_is_moment T.d_is_moment ["thing"] (spG K (wThing isMo)) := by
  refine T.F_is_moment.ok sc_is_moment (fun vs H Q E h => spG_len h fun xs cs post exc ⟨a, e, _⟩ => by rw [e]; rfl) (fun cdv A outer s H vs Q E hr h => ⟨_, (pss_one (ps_ret (pe_and (pe_call (ok_is_fraction T) (hr.mono (by decide)) (by rfl) T.g_is_fraction T.F_is_fraction.kp T.b_is_fraction .nil pass0 (pa_cons (pv 0) pa_nil)) (pe_one (pe_cmpR op_ge (pe_ix ix_tup (pv 0) pe_int (fun _ _ => rfl)) pe_int (nomark _)))))), enter h fun F xs cs post hE hw => ?_⟩)
  obtain ⟨d, rfl, rfl, hp, q⟩ := hw
  walk_at "D"
  walk_at "c"
  refine ⟨d, rfl, rfl, hp, rfl, ?_⟩
  cases hf : isFr d with
  | false =>
    walk_at "D"
    rw [show isMo d = false from by
      unfold isFr at hf
      unfold isMo
      split at hf
      · rw [hf]; rfl
      · first | rfl | (split <;> first | rfl | (rename_i h1 _ _; exact absurd rfl (h1 _ _)))] at q
    exact fin_dat rfl q
  | true =>
    obtain ⟨r, rfl⟩ := isFr_of hf
    walk_at "D"
    rw [isMo_fD] at q
    exact fin_dat rfl q
end
/-- arguments as data -/
local macro_rules | `(tactic| walk_at "as") => `(tactic| first
  | exact AsD.nil
  | (apply AsD.dat; walk_at "as")
  | (apply AsD.cel rfl; walk_at "as")
  | fail)
local macro_rules | `(tactic| walk_at "fz") => `(tactic| first
  | exact Frz.nil
  | (apply Frz.dat; walk_at "fz")
  | (apply Frz.cel rfl; walk_at "fz")
  | (apply Frz.ins rfl; walk_at "fz")
  | fail)
local macro_rules | `(tactic| walk_at "il") => `(tactic| first
  | exact IsL.dat _
  | exact IsL.cel rfl
  | exact IsL.scr _
  | fail)
local macro_rules | `(tactic| walk_at "od") => `(tactic| first
  | exact OfD.dat _
  | exact OfD.cel rfl
  | fail)
local macro_rules | `(tactic| walk_at "on") => `(tactic| first
  | exact only_name (by simp)
  | (refine only_tup ?_; repeat first | exact onlys_nil | refine onlys_cons (by simp) ?_)
  | fail)
/-- a call: its arguments as data -/
local macro_rules | `(tactic| walk_at "c") => `(tactic| (refine' wspE ?q1 ?z9; (case q1 => walk_at "as")))
local macro_rules | `(tactic| walk_at "cx") => `(tactic| (refine' wspX ?q1 ?z9; (case q1 => walk_at "as")))
local macro_rules | `(tactic| walk_at "al") => `(tactic| first
  | exact AsL.nil
  | (apply AsL.dat; walk_at "al")
  | (apply AsL.own; walk_at "al")
  | (apply AsL.cel (Nat.ne_of_beq_eq_false rfl) rfl; walk_at "al")
  | fail)
/-- a call that is lent a cell -/
local macro_rules | `(tactic| walk_at "c1") => `(tactic| (refine' wsp1 ?q1 ?q2 ?q3 ?z9; (case q1 => rfl); (case q2 => rfl); (case q3 => rfl)))
local macro_rules | `(tactic| walk_at "c2") => `(tactic| (refine' wsp2 ?q1 ?q2 ?q3 ?z9; (case q1 => rfl); (case q2 => rfl); (case q3 => walk_at "al")))
local macro_rules | `(tactic| walk_at "cd") => `(tactic| (refine' wspD ?q1 ?q2 ?z9; (case q2 => walk_at "al"); (case q1 => rfl)))
/-- one step by data -/
local macro_rules | `(tactic| walk_at "d") => `(tactic| first
  | with_reducible refine ws_seq ?_
  | with_reducible refine ws_asg ?_
  | with_reducible refine ws_ret ?_
  | with_reducible refine ws_if ?_
  | with_reducible refine ws_drop ?_
  | with_reducible refine ws_par ?_
  | with_reducible refine ws_next ?_
  | with_reducible refine ws_retN ?_
  | with_reducible refine ws_break ?_
  | with_reducible refine ws_cont ?_
  | with_reducible refine ws_for ?_
  | ((with_reducible refine' we_var ?v1 ?z9); (case v1 => exact rfl))
  | with_reducible refine we_ci ?_
  | with_reducible refine we_cs ?_
  | with_reducible refine we_cn ?_
  | with_reducible refine we_cb ?_
  | with_reducible refine we_ct ?_
  | with_reducible refine we_op ?_
  | with_reducible refine we_un ?_
  | with_reducible refine we_tCB ?_
  | with_reducible refine wa_nil ?_
  | with_reducible refine wa_cons ?_
  | with_reducible refine we_andV ?_
  | with_reducible refine we_orV ?_
  | with_reducible refine we_notV ?_
  | with_reducible refine we_if ?_
  | with_reducible refine wt_test ?_
  | with_reducible refine wt_B ?_
  | with_reducible refine wt_and ?_
  | with_reducible refine wt_or ?_
  | with_reducible refine wt_not ?_
  | with_reducible refine wt_yes ?_
  | with_reducible refine wt_tru ?_
  | with_reducible refine we_tup ?_
  | with_reducible refine we_lst ?_
  | with_reducible refine we_call ?_
  | with_reducible refine we_callS ?_
  | with_reducible refine wo_none ?_
  | with_reducible refine wo_some ?_
  | with_reducible refine wi_rng1 ?_
  | with_reducible refine wi_rng2 ?_
  | with_reducible refine wg_name ?_
  | with_reducible refine wg_sub ?_
  | with_reducible refine wgs_nil ?_
  | with_reducible refine wgs_cons ?_
  | with_reducible refine wgs_consM ?_
  | with_reducible refine wgs_nilM ?_
  | with_reducible refine wr_I0i ?_
  | with_reducible refine wr_I0b ?_
  | with_reducible refine wr_isN ?_
  | with_reducible refine wr_notN ?_
  | with_reducible refine wr_isB ?_
  | with_reducible refine wr_isnotB ?_
  | (with_reducible refine wu_neg ?_)
  | with_reducible refine wc_abs ?_
  | ((with_reducible refine' wr_eq ?v1 ?z9); (case v1 => exact rfl))
  | ((with_reducible refine' wr_ne ?v1 ?z9); (case v1 => exact rfl))
  | ((with_reducible refine' we_lc ?v0 ?z9); (case v0 => walk_at "on"))
  | ((with_reducible refine' wm_append ?v0 ?v1 ?v2 ?z9); (case v0 => walk_at "fz"); (case v1 => exact rfl))
  | refine we_bm ?_
  | refine we_bm0 ?_
  | refine we_slL ?_
  | refine wi_list ?_
  | refine wi_tup ?_
  | ((refine' wg_tup ?v1 ?z9); (case v1 => exact rfl))
  | ((refine' wr_ixT ?v1 ?z9); (case v1 => exact rfl))
  | ((refine' wr_ixL ?v0 ?v1 ?z9); (case v0 => walk_at "il"); (case v1 => exact rfl))
  | refine wc_lenT ?_
  | ((refine' wc_lenL ?v0 ?z9); (case v0 => walk_at "il"))
  | ((refine' wc_isi ?v0 ?v1 ?z9); (case v0 => simp); (case v1 => exact rfl))
  | ((refine' wc_isiC ?v0 ?v1 ?z9); (case v0 => simp); (case v1 => exact rfl))
  | ((refine' wc_list ?v0 ?z9); (case v0 => walk_at "il"))
  | refine wc_listT ?_
  | ((refine' wc_tuple ?v0 ?z9); (case v0 => walk_at "il"))
  | (first | refine ⟨⟨_, _, rfl, rfl, rfl⟩, ?_⟩ | refine ⟨⟨_, _, rfl, rfl, fun z => by cases z⟩, ?_⟩ | fail)
  | ((with_reducible refine' frz_in ?v0 ?v1 ?z9); (case v0 => walk_at "fz"); (case v1 => exact rfl))
  | ((with_reducible refine' il_in ?v0 ?z9); (case v0 => walk_at "il"))
  | ((with_reducible refine' lc_in ?v0 ?v1 ?v2 ?z9); (case v0 => walk_at "fz"); (case v1 => exact rfl))
  | (refine ⟨_, rfl, ?_⟩)
  | (refine ⟨_, _, rfl, ?_⟩)
  | fail)
/-- steps, and ifs whose test is told -/
local macro_rules | `(tactic| walk_at "D") => `(tactic| repeat (first
  | walk_at "d"
  | refine ifT rfl ?_
  | refine ifF rfl ?_))
/-- the environment written out -/
local macro_rules | `(tactic| walk_at "nrm") => `(tactic| first | (dsimp only [En.put, En.add, En.cell, List.set_cons_zero, List.set_cons_succ, List.cons_append, List.nil_append, List.length_cons, List.length_nil, Nat.zero_add, Nat.reduceAdd]) | skip)

/-- .. with what was frozen and forgotten -/
local macro_rules | `(tactic| walk_at "nr2") => `(tactic| first | (dsimp only [En.start, En.put, En.add, En.cell, En.frz, En.frzD, En.clr, frzA_d, frzA_c, mapC, mapN, Option.map_some, Option.map_none, List.set_cons_zero, List.set_cons_succ, List.cons_append, List.nil_append, List.length_cons, List.length_nil, Nat.zero_add, Nat.reduceAdd, Nat.reduceSub, List.replicate_succ, List.replicate_zero, ↓reduceIte, Nat.reduceEqDiff, reduceCtorEq]) | skip)
section
variable {P : Program} {w : World} {K : PySem.W.Frag} {mg : Str → Option Value} {base : Heap}
/-! ### edits by data -/
structure Ed where
  span : Rat
  start : Option Rat
  rate : Rat
def oD : Option Rat → D
  | none => .non
  | some q => fD q
def eD (e : Ed) : D := .tup [fD e.span, oD e.start, fD e.rate]
def isZero : D → Bool
  | .tup [.int t, .int b] => decide (t = 0) && decide (b = 1)
  | _ => false
def isEd : D → Bool
  | .tup [s, st, r] => isMo s && !isZero s && (if isNon (.dat st) = true then isZero r else isMo st && isMo r)
  | _ => false
/-- edits as the document asks for them -/
def Ed.ok (e : Ed) : Prop := 0 < e.span ∧ (∀ q, e.start = some q → 0 ≤ q) ∧ 0 ≤ e.rate ∧ (e.start = none → e.rate = 0)
theorem hard_fD (q : Rat) : hard (fD q) = true := rfl
theorem hard_oD (q : Option Rat) : hard (oD q) = true := by cases q <;> rfl
theorem hard_eD (e : Ed) : hard (eD e) = true := by
  show (hard (fD e.span) && (hard (oD e.start) && (hard (fD e.rate) && true))) = true
  rw [hard_fD, hard_oD, hard_fD]; rfl
theorem hards_eD (es : List Ed) : hards (es.map eD) = true := by
  induction es with
  | nil => rfl
  | cons e es ih => show (hard (eD e) && hards (es.map eD)) = true; rw [hard_eD, ih]; rfl
theorem pl_fD (q : Rat) : pl (fD q) = true := rfl
theorem pl_oD (q : Option Rat) : pl (oD q) = true := by cases q <;> rfl
theorem pl_eD (e : Ed) : pl (eD e) = true := by
  show (pl (fD e.span) && (pl (oD e.start) && (pl (fD e.rate) && true))) = true
  rw [pl_fD, pl_oD, pl_fD]; rfl
theorem pls_eD (es : List Ed) : pls (es.map eD) = true := by
  induction es with
  | nil => rfl
  | cons e es ih => show (pl (eD e) && pls (es.map eD)) = true; rw [pl_eD, ih]; rfl
theorem fine_fD (q : Rat) : fine 1 (fD q) = true := rfl
theorem fine_oD (q : Option Rat) : fine 1 (oD q) = true := by cases q <;> rfl
theorem fine_eD (e : Ed) : fine 2 (eD e) = true := by
  show (fine 1 (fD e.span) && (fine 1 (oD e.start) && (fine 1 (fD e.rate) && true))) = true
  rw [fine_fD, fine_oD, fine_fD]; rfl
theorem fines_eD (es : List Ed) : fines 2 (es.map eD) = true := by
  induction es with
  | nil => rfl
  | cons e es ih => show (fine 2 (eD e) && fines 2 (es.map eD)) = true; rw [fine_eD, ih]; rfl
theorem noB_fD (q : Rat) : noB (fD q) = true := rfl
theorem noB_oD (q : Option Rat) : noB (oD q) = true := by cases q <;> rfl
theorem noB_eD (e : Ed) : noB (eD e) = true := by
  show (noB (fD e.span) && (noB (oD e.start) && (noB (fD e.rate) && true))) = true
  rw [noB_fD, noB_oD, noB_fD]; rfl
theorem noBs_eD (es : List Ed) : noBs (es.map eD) = true := by
  induction es with
  | nil => rfl
  | cons e es ih => show (noB (eD e) && noBs (es.map eD)) = true; rw [noB_eD, ih]; rfl
theorem fD_inj {p q : Rat} : fD p = fD q ↔ p = q := by
  constructor
  · intro h
    unfold fD at h
    simp only [D.tup.injEq, List.cons.injEq, D.int.injEq, and_true] at h
    exact Rat.ext h.1 (by omega)
  · rintro rfl; rfl
theorem oD_inj {p q : Option Rat} : oD p = oD q ↔ p = q := by
  cases p with
  | none => cases q with
    | none => exact ⟨fun _ => rfl, fun _ => rfl⟩
    | some q => exact ⟨(fun h => nomatch (show D.non = D.tup _ from h)), (fun h => nomatch h)⟩
  | some p => cases q with
    | none => exact ⟨(fun h => nomatch (show D.tup _ = D.non from h)), (fun h => nomatch h)⟩
    | some q => exact ⟨fun h => by rw [fD_inj.mp h], fun h => by cases h; rfl⟩
theorem eD_inj {d e : Ed} : eD d = eD e ↔ d = e := by
  constructor
  · intro h
    unfold eD at h
    simp only [D.tup.injEq, List.cons.injEq, and_true] at h
    obtain ⟨h1, h2, h3⟩ := h
    obtain ⟨a, b, c⟩ := d
    obtain ⟨a', b', c'⟩ := e
    rw [fD_inj] at h1 h3
    rw [oD_inj] at h2
    simp only at h1 h2 h3
    subst h1 h2 h3
    rfl
  · rintro rfl; rfl
theorem eDs_inj {ds es : List Ed} : ds.map eD = es.map eD ↔ ds = es := by
  constructor
  · intro h
    induction ds generalizing es with
    | nil => cases es with | nil => rfl | cons => cases h
    | cons d ds ih =>
      cases es with
      | nil => cases h
      | cons e es =>
        simp only [List.map_cons, List.cons.injEq] at h
        rw [eD_inj.mp h.1, ih h.2]
  · rintro rfl; rfl
theorem eqD_fD (p q : Rat) : eqD (fD p) (fD q) = decide (p = q) := by
  have h := (eqD_iff (fD p) (fD q) rfl rfl).trans fD_inj
  by_cases e : p = q
  · rw [decide_eq_true e]; exact h.mpr e
  · rw [decide_eq_false e]
    cases z : eqD (fD p) (fD q) with
    | false => rfl
    | true => exact absurd (h.mp z) e
theorem eqD_oD (p q : Option Rat) : eqD (oD p) (oD q) = decide (p = q) := by
  have h := (eqD_iff (oD p) (oD q) (noB_oD p) (noB_oD q)).trans oD_inj
  by_cases e : p = q
  · rw [decide_eq_true e]; exact h.mpr e
  · rw [decide_eq_false e]
    cases z : eqD (oD p) (oD q) with
    | false => rfl
    | true => exact absurd (h.mp z) e
theorem eqD_eDs (ds es : List Ed) : eqD (.lst (ds.map eD)) (.lst (es.map eD)) = true ↔ ds = es := by
  rw [eqD_iff _ _ (by rw [noB]; exact noBs_eD ds) (by rw [noB]; exact noBs_eD es), D.lst.injEq]
  exact eDs_inj
theorem isZero_fD (q : Rat) : isZero (fD q) = decide (q = 0) := by
  show (decide (q.num = 0) && decide ((q.den : Int) = 1)) = decide (q = 0)
  by_cases e : q = 0
  · subst e; rfl
  · rw [decide_eq_false e]
    by_cases z : q.num = 0
    · exact absurd (Rat.num_eq_zero.mp z) e
    · rw [decide_eq_false z]; rfl
theorem num_nonneg {q : Rat} : 0 ≤ q.num ↔ 0 ≤ q := Rat.num_nonneg
theorem isEd_eD {e : Ed} (h : e.ok) : isEd (eD e) = true := by
  obtain ⟨h1, h2, h3, h4⟩ := h
  obtain ⟨s, st, r⟩ := e
  show (isMo (fD s) && !isZero (fD s) && (if isNon (.dat (oD st)) = true then isZero (fD r) else isMo (oD st) && isMo (fD r))) = true
  simp only at h1 h2 h3 h4
  rw [isMo_fD, isZero_fD, decide_eq_false (fun z : s = 0 => by subst z; exact absurd h1 (by decide)), decide_eq_true (num_nonneg.mpr (Rat.le_of_lt h1))]
  cases st with
  | none =>
    rw [h4 rfl]
    rfl
  | some q =>
    show (true && !false && (isMo (fD q) && isMo (fD r))) = true
    rw [isMo_fD, isMo_fD, decide_eq_true (num_nonneg.mpr (h2 q rfl)), decide_eq_true (num_nonneg.mpr h3)]
    rfl
theorem isZero_fr {d : D} (h : isZero d = true) : isFr d = true := by
  unfold isZero at h
  split at h
  · rw [Bool.and_eq_true] at h
    rw [of_decide_eq_true h.1, of_decide_eq_true h.2]
    rfl
  · cases h
theorem rep_NOUGHT (T : Txt K mg) : ∀ G, Rep K G (fD 0) (.ref T.ca_NOUGHT) := fun G => by
  obtain ⟨o, n, its, h1, h2, h3, h4⟩ := T.cs_NOUGHT
  have hl := h4.length
  refine .tup (vs := [.int 0, .int 1]) (.inr ⟨o, its, n, h1, h2, h3, ?_, h4⟩) (.cons (.int 0) (.cons (.int 1) .nil))
  rw [← Array.length_toList, ← hl]
  exact sz rfl
theorem ok_is_edit (T : Txt K mg) : FnOk P w K mg base CX0 4 T.a_is_edit T.d_is_edit ["thing"] (spG K (wThing isEd)) := by
  refine T.F_is_edit.ok sc_is_edit (fun vs H Q E h => spG_len h fun xs cs post exc ⟨a, e, _⟩ => by rw [e]; rfl) (fun cdv A outer s H vs Q E hr h => ⟨_, (pss_cons (ps_if (PW.pt (pw_or (pt_not (pt_val (pe_callB call_isi (by rfl) T.m_isinstance (by decide +kernel) (pa_cons (pv 0) (pa_cons (pe_bltn (v := .ty "tuple") (by rfl) T.m_tuple (by decide +kernel) rfl) pa_nil))))) (pw_or1 (pt_cmpR op_ne (pe_callB call_len_seq (by rfl) T.m_len (by decide +kernel) (pa_cons (pv 0) pa_nil)) pe_int (nomark _))))) (pss_one (ps_ret pe_bl)) pss_nil)
      (pss_cons (ps_asg (pv 0) (pg_tup rfl (pgs_cons (pg_name (i := 1) sc_is_edit.nd rfl (Or.inl rfl)) (pgs_cons (pg_name (i := 2) sc_is_edit.nd rfl (Or.inl rfl)) (pgs_cons (pg_name (i := 3) sc_is_edit.nd rfl (Or.inl rfl)) pgs_nil)))))
      (pss_cons (ps_if (PW.pt (pw_or (pt_not (pt_val (pe_call (ok_is_moment T) (hr.mono (by decide)) (by rfl) T.g_is_moment T.F_is_moment.kp T.b_is_moment .nil pass0 (pa_cons (pv 1) pa_nil)))) (pw_or1 (pt_cmpR (op_eqD hr.units) (pv 1) (pe_glob (v := .ref T.ca_NOUGHT) (by rfl) T.g_NOUGHT rfl) (nomark _))))) (pss_one (ps_ret pe_bl)) pss_nil)
      (pss_cons (ps_if (pt_cmpR op_isN (pv 2) pe_non (nomark _)) (pss_one (ps_ret (pe_and (pe_call (ok_is_fraction T) (hr.mono (by decide)) (by rfl) T.g_is_fraction T.F_is_fraction.kp T.b_is_fraction .nil pass0 (pa_cons (pv 3) pa_nil)) (pe_one (pe_cmpR (op_eqD hr.units) (pv 3) (pe_glob (v := .ref T.ca_NOUGHT) (by rfl) T.g_NOUGHT rfl) (nomark _)))))) pss_nil)
      (pss_one (ps_ret (pe_and (pe_call (ok_is_moment T) (hr.mono (by decide)) (by rfl) T.g_is_moment T.F_is_moment.kp T.b_is_moment .nil pass0 (pa_cons (pv 2) pa_nil)) (pe_one (pe_call (ok_is_moment T) (hr.mono (by decide)) (by rfl) T.g_is_moment T.F_is_moment.kp T.b_is_moment .nil pass0 (pa_cons (pv 3) pa_nil)))))))))), enter h fun F xs cs post hE hw => ?_⟩)
  obtain ⟨d, rfl, rfl, hp, q⟩ := hw
  have hN := rep_NOUGHT T
  cases d with
  | tup ds =>
    match ds, hp, q with
    | [], hp, q => walk_at "D"; exact fin_dat rfl q
    | [a], hp, q => walk_at "D"; exact fin_dat rfl q
    | [a, b], hp, q => walk_at "D"; exact fin_dat rfl q
    | a :: b :: c :: d :: r, hp, q => walk_at "D"; exact fin_dat rfl q
    | [a, b, c], hp, q =>
      obtain ⟨pa, hp⟩ := pls_cons (show pls [a, b, c] = true by rw [pl] at hp; exact hp)
      obtain ⟨pb, hp⟩ := pls_cons hp
      obtain ⟨pc, _⟩ := pls_cons hp
      have e0 : isEd (.tup [a, b, c]) = (isMo a && !isZero a && (if isNon (.dat b) = true then isZero c else isMo b && isMo c)) := rfl
      rw [e0] at q
      walk_at "D"
      walk_at "c"
      refine ⟨a, rfl, rfl, pa, rfl, ?_⟩
      cases ha : isMo a with
      | false =>
        rw [ha] at q
        walk_at "D"
        exact fin_dat rfl q
      | true =>
        rw [ha] at q
        obtain ⟨s, rfl⟩ : ∃ s, a = fD s := isFr_of (by
          unfold isMo at ha
          split at ha
          · rw [Bool.and_eq_true] at ha; exact ha.1
          · cases ha)
        rw [isZero_fD] at q
        walk_at "D"
        refine we_cr hN ?_
        refine wr_eqD 1 (.dat _) (.dat _) rfl rfl (by decide) ?_
        rw [eqD_fD]
        cases hz : decide (s = 0) with
        | true =>
          rw [hz] at q
          walk_at "D"
          exact fin_dat rfl q
        | false =>
          rw [hz] at q
          walk_at "D"
          cases hn : isNon (.dat b) with
          | true =>
            rw [hn] at q
            walk_at "D"
            walk_at "c"
            refine ⟨c, rfl, rfl, pc, rfl, ?_⟩
            cases hc : isFr c with
            | false =>
              walk_at "D"
              rw [show isZero c = false from by
                cases z : isZero c with
                | false => rfl
                | true => rw [isZero_fr z] at hc; cases hc] at q
              exact fin_dat rfl q
            | true =>
              obtain ⟨r, rfl⟩ := isFr_of hc
              walk_at "D"
              refine we_cr hN ?_
              refine wr_eqD 1 (.dat _) (.dat _) rfl rfl (by decide) ?_
              rw [eqD_fD, ← isZero_fD]
              exact fin_dat rfl q
          | false =>
            rw [hn] at q
            walk_at "D"
            walk_at "c"
            refine ⟨b, rfl, rfl, pb, rfl, ?_⟩
            cases hb : isMo b with
            | false =>
              rw [hb] at q
              walk_at "D"
              exact fin_dat rfl q
            | true =>
              rw [hb] at q
              walk_at "D"
              walk_at "c"
              exact ⟨c, rfl, rfl, pc, rfl, fin_dat rfl q⟩
  | obj => rw [pl] at hp; cases hp
  | scr => rw [pl] at hp; cases hp
  | ty => rw [pl] at hp; cases hp
  | cls => rw [pl] at hp; cases hp
  | _ => walk_at "D"; exact fin_dat rfl q
/-- what is_edits tells -/
def isEds : D → Bool
  | .lst ds => ds.all isEd
  | _ => false
theorem ok_is_edits (T : Txt K mg) : FnOk P w K mg base CX0 5 T.a_is_edits T.d_is_edits ["thing"] (spG K (wThing isEds)) := by
  refine T.F_is_edits.ok sc_is_edits (fun vs H Q E h => spG_len h fun xs cs post exc ⟨a, e, _⟩ => by rw [e]; rfl) (fun cdv A outer s H vs Q E hr h => ⟨_, (pss_cons (ps_if (pt_not (pt_val (pe_callB call_isi (by rfl) T.m_isinstance (by decide +kernel) (pa_cons (pv 0) (pa_cons (pe_bltn (v := .ty "list") (by rfl) T.m_list (by decide +kernel) rfl) pa_nil))))) (pss_one (ps_ret pe_bl)) pss_nil)
      (pss_cons (ps_for PassesOwn.never rfl (pi_list (pv 0)) (pg_name (i := 1) sc_is_edits.nd rfl (Or.inl rfl))
        (pss_one (ps_if (pt_not (pt_val (pe_call (ok_is_edit T) (hr.mono (by decide)) (by rfl) T.g_is_edit T.F_is_edit.kp T.b_is_edit .nil pass0 (pa_cons (pv 1) pa_nil)))) (pss_one (ps_ret pe_bl)) pss_nil)))
      (pss_one (ps_ret pe_bl)))), enter h fun F xs cs post hE hw => ?_⟩)
  obtain ⟨d, rfl, rfl, hp, q⟩ := hw
  cases d with
  | lst ds =>
    have hp : pls ds = true := by rw [pl] at hp; exact hp
    walk_at "D"
    refine loop_by (fun es ρ => ∃ x, ρ = ⟨[some (.dat (.lst ds)), x], []⟩ ∧ pls es = true ∧ post (.dat (.bl (es.all isEd))) []) ⟨none, rfl, hp, q⟩ ?_ ?_
    · rintro ρ ⟨x, rfl, _, q⟩
      refine ⟨.dat _, ?_⟩
      walk_at "D"
      exact fin_dat rfl q
    · rintro e es ρ ⟨x, rfl, hp, q⟩
      obtain ⟨pe, hp⟩ := pls_cons hp
      refine ⟨.dat _, ?_⟩
      walk_at "D"
      walk_at "c"
      refine ⟨e, rfl, rfl, pe, rfl, ?_⟩
      rw [List.all_cons] at q
      cases he : isEd e with
      | false =>
        rw [he] at q
        walk_at "D"
        exact fin_dat rfl q
      | true =>
        rw [he, Bool.true_and] at q
        walk_at "D"
        exact now ⟨_, rfl, hp, q⟩
  | obj => rw [pl] at hp; cases hp
  | scr => rw [pl] at hp; cases hp
  | ty => rw [pl] at hp; cases hp
  | cls => rw [pl] at hp; cases hp
  | _ => walk_at "D"; exact fin_dat rfl q
end
/-- arguments as data -/
local macro_rules | `(tactic| walk_at "as") => `(tactic| first
  | exact AsD.nil
  | (apply AsD.dat; walk_at "as")
  | (apply AsD.cel rfl; walk_at "as")
  | fail)
local macro_rules | `(tactic| walk_at "fz") => `(tactic| first
  | exact Frz.nil
  | (apply Frz.dat; walk_at "fz")
  | (apply Frz.cel rfl; walk_at "fz")
  | (apply Frz.ins rfl; walk_at "fz")
  | fail)
local macro_rules | `(tactic| walk_at "il") => `(tactic| first
  | exact IsL.dat _
  | exact IsL.cel rfl
  | exact IsL.scr _
  | fail)
local macro_rules | `(tactic| walk_at "od") => `(tactic| first
  | exact OfD.dat _
  | exact OfD.cel rfl
  | fail)
local macro_rules | `(tactic| walk_at "on") => `(tactic| first
  | exact only_name (by simp)
  | (refine only_tup ?_; repeat first | exact onlys_nil | refine onlys_cons (by simp) ?_)
  | fail)
/-- a call: its arguments as data -/
local macro_rules | `(tactic| walk_at "c") => `(tactic| (refine' wspE ?q1 ?z9; (case q1 => walk_at "as")))
local macro_rules | `(tactic| walk_at "cx") => `(tactic| (refine' wspX ?q1 ?z9; (case q1 => walk_at "as")))
local macro_rules | `(tactic| walk_at "al") => `(tactic| first
  | exact AsL.nil
  | (apply AsL.dat; walk_at "al")
  | (apply AsL.own; walk_at "al")
  | (apply AsL.cel (Nat.ne_of_beq_eq_false rfl) rfl; walk_at "al")
  | fail)
/-- a call that is lent a cell -/
local macro_rules | `(tactic| walk_at "c1") => `(tactic| (refine' wsp1 ?q1 ?q2 ?q3 ?z9; (case q1 => rfl); (case q2 => rfl); (case q3 => rfl)))
local macro_rules | `(tactic| walk_at "c2") => `(tactic| (refine' wsp2 ?q1 ?q2 ?q3 ?z9; (case q1 => rfl); (case q2 => rfl); (case q3 => walk_at "al")))
local macro_rules | `(tactic| walk_at "cd") => `(tactic| (refine' wspD ?q1 ?q2 ?z9; (case q2 => walk_at "al"); (case q1 => rfl)))
/-- one step by data -/
local macro_rules | `(tactic| walk_at "d") => `(tactic| first
  | with_reducible refine ws_seq ?_
  | with_reducible refine ws_asg ?_
  | with_reducible refine ws_ret ?_
  | with_reducible refine ws_if ?_
  | with_reducible refine ws_drop ?_
  | with_reducible refine ws_par ?_
  | with_reducible refine ws_next ?_
  | with_reducible refine ws_retN ?_
  | with_reducible refine ws_break ?_
  | with_reducible refine ws_cont ?_
  | with_reducible refine ws_for ?_
  | ((with_reducible refine' we_var ?v1 ?z9); (case v1 => exact rfl))
  | with_reducible refine we_ci ?_
  | with_reducible refine we_cs ?_
  | with_reducible refine we_cn ?_
  | with_reducible refine we_cb ?_
  | with_reducible refine we_ct ?_
  | with_reducible refine we_op ?_
  | with_reducible refine we_un ?_
  | with_reducible refine we_tCB ?_
  | with_reducible refine wa_nil ?_
  | with_reducible refine wa_cons ?_
  | with_reducible refine we_andV ?_
  | with_reducible refine we_orV ?_
  | with_reducible refine we_notV ?_
  | with_reducible refine we_if ?_
  | with_reducible refine wt_test ?_
  | with_reducible refine wt_B ?_
  | with_reducible refine wt_and ?_
  | with_reducible refine wt_or ?_
  | with_reducible refine wt_not ?_
  | with_reducible refine wt_yes ?_
  | with_reducible refine wt_tru ?_
  | with_reducible refine we_tup ?_
  | with_reducible refine we_lst ?_
  | with_reducible refine we_call ?_
  | with_reducible refine we_callS ?_
  | with_reducible refine wo_none ?_
  | with_reducible refine wo_some ?_
  | with_reducible refine wi_rng1 ?_
  | with_reducible refine wi_rng2 ?_
  | with_reducible refine wg_name ?_
  | with_reducible refine wg_sub ?_
  | with_reducible refine wgs_nil ?_
  | with_reducible refine wgs_cons ?_
  | with_reducible refine wgs_consM ?_
  | with_reducible refine wgs_nilM ?_
  | with_reducible refine wr_I0i ?_
  | with_reducible refine wr_I0b ?_
  | with_reducible refine wr_isN ?_
  | with_reducible refine wr_notN ?_
  | with_reducible refine wr_isB ?_
  | with_reducible refine wr_isnotB ?_
  | (with_reducible refine wu_neg ?_)
  | with_reducible refine wc_abs ?_
  | ((with_reducible refine' wr_eq ?v1 ?z9); (case v1 => exact rfl))
  | ((with_reducible refine' wr_ne ?v1 ?z9); (case v1 => exact rfl))
  | ((with_reducible refine' we_lc ?v0 ?z9); (case v0 => walk_at "on"))
  | ((with_reducible refine' wm_append ?v0 ?v1 ?v2 ?z9); (case v0 => walk_at "fz"); (case v1 => exact rfl))
  | refine we_bm ?_
  | refine we_bm0 ?_
  | refine we_slL ?_
  | refine wi_list ?_
  | refine wi_tup ?_
  | ((refine' wg_tup ?v1 ?z9); (case v1 => exact rfl))
  | ((refine' wr_ixT ?v1 ?z9); (case v1 => exact rfl))
  | ((refine' wr_ixL ?v0 ?v1 ?z9); (case v0 => walk_at "il"); (case v1 => exact rfl))
  | refine wc_lenT ?_
  | ((refine' wc_lenL ?v0 ?z9); (case v0 => walk_at "il"))
  | ((refine' wc_isi ?v0 ?v1 ?z9); (case v0 => simp); (case v1 => exact rfl))
  | ((refine' wc_isiC ?v0 ?v1 ?z9); (case v0 => simp); (case v1 => exact rfl))
  | ((refine' wc_list ?v0 ?z9); (case v0 => walk_at "il"))
  | refine wc_listT ?_
  | ((refine' wc_tuple ?v0 ?z9); (case v0 => walk_at "il"))
  | (first | refine ⟨⟨_, _, rfl, rfl, rfl⟩, ?_⟩ | refine ⟨⟨_, _, rfl, rfl, fun z => by cases z⟩, ?_⟩ | fail)
  | ((with_reducible refine' frz_in ?v0 ?v1 ?z9); (case v0 => walk_at "fz"); (case v1 => exact rfl))
  | ((with_reducible refine' il_in ?v0 ?z9); (case v0 => walk_at "il"))
  | ((with_reducible refine' lc_in ?v0 ?v1 ?v2 ?z9); (case v0 => walk_at "fz"); (case v1 => exact rfl))
  | (refine ⟨_, rfl, ?_⟩)
  | (refine ⟨_, _, rfl, ?_⟩)
  | fail)
/-- steps, and ifs whose test is told -/
local macro_rules | `(tactic| walk_at "D") => `(tactic| repeat (first
  | walk_at "d"
  | refine ifT rfl ?_
  | refine ifF rfl ?_))
/-- the environment written out -/
local macro_rules | `(tactic| walk_at "nrm") => `(tactic| first | (dsimp only [En.put, En.add, En.cell, List.set_cons_zero, List.set_cons_succ, List.cons_append, List.nil_append, List.length_cons, List.length_nil, Nat.zero_add, Nat.reduceAdd]) | skip)

/-- .. with what was frozen and forgotten -/
local macro_rules | `(tactic| walk_at "nr2") => `(tactic| first | (dsimp only [En.start, En.put, En.add, En.cell, En.frz, En.frzD, En.clr, frzA_d, frzA_c, mapC, mapN, Option.map_some, Option.map_none, List.set_cons_zero, List.set_cons_succ, List.cons_append, List.nil_append, List.length_cons, List.length_nil, Nat.zero_add, Nat.reduceAdd, Nat.reduceSub, List.replicate_succ, List.replicate_zero, ↓reduceIte, Nat.reduceEqDiff, reduceCtorEq]) | skip)
section
variable {P : Program} {w : World} {K : PySem.W.Frag} {mg : Str → Option Value} {base : Heap}
/-! ### edits refused, edits that lead -/
theorem isEd_of {d : D} (h : isEd d = true) : ∃ e : Ed, e.ok ∧ d = eD e := by
  unfold isEd at h
  split at h
  · rename_i s st r
    rw [Bool.and_eq_true, Bool.and_eq_true] at h
    obtain ⟨⟨h1, h2⟩, h3⟩ := h
    have mo : ∀ {x : D}, isMo x = true → ∃ q : Rat, 0 ≤ q ∧ x = fD q := fun {x} hx => by
      obtain ⟨q, rfl⟩ := isFr_of (d := x) (by
        unfold isMo at hx
        split at hx
        · rw [Bool.and_eq_true] at hx; exact hx.1
        · cases hx)
      rw [isMo_fD] at hx
      exact ⟨q, num_nonneg.mp (of_decide_eq_true hx), rfl⟩
    obtain ⟨sp, sp0, rfl⟩ := mo h1
    rw [isZero_fD] at h2
    have sn : sp ≠ 0 := fun z => by rw [decide_eq_true z] at h2; cases h2
    have s0 : 0 < sp := Rat.lt_of_le_of_ne sp0 (fun z => sn z.symm)
    cases hn : isNon (.dat st) with
    | true =>
      have es : st = .non := by cases st <;> first | rfl | cases hn
      subst es
      rw [hn] at h3
      obtain ⟨q, rfl⟩ := isFr_of (isZero_fr (show isZero r = true from h3))
      have q0 : q = 0 := of_decide_eq_true (by rw [← isZero_fD]; exact h3)
      exact ⟨⟨sp, none, q⟩, ⟨s0, (fun _ z => nomatch z), by rw [q0]; exact Rat.le_refl, fun _ => q0⟩, rfl⟩
    | false =>
      rw [hn] at h3
      have h3 : (isMo st && isMo r) = true := h3
      rw [Bool.and_eq_true] at h3
      obtain ⟨q, q0, rfl⟩ := mo h3.1
      obtain ⟨r, r0, rfl⟩ := mo h3.2
      exact ⟨⟨sp, some q, r⟩, ⟨s0, (fun _ z => by cases z; exact q0), r0, (fun z => nomatch z)⟩, rfl⟩
  · cases h
theorem isEds_of {d : D} (h : isEds d = true) : ∃ es : List Ed, (∀ e ∈ es, e.ok) ∧ d = .lst (es.map eD) := by
  cases d with
  | lst ds =>
    have h : ds.all isEd = true := h
    have main : ∀ ds : List D, ds.all isEd = true → ∃ es : List Ed, (∀ e ∈ es, e.ok) ∧ ds = es.map eD := by
      intro ds
      induction ds with
      | nil => intro _; exact ⟨[], (fun e m => nomatch m), rfl⟩
      | cons d ds ih =>
        intro h
        rw [List.all_cons, Bool.and_eq_true] at h
        obtain ⟨e, he, rfl⟩ := isEd_of h.1
        obtain ⟨es, hes, rfl⟩ := ih h.2
        refine ⟨e :: es, fun x m => ?_, rfl⟩
        rcases List.mem_cons.mp m with rfl | m
        · exact he
        · exact hes x m
    obtain ⟨es, hes, rfl⟩ := main ds h
    exact ⟨es, hes, rfl⟩
  | _ => cases h
theorem isEds_eD {es : List Ed} (h : ∀ e ∈ es, e.ok) : isEds (.lst (es.map eD)) = true := by
  show (es.map eD).all isEd = true
  rw [List.all_eq_true]
  intro d m
  obtain ⟨e, he, rfl⟩ := List.mem_map.mp m
  exact isEd_eD (h e he)
def wNoEdits (C : Addr) : PW0 := fun xs cs post exc => ∃ ds, xs = [.dat (.tup ds)] ∧ cs = [] ∧ pls ds = true ∧ (ds.all isEds = true → post (.dat .non) []) ∧ (ds.all isEds = false → exc C)
theorem ok_refuse_no_edits (T : Txt K mg) : FnR P w K mg base (L2.CX P w) 6 T.a_refuse_no_edits (spG K fun xs cs post exc => ∃ ds, xs = ds.map .dat ∧ cs = [] ∧ ds.length ≤ 1000 ∧ wNoEdits T.c_NoEdits [.dat (.tup ds)] [] post exc) := by
  refine FnR.imp (Fun.okStar T.F_refuse_no_edits sc_refuse_no_edits (sp := spG K (wNoEdits T.c_NoEdits)) (fun kV doc pm an cdv ct rest => by cases rest <;> rfl) (fun cdv A outer s H vs Q E hr h => ⟨_, (pss_one (ps_for (passes_of rfl) rfl (pi_tup (pv 0)) (pg_name (i := 1) sc_refuse_no_edits.nd rfl (Or.inl rfl))
        (pss_one (ps_if (pt_not (pt_val (pe_call (ok_is_edits T) (hr.mono (by decide)) (by rfl) T.g_is_edits T.F_is_edits.kp T.b_is_edits .nil pass0 (pa_cons (pv 1) pa_nil)))) (pss_one (ps_raise rfl (takes_of rfl rfl rfl rfl) (pmk_own PySem.F.excBase_ValueError T.x_NoEdits T.g_NoEdits T.k_NoEdits (raises_own T.bb_NoEdits T.t_NoEdits) rfl))) pss_nil)))), enter h fun F xs cs post hE hw => ?_⟩)) (fun vs H Q E h => spG_star h)
  obtain ⟨ds, rfl, rfl, hp, q1, q2⟩ := hw
  subst hE
  walk_at "D"
  refine loop_by (fun es ρ => ∃ x, ρ = ⟨[some (.dat (.tup ds)), x], []⟩ ∧ pls es = true ∧ (es.all isEds = true → post (.dat .non) []) ∧ (es.all isEds = false → F.ex T.c_NoEdits)) ⟨none, rfl, hp, q1, q2⟩ ?_ ?_
  · rintro ρ ⟨x, rfl, _, q1, q2⟩
    exact ⟨trivial, rfl, q1 rfl⟩
  · rintro e es ρ ⟨x, rfl, hp, q1, q2⟩
    obtain ⟨pe, hp⟩ := pls_cons hp
    rw [List.all_cons] at q1 q2
    refine ⟨trivial, ?_⟩
    walk_at "D"
    walk_at "c"
    refine ⟨e, rfl, rfl, pe, rfl, ?_⟩
    cases he : isEds e with
    | false =>
      rw [he] at q2
      walk_at "D"
      exact ws_exc fun as σ H G D en => F.hE _ H (q2 rfl) en.fh
    | true =>
      rw [he, Bool.true_and] at q1 q2
      walk_at "D"
      exact now ⟨_, rfl, hp, q1, q2⟩
def wNoMoment (C : Addr) : PW0 := fun xs cs post exc => ∃ d, xs = [.dat d] ∧ cs = [] ∧ pl d = true ∧ (isMo d = true → post (.dat .non) []) ∧ (isMo d = false → exc C)
theorem ok_refuse_no_moment (T : Txt K mg) : FnOk P w K mg base (L2.CX P w) 4 T.a_refuse_no_moment T.d_refuse_no_moment ["thing"] (spG K (wNoMoment T.c_NoMoment)) := by
  refine T.F_refuse_no_moment.okX sc_refuse_no_moment (fun vs H Q E h => spG_len h fun xs cs post exc ⟨a, e, _⟩ => by rw [e]; rfl) (fun cdv A outer s H vs Q E hr h => ⟨_, (pss_one (ps_if (pt_not (pt_val (pe_call (ok_is_moment T) (hr.mono (by decide)) (by rfl) T.g_is_moment T.F_is_moment.kp T.b_is_moment .nil pass0 (pa_cons (pv 0) pa_nil)))) (pss_one (ps_raise rfl (takes_of rfl rfl rfl rfl) (pmk_own PySem.F.excBase_ValueError T.x_NoMoment T.g_NoMoment T.k_NoMoment (raises_own T.bb_NoMoment T.t_NoMoment) rfl))) pss_nil)), enter h fun F xs cs post hE hw => ?_⟩)
  obtain ⟨d, rfl, rfl, hp, q1, q2⟩ := hw
  subst hE
  walk_at "D"
  walk_at "c"
  refine ⟨d, rfl, rfl, hp, rfl, ?_⟩
  cases he : isMo d with
  | false =>
    walk_at "D"
    exact ws_exc fun as σ H G D en => F.hE _ H (q2 he) en.fh
  | true =>
    walk_at "D"
    exact ⟨rfl, q1 he⟩
/-- the moment to which edits lead -/
def ledF : List Ed → Rat → Option Rat
  | [], _ => none
  | e :: es, t => if t < e.span then e.start.map (fun s => s + e.rate * t) else ledF es (t - e.span)
/-- all that is reckoned on the way is small enough -/
def LedOk : List Ed → Rat → Prop
  | [], _ => True
  | e :: es, t => Sz 4000 t ∧ Sz 4000 e.span ∧ (t < e.span → Sz 4000 e.rate ∧ ∀ s, e.start = some s → Sz 4000 s ∧ Sz 4000 (e.rate * t)) ∧ (¬ t < e.span → LedOk es (t - e.span))
def wLed : PW0 := fun xs cs post _ => ∃ (es : List Ed) (t : Rat), xs = [.dat (.lst (es.map eD)), .dat (fD t)] ∧ cs = [] ∧ LedOk es t ∧ post (.dat (oD (ledF es t))) []
theorem ok_led (T : Txt K mg) : FnOk P w K mg base CX0 4 T.a_led T.d_led ["edits", "t"] (spG K wLed) := by
  refine T.F_led.ok sc_led (fun vs H Q E h => spG_len h fun xs cs post exc ⟨a, b, e, _⟩ => by rw [e]; rfl) (fun cdv A outer s H vs Q E hr h => ⟨_, (pss_cons (ps_set (i := 2) sc_led.nd rfl (Or.inl rfl) (pv 1))
      (pss_cons (ps_for PassesOwn.never rfl (pi_list (pv 0)) (pg_tup rfl (pgs_cons (pg_name (i := 3) sc_led.nd rfl (Or.inl rfl)) (pgs_cons (pg_name (i := 4) sc_led.nd rfl (Or.inl rfl)) (pgs_cons (pg_name (i := 5) sc_led.nd rfl (Or.inl rfl)) pgs_nil))))
        (pss_cons (ps_if (pt_val (pe_call (ok_less T) (hr.mono (by decide)) (by rfl) T.g_less T.F_less.kp T.b_less .nil pass0 (pa_cons (pv 2) (pa_cons (pv 3) pa_nil)))) (pss_one (ps_ret (pe_ifExp (pt_cmpR op_isN (pv 4) pe_non (nomark _)) pe_non (pe_call (ok_plus T) (hr.mono (by decide)) (by rfl) T.g_plus T.F_plus.kp T.b_plus .nil pass0 (pa_cons (pv 4) (pa_cons (pe_call (ok_times T) (hr.mono (by decide)) (by rfl) T.g_times T.F_times.kp T.b_times .nil pass0 (pa_cons (pv 5) (pa_cons (pv 2) pa_nil))) pa_nil)))))) pss_nil)
      (pss_one (ps_set (i := 2) sc_led.nd rfl (Or.inl rfl) (pe_call (ok_minus T) (hr.mono (by decide)) (by rfl) T.g_minus T.F_minus.kp T.b_minus .nil pass0 (pa_cons (pv 2) (pa_cons (pv 3) pa_nil)))))))
      (pss_one (ps_ret pe_non)))), enter h fun F xs cs post hE hw => ?_⟩)
  obtain ⟨es0, t, rfl, rfl, ok, q⟩ := hw
  walk_at "D"
  refine loop_by (fun ds ρ => ∃ (es : List Ed) (r : Rat) (x y z : Option AV), ds = es.map eD ∧ ρ = ⟨[some (.dat (.lst (es0.map eD))), some (.dat (fD t)), some (.dat (fD r)), x, y, z], []⟩ ∧ LedOk es r ∧ post (.dat (oD (ledF es r))) []) ⟨es0, t, _, _, _, rfl, rfl, ok, q⟩ ?_ ?_
  · rintro ρ ⟨es, r, x, y, z, ee, rfl, ok, q⟩
    have : es = [] := List.map_eq_nil_iff.mp ee.symm
    subst this
    refine ⟨.dat _, ?_⟩
    walk_at "D"
    exact fin_dat rfl q
  · rintro d ds ρ ⟨es, r, x, y, z, ee, rfl, ok, q⟩
    cases es with
    | nil => cases ee
    | cons e es =>
      cases ee
      obtain ⟨s1, s2, s3, s4⟩ := ok
      refine ⟨.dat _, ?_⟩
      walk_at "D"
      walk_at "c"
      refine ⟨r, e.span, rfl, rfl, ⟨s1.1.mono (by decide), s1.2.mono (by decide)⟩, ⟨s2.1.mono (by decide), s2.2.mono (by decide)⟩, rfl, ?_⟩
      rw [ledF] at q
      by_cases c : r < e.span
      · rw [if_pos c] at q
        rw [decide_eq_true c]
        obtain ⟨s5, s6⟩ := s3 c
        cases hs : e.start with
        | none =>
          rw [hs] at q
          walk_at "D"
          exact fin_dat rfl q
        | some s =>
          rw [hs] at q
          obtain ⟨s7, s8⟩ := s6 s hs
          walk_at "D"
          walk_at "c"
          refine ⟨e.rate, r, rfl, rfl, s5, s1, rfl, ?_⟩
          walk_at "D"
          walk_at "c"
          exact ⟨s, e.rate * r, rfl, rfl, s7, s8, rfl, fin_dat rfl q⟩
      · rw [if_neg c] at q
        rw [decide_eq_false c]
        walk_at "D"
        walk_at "c"
        refine ⟨r, e.span, rfl, rfl, s1, s2, rfl, ?_⟩
        walk_at "D"
        exact now ⟨es, r - e.span, _, _, _, rfl, rfl, s4 c, q⟩
end
/-- arguments as data -/
local macro_rules | `(tactic| walk_at "as") => `(tactic| first
  | exact AsD.nil
  | (apply AsD.dat; walk_at "as")
  | (apply AsD.cel rfl; walk_at "as")
  | fail)
local macro_rules | `(tactic| walk_at "fz") => `(tactic| first
  | exact Frz.nil
  | (apply Frz.dat; walk_at "fz")
  | (apply Frz.cel rfl; walk_at "fz")
  | (apply Frz.ins rfl; walk_at "fz")
  | fail)
local macro_rules | `(tactic| walk_at "il") => `(tactic| first
  | exact IsL.dat _
  | exact IsL.cel rfl
  | exact IsL.scr _
  | fail)
local macro_rules | `(tactic| walk_at "od") => `(tactic| first
  | exact OfD.dat _
  | exact OfD.cel rfl
  | fail)
local macro_rules | `(tactic| walk_at "on") => `(tactic| first
  | exact only_name (by simp)
  | (refine only_tup ?_; repeat first | exact onlys_nil | refine onlys_cons (by simp) ?_)
  | fail)
/-- a call: its arguments as data -/
local macro_rules | `(tactic| walk_at "c") => `(tactic| (refine' wspE ?q1 ?z9; (case q1 => walk_at "as")))
local macro_rules | `(tactic| walk_at "cx") => `(tactic| (refine' wspX ?q1 ?z9; (case q1 => walk_at "as")))
local macro_rules | `(tactic| walk_at "al") => `(tactic| first
  | exact AsL.nil
  | (apply AsL.dat; walk_at "al")
  | (apply AsL.own; walk_at "al")
  | (apply AsL.cel (Nat.ne_of_beq_eq_false rfl) rfl; walk_at "al")
  | fail)
/-- a call that is lent a cell -/
local macro_rules | `(tactic| walk_at "c1") => `(tactic| (refine' wsp1 ?q1 ?q2 ?q3 ?z9; (case q1 => rfl); (case q2 => rfl); (case q3 => rfl)))
local macro_rules | `(tactic| walk_at "c2") => `(tactic| (refine' wsp2 ?q1 ?q2 ?q3 ?z9; (case q1 => rfl); (case q2 => rfl); (case q3 => walk_at "al")))
local macro_rules | `(tactic| walk_at "cd") => `(tactic| (refine' wspD ?q1 ?q2 ?z9; (case q2 => walk_at "al"); (case q1 => rfl)))
/-- one step by data -/
local macro_rules | `(tactic| walk_at "d") => `(tactic| first
  | with_reducible refine ws_seq ?_
  | with_reducible refine ws_asg ?_
  | with_reducible refine ws_ret ?_
  | with_reducible refine ws_if ?_
  | with_reducible refine ws_drop ?_
  | with_reducible refine ws_par ?_
  | with_reducible refine ws_next ?_
  | with_reducible refine ws_retN ?_
  | with_reducible refine ws_break ?_
  | with_reducible refine ws_cont ?_
  | with_reducible refine ws_for ?_
  | ((with_reducible refine' we_var ?v1 ?z9); (case v1 => exact rfl))
  | with_reducible refine we_ci ?_
  | with_reducible refine we_cs ?_
  | with_reducible refine we_cn ?_
  | with_reducible refine we_cb ?_
  | with_reducible refine we_ct ?_
  | with_reducible refine we_op ?_
  | with_reducible refine we_un ?_
  | with_reducible refine we_tCB ?_
  | with_reducible refine wa_nil ?_
  | with_reducible refine wa_cons ?_
  | with_reducible refine we_andV ?_
  | with_reducible refine we_orV ?_
  | with_reducible refine we_notV ?_
  | with_reducible refine we_if ?_
  | with_reducible refine wt_test ?_
  | with_reducible refine wt_B ?_
  | with_reducible refine wt_and ?_
  | with_reducible refine wt_or ?_
  | with_reducible refine wt_not ?_
  | with_reducible refine wt_yes ?_
  | with_reducible refine wt_tru ?_
  | with_reducible refine we_tup ?_
  | with_reducible refine we_lst ?_
  | with_reducible refine we_call ?_
  | with_reducible refine we_callS ?_
  | with_reducible refine wo_none ?_
  | with_reducible refine wo_some ?_
  | with_reducible refine wi_rng1 ?_
  | with_reducible refine wi_rng2 ?_
  | with_reducible refine wg_name ?_
  | with_reducible refine wg_sub ?_
  | with_reducible refine wgs_nil ?_
  | with_reducible refine wgs_cons ?_
  | with_reducible refine wgs_consM ?_
  | with_reducible refine wgs_nilM ?_
  | with_reducible refine wr_I0i ?_
  | with_reducible refine wr_I0b ?_
  | with_reducible refine wr_isN ?_
  | with_reducible refine wr_notN ?_
  | with_reducible refine wr_isB ?_
  | with_reducible refine wr_isnotB ?_
  | (with_reducible refine wu_neg ?_)
  | with_reducible refine wc_abs ?_
  | ((with_reducible refine' wr_eq ?v1 ?z9); (case v1 => exact rfl))
  | ((with_reducible refine' wr_ne ?v1 ?z9); (case v1 => exact rfl))
  | ((with_reducible refine' we_lc ?v0 ?z9); (case v0 => walk_at "on"))
  | ((with_reducible refine' wm_append ?v0 ?v1 ?v2 ?z9); (case v0 => walk_at "fz"); (case v1 => exact rfl))
  | refine we_bm ?_
  | refine we_bm0 ?_
  | refine we_slL ?_
  | refine wi_list ?_
  | refine wi_tup ?_
  | ((refine' wg_tup ?v1 ?z9); (case v1 => exact rfl))
  | ((refine' wr_ixT ?v1 ?z9); (case v1 => exact rfl))
  | ((refine' wr_ixL ?v0 ?v1 ?z9); (case v0 => walk_at "il"); (case v1 => exact rfl))
  | refine wc_lenT ?_
  | ((refine' wc_lenL ?v0 ?z9); (case v0 => walk_at "il"))
  | ((refine' wc_isi ?v0 ?v1 ?z9); (case v0 => simp); (case v1 => exact rfl))
  | ((refine' wc_isiC ?v0 ?v1 ?z9); (case v0 => simp); (case v1 => exact rfl))
  | ((refine' wc_list ?v0 ?z9); (case v0 => walk_at "il"))
  | refine wc_listT ?_
  | ((refine' wc_tuple ?v0 ?z9); (case v0 => walk_at "il"))
  | (first | refine ⟨⟨_, _, rfl, rfl, rfl⟩, ?_⟩ | refine ⟨⟨_, _, rfl, rfl, fun z => by cases z⟩, ?_⟩ | fail)
  | ((with_reducible refine' frz_in ?v0 ?v1 ?z9); (case v0 => walk_at "fz"); (case v1 => exact rfl))
  | ((with_reducible refine' il_in ?v0 ?z9); (case v0 => walk_at "il"))
  | ((with_reducible refine' lc_in ?v0 ?v1 ?v2 ?z9); (case v0 => walk_at "fz"); (case v1 => exact rfl))
  | (refine ⟨_, rfl, ?_⟩)
  | (refine ⟨_, _, rfl, ?_⟩)
  | fail)
/-- steps, and ifs whose test is told -/
local macro_rules | `(tactic| walk_at "D") => `(tactic| repeat (first
  | walk_at "d"
  | refine ifT rfl ?_
  | refine ifF rfl ?_))
/-- the environment written out -/
local macro_rules | `(tactic| walk_at "nrm") => `(tactic| first | (dsimp only [En.put, En.add, En.cell, List.set_cons_zero, List.set_cons_succ, List.cons_append, List.nil_append, List.length_cons, List.length_nil, Nat.zero_add, Nat.reduceAdd]) | skip)

/-- .. with what was frozen and forgotten -/
local macro_rules | `(tactic| walk_at "nr2") => `(tactic| first | (dsimp only [En.start, En.put, En.add, En.cell, En.frz, En.frzD, En.clr, frzA_d, frzA_c, mapC, mapN, Option.map_some, Option.map_none, List.set_cons_zero, List.set_cons_succ, List.cons_append, List.nil_append, List.length_cons, List.length_nil, Nat.zero_add, Nat.reduceAdd, Nat.reduceSub, List.replicate_succ, List.replicate_zero, ↓reduceIte, Nat.reduceEqDiff, reduceCtorEq]) | skip)
def sumF : List Ed → Rat → Rat
  | [], a => a
  | e :: es, a => sumF es (a + e.span)
def SumOk : List Ed → Rat → Prop
  | [], _ => True
  | e :: es, a => Sz 4000 a ∧ Sz 4000 e.span ∧ SumOk es (a + e.span)
/-! ### sums of spans, and how great numbers become -/
theorem sumF_add (es : List Ed) : ∀ a : Rat, sumF es a = a + sumF es 0 := by
  induction es with
  | nil => intro a; show a = a + 0; rw [Rat.add_zero]
  | cons e es ih =>
    intro a
    show sumF es (a + e.span) = a + sumF es (0 + e.span)
    rw [ih (a + e.span), ih (0 + e.span)]
    grind
theorem sumF_nonneg {es : List Ed} (h : ∀ e ∈ es, e.ok) : 0 ≤ sumF es 0 := by
  induction es with
  | nil => exact Rat.le_refl
  | cons e es ih =>
    show 0 ≤ sumF es (0 + e.span)
    rw [sumF_add]
    have h1 := ih fun x m => h x (List.mem_cons_of_mem _ m)
    have h2 := (h e List.mem_cons_self).1
    grind
theorem sumF_append (es fs : List Ed) : ∀ a, sumF (es ++ fs) a = sumF fs (sumF es a) := by
  induction es with
  | nil => intro a; rfl
  | cons e es ih => intro a; exact ih (a + e.span)
theorem ledF_append {es fs : List Ed} (h : ∀ e ∈ es, e.ok) : ∀ t : Rat, 0 ≤ t → ledF (es ++ fs) t = if t < sumF es 0 then ledF es t else ledF fs (t - sumF es 0) := by
  induction es with
  | nil =>
    intro t t0
    show ledF fs t = if t < 0 then none else ledF fs (t - 0)
    rw [if_neg (by grind)]
    congr 1
    grind
  | cons e es ih =>
    intro t t0
    have hs := h e List.mem_cons_self
    have hr : ∀ x ∈ es, x.ok := fun x m => h x (List.mem_cons_of_mem _ m)
    have n0 := sumF_nonneg hr
    have es1 : sumF (e :: es) 0 = e.span + sumF es 0 := by
      show sumF es (0 + e.span) = _
      rw [sumF_add]
      grind
    show (if t < e.span then e.start.map (fun s => s + e.rate * t) else ledF (es ++ fs) (t - e.span)) = if t < sumF (e :: es) 0 then (if t < e.span then e.start.map (fun s => s + e.rate * t) else ledF es (t - e.span)) else ledF fs (t - sumF (e :: es) 0)
    rw [es1]
    by_cases c : t < e.span
    · rw [if_pos c, if_pos (by grind), if_pos c]
    · rw [if_neg c, if_neg c, ih hr (t - e.span) (by grind)]
      by_cases c2 : t - e.span < sumF es 0
      · rw [if_pos c2, if_pos (by grind)]
      · rw [if_neg c2, if_neg (by grind)]
        congr 1
        grind
/-- the same edits many times over -/
theorem ledF_many {es : List Ed} (h : ∀ e ∈ es, e.ok) {r : Rat} (r0 : 0 ≤ r) (r1 : r < sumF es 0) : ∀ (n k : Nat), k < n → ledF (List.replicate n es).flatten ((k : Rat) * sumF es 0 + r) = ledF es r := by
  have n0 := sumF_nonneg h
  intro n
  induction n with
  | zero => intro k hk; omega
  | succ n ih =>
    intro k hk
    rw [List.replicate_succ, List.flatten_cons]
    have k0 : (0 : Rat) ≤ (k : Rat) * sumF es 0 := Rat.mul_nonneg Rat.natCast_nonneg n0
    rw [ledF_append h _ (by grind)]
    cases k with
    | zero =>
      have e0 : ((0 : Nat) : Rat) * sumF es 0 + r = r := by
        show (0 : Rat) * sumF es 0 + r = r
        grind
      rw [e0, if_pos r1]
    | succ k =>
      have e1 : ((k + 1 : Nat) : Rat) = (k : Rat) + 1 := Rat.natCast_add k 1
      have k1 : (0 : Rat) ≤ (k : Rat) * sumF es 0 := Rat.mul_nonneg Rat.natCast_nonneg n0
      rw [e1, if_neg (by grind)]
      have e2 : ((k : Rat) + 1) * sumF es 0 + r - sumF es 0 = (k : Rat) * sumF es 0 + r := by grind
      rw [e2]
      exact ih k (by omega)
theorem sumF_many (es : List Ed) : ∀ n : Nat, sumF (List.replicate n es).flatten 0 = (n : Rat) * sumF es 0 := by
  intro n
  induction n with
  | zero => show (0 : Rat) = (0 : Rat) * _; grind
  | succ n ih =>
    rw [List.replicate_succ, List.flatten_cons, sumF_append, sumF_add, ih]
    have e1 : ((n + 1 : Nat) : Rat) = (n : Rat) + 1 := Rat.natCast_add n 1
    rw [e1]
    grind
/-! ### tidying -/
def goesOn (l : Ed) (st : Option Rat) (r : Rat) : Bool := match st, l.start with
  | some s, some ls => decide (r = l.rate) && decide (s = ls + l.rate * l.span)
  | none, none => true
  | _, _ => false
def merge (l e : Ed) : Ed := ⟨l.span + e.span, l.start, l.rate⟩
/-- the last one first -/
def stepR : List Ed → Ed → List Ed
  | [], e => [e]
  | l :: r, e => if goesOn l e.start e.rate = true then merge l e :: r else e :: l :: r
def popB : List Ed → List Ed
  | [] => []
  | l :: r => if l.start.isNone = true then r else l :: r
def tidyF (es : List Ed) : List Ed := (popB (es.foldl stepR [])).reverse
theorem goesOn_none {l : Ed} {r : Rat} : goesOn l none r = l.start.isNone := by
  unfold goesOn
  cases l.start <;> rfl
theorem goesOn_some {l : Ed} {s r : Rat} (h : goesOn l (some s) r = true) : ∃ ls, l.start = some ls ∧ r = l.rate ∧ s = ls + l.rate * l.span := by
  unfold goesOn at h
  split at h
  · rename_i s2 ls e1 e2
    cases e1
    rw [Bool.and_eq_true, decide_eq_true_eq, decide_eq_true_eq] at h
    exact ⟨ls, e2, h.1, h.2⟩
  · rename_i e1 _; cases e1
  · cases h
theorem goesOn_of {l : Ed} {s r ls : Rat} (h1 : l.start = some ls) (h2 : r = l.rate) (h3 : s = ls + l.rate * l.span) : goesOn l (some s) r = true := by
  unfold goesOn
  rw [h1]
  simp only
  rw [decide_eq_true h2, decide_eq_true h3]; rfl
theorem merge_ok {l e : Ed} (h : l.ok) (k : e.ok) : (merge l e).ok := by
  obtain ⟨a, b, c, d⟩ := h
  have a2 := k.1
  exact ⟨by show 0 < l.span + e.span; grind, b, c, d⟩
theorem stepR_ok {acc : List Ed} {e : Ed} (h : ∀ x ∈ acc, x.ok) (k : e.ok) : ∀ x ∈ stepR acc e, x.ok := by
  intro x m
  cases acc with
  | nil => rw [stepR, List.mem_singleton] at m; subst m; exact k
  | cons l r =>
    rw [stepR] at m
    split at m
    · rcases List.mem_cons.mp m with rfl | m
      · exact merge_ok (h l List.mem_cons_self) k
      · exact h x (List.mem_cons_of_mem _ m)
    · rcases List.mem_cons.mp m with rfl | m
      · exact k
      · exact h x m
theorem led_merge {l e : Ed} (rest : List Ed) (h : goesOn l e.start e.rate = true) (lo : l.ok) (eo : e.ok) {t : Rat} (t0 : 0 ≤ t) : ledF (l :: e :: rest) t = ledF (merge l e :: rest) t := by
  have l0 := lo.1
  have e0 := eo.1
  show (if t < l.span then l.start.map (fun s => s + l.rate * t) else if t - l.span < e.span then e.start.map (fun s => s + e.rate * (t - l.span)) else ledF rest (t - l.span - e.span)) = if t < l.span + e.span then l.start.map (fun s => s + l.rate * t) else ledF rest (t - (l.span + e.span))
  by_cases c : t < l.span
  · rw [if_pos c, if_pos (by grind)]
  · rw [if_neg c]
    by_cases c2 : t - l.span < e.span
    · rw [if_pos c2, if_pos (by grind)]
      cases hs : e.start with
      | none =>
        rw [hs, goesOn_none] at h
        cases hl : l.start with
        | none => rfl
        | some => rw [hl] at h; cases h
      | some s =>
        rw [hs] at h
        obtain ⟨ls, h1, h2, h3⟩ := goesOn_some h
        rw [h1]
        show some (s + e.rate * (t - l.span)) = some (ls + l.rate * t)
        rw [h2, h3]
        congr 1
        grind
    · rw [if_neg c2, if_neg (by grind)]
      congr 1
      grind
theorem led_step {acc : List Ed} {e : Ed} (rest : List Ed) (h : ∀ x ∈ acc, x.ok) (k : e.ok) {t : Rat} (t0 : 0 ≤ t) : ledF (acc.reverse ++ e :: rest) t = ledF ((stepR acc e).reverse ++ rest) t := by
  cases acc with
  | nil => rfl
  | cons l r =>
    rw [stepR]
    split
    · rename_i g
      have hr : ∀ x ∈ r.reverse, x.ok := fun x m => h x (List.mem_cons_of_mem _ (List.mem_reverse.mp m))
      rw [List.reverse_cons, List.reverse_cons, List.append_assoc, List.append_assoc, ledF_append hr t t0, ledF_append hr t t0]
      by_cases c : t < sumF r.reverse 0
      · rw [if_pos c, if_pos c]
      · rw [if_neg c, if_neg c]
        exact led_merge rest g (h l List.mem_cons_self) k (by grind)
    · rw [List.reverse_cons (a := e), List.append_assoc]; rfl
theorem led_fold : ∀ (es acc : List Ed), (∀ x ∈ acc, x.ok) → (∀ x ∈ es, x.ok) → ∀ {t : Rat}, 0 ≤ t → ledF (acc.reverse ++ es) t = ledF (es.foldl stepR acc).reverse t
  | [], acc, _, _, t, _ => by rw [List.append_nil]; rfl
  | e :: es, acc, h, k, t, t0 => by
    rw [led_step es h (k e List.mem_cons_self) t0]
    exact led_fold es (stepR acc e) (stepR_ok h (k e List.mem_cons_self)) (fun x m => k x (List.mem_cons_of_mem _ m)) t0
theorem fold_ok : ∀ (es acc : List Ed), (∀ x ∈ acc, x.ok) → (∀ x ∈ es, x.ok) → ∀ x ∈ es.foldl stepR acc, x.ok
  | [], _, h, _ => h
  | e :: es, acc, h, k => fold_ok es _ (stepR_ok h (k e List.mem_cons_self)) fun x m => k x (List.mem_cons_of_mem _ m)
theorem popB_mem {acc : List Ed} {x : Ed} (h : x ∈ popB acc) : x ∈ acc := by
  cases acc with
  | nil => exact h
  | cons l r =>
    rw [popB] at h
    split at h
    · exact List.mem_cons_of_mem _ h
    · exact h
theorem led_pop {acc : List Ed} (h : ∀ x ∈ acc, x.ok) {t : Rat} (t0 : 0 ≤ t) : ledF (popB acc).reverse t = ledF acc.reverse t := by
  cases acc with
  | nil => rfl
  | cons l r =>
    rw [popB]
    split
    · rename_i g
      have hr : ∀ x ∈ r.reverse, x.ok := fun x m => h x (List.mem_cons_of_mem _ (List.mem_reverse.mp m))
      have e0 := ledF_append (fs := []) hr t t0
      rw [List.append_nil] at e0
      have gn : l.start = none := by cases hl : l.start with | none => rfl | some => rw [hl] at g; cases g
      have : ledF [l] (t - sumF r.reverse 0) = ledF [] (t - sumF r.reverse 0) := by
        show (if _ then l.start.map _ else none) = none
        rw [gn]
        split <;> rfl
      rw [List.reverse_cons, ledF_append hr t t0, this]
      exact e0
    · rfl
/-- a list and its tidy form lead alike -/
theorem led_tidy {es : List Ed} (h : ∀ x ∈ es, x.ok) {t : Rat} (t0 : 0 ≤ t) : ledF (tidyF es) t = ledF es t := by
  unfold tidyF
  rw [led_pop (fold_ok es [] (fun _ m => nomatch m) h) t0, ← led_fold es [] (fun _ m => nomatch m) h t0]
  rfl
theorem tidyF_ok {es : List Ed} (h : ∀ x ∈ es, x.ok) : ∀ x ∈ tidyF es, x.ok := fun x m => fold_ok es [] (fun _ m => nomatch m) h x (popB_mem (List.mem_reverse.mp m))
/-! what is tidy -/
def TidyR : List Ed → Prop
  | [] => True
  | [_] => True
  | x :: y :: r => goesOn y x.start x.rate = false ∧ TidyR (y :: r)
theorem stepR_tidy {acc : List Ed} {e : Ed} (h : TidyR acc) : TidyR (stepR acc e) := by
  cases acc with
  | nil => trivial
  | cons l r =>
    rw [stepR]
    split
    · cases r with
      | nil => trivial
      | cons y r => exact ⟨h.1, h.2⟩
    · rename_i g
      exact ⟨by cases z : goesOn l e.start e.rate with | false => rfl | true => exact absurd z g, h⟩
theorem fold_tidy : ∀ (es acc : List Ed), TidyR acc → TidyR (es.foldl stepR acc)
  | [], _, h => h
  | e :: es, _, h => fold_tidy es _ (stepR_tidy h)
theorem TidyR.tail {l : Ed} {r : List Ed} (h : TidyR (l :: r)) : TidyR r := by
  cases r with
  | nil => trivial
  | cons => exact h.2
theorem popB_tidy {acc : List Ed} (h : TidyR acc) : TidyR (popB acc) := by
  cases acc with
  | nil => trivial
  | cons l r =>
    rw [popB]
    split
    · exact h.tail
    · exact h
/-- the last one is no blank, no two go on -/
def TidyL (acc : List Ed) : Prop := TidyR acc ∧ ∀ l r, acc = l :: r → l.start.isNone = false
theorem tidyF_tidy (es : List Ed) : TidyL (tidyF es).reverse := by
  unfold tidyF
  rw [List.reverse_reverse]
  have h := fold_tidy es [] trivial
  refine ⟨popB_tidy h, fun l r e => ?_⟩
  cases hf : es.foldl stepR [] with
  | nil => rw [hf] at e; cases e
  | cons x y =>
    rw [hf, popB] at e
    split at e
    · rename_i g
      cases y with
      | nil => cases e
      | cons z y =>
        cases e
        rw [hf] at h
        have h1 := h.1
        cases hl : l.start with
        | some => rfl
        | none =>
          have gx : x.start = none := by cases hx : x.start with | none => rfl | some => rw [hx] at g; cases g
          rw [gx, goesOn_none, hl] at h1
          cases h1
    · rename_i g
      cases e
      cases hl : l.start with
      | some => rfl
      | none => rw [hl] at g; exact absurd rfl g
theorem fold_self : ∀ (es acc : List Ed), TidyR (es.reverse ++ acc) → es.foldl stepR acc = es.reverse ++ acc
  | [], _, _ => rfl
  | e :: es, acc, h => by
    rw [List.reverse_cons, List.append_assoc] at h ⊢
    have hs : stepR acc e = e :: acc := by
      have drop : ∀ (xs ys : List Ed), TidyR (xs ++ ys) → TidyR ys := by
        intro xs
        induction xs with
        | nil => intro ys z; exact z
        | cons x xs ih => intro ys z; exact ih ys z.tail
      have h1 := drop es.reverse ([e] ++ acc) h
      cases acc with
      | nil => rfl
      | cons l r =>
        rw [stepR, if_neg (by rw [h1.1]; exact Bool.false_ne_true)]
    show (es.foldl stepR (stepR acc e)) = es.reverse ++ ([e] ++ acc)
    rw [hs]
    exact fold_self es (e :: acc) h
theorem tidyF_self {es : List Ed} (h : TidyL es.reverse) : tidyF es = es := by
  unfold tidyF
  rw [fold_self es [] (by rw [List.append_nil]; exact h.1), List.append_nil]
  have : popB es.reverse = es.reverse := by
    cases hr : es.reverse with
    | nil => rfl
    | cons l r => rw [popB, if_neg (by rw [h.2 l r hr]; exact Bool.false_ne_true)]
  rw [this, List.reverse_reverse]
theorem tidyF_idem (es : List Ed) : tidyF (tidyF es) = tidyF es := tidyF_self (tidyF_tidy es)
theorem stepR_len (acc : List Ed) (e : Ed) : (stepR acc e).length ≤ acc.length + 1 := by
  cases acc with
  | nil => exact Nat.le_refl _
  | cons l r => rw [stepR]; split <;> simp only [List.length_cons] <;> omega
theorem fold_len : ∀ (es acc : List Ed), (es.foldl stepR acc).length ≤ acc.length + es.length
  | [], acc => Nat.le_refl _
  | e :: es, acc => by
    have := fold_len es (stepR acc e)
    have := stepR_len acc e
    show (es.foldl stepR (stepR acc e)).length ≤ _
    rw [List.length_cons]
    omega
theorem tidyF_len (es : List Ed) : (tidyF es).length ≤ es.length := by
  unfold tidyF
  rw [List.length_reverse]
  have h := fold_len es []
  have : (popB (es.foldl stepR [])).length ≤ (es.foldl stepR []).length := by
    cases es.foldl stepR [] with
    | nil => exact Nat.le_refl _
    | cons l r => rw [popB]; split <;> simp only [List.length_cons] <;> omega
  rw [List.length_nil] at h
  omega
/-! the same otherwise parted -/
def ahead (st : Option Rat) (r a : Rat) : Option Rat := st.map fun s => s + r * a
theorem step_split (acc : List Ed) (a b : Rat) (st : Option Rat) (r : Rat) : stepR (stepR acc ⟨a, st, r⟩) ⟨b, ahead st r a, r⟩ = stepR acc ⟨a + b, st, r⟩ := by
  have self : ∀ R : List Ed, stepR (⟨a, st, r⟩ :: R) ⟨b, ahead st r a, r⟩ = ⟨a + b, st, r⟩ :: R := fun R => by
    rw [stepR, if_pos]
    · rfl
    · cases st with
      | none => exact goesOn_none
      | some s => exact goesOn_of (ls := s) rfl rfl rfl
  cases acc with
  | nil => exact self []
  | cons l R =>
    show stepR (stepR (l :: R) ⟨a, st, r⟩) _ = stepR (l :: R) _
    rw [stepR, stepR]
    show stepR (if goesOn l st r = true then _ else _) _ = if goesOn l st r = true then _ else _
    by_cases g : goesOn l st r = true
    · rw [if_pos g, if_pos g, stepR, if_pos]
      · show (Ed.mk _ _ _ :: R) = Ed.mk _ _ _ :: R
        congr 2
        show l.span + a + b = l.span + (a + b)
        grind
      · cases st with
        | none => rw [goesOn_none] at g; exact goesOn_none.trans g
        | some s =>
          obtain ⟨ls, h1, h2, h3⟩ := goesOn_some g
          refine goesOn_of (ls := ls) h1 h2 ?_
          show s + r * a = ls + l.rate * (l.span + a)
          rw [h2, h3]
          grind
    · rw [if_neg g, if_neg g]
      exact self (l :: R)
theorem pop_blank (acc : List Ed) {b : Ed} (h : b.start = none) : popB (stepR acc b) = popB acc := by
  cases acc with
  | nil => show popB [b] = []; rw [popB, h]; rfl
  | cons l r =>
    rw [stepR, h, goesOn_none]
    cases hl : l.start with
    | none =>
      rw [if_pos (show (none : Option Rat).isNone = true from rfl), popB, popB, hl, show (merge l b).start = none from hl]
      rfl
    | some s =>
      rw [if_neg (show ¬ (some s : Option Rat).isNone = true from Bool.false_ne_true), popB, popB, h, hl, if_pos (show (none : Option Rat).isNone = true from rfl), if_neg (show ¬ (some s : Option Rat).isNone = true from Bool.false_ne_true)]
theorem pop_blanks : ∀ (bs acc : List Ed), (∀ b ∈ bs, b.start = none) → popB (bs.foldl stepR acc) = popB acc
  | [], _, _ => rfl
  | b :: bs, acc, h => by
    show popB (bs.foldl stepR (stepR acc b)) = popB acc
    rw [pop_blanks bs _ fun x m => h x (List.mem_cons_of_mem _ m), pop_blank acc (h b List.mem_cons_self)]
/-! how great they become: parts of one whole -/
structure Fit (L B : Nat) (t : Rat) : Prop where
  part : ∃ z : Int, t = Rat.divInt z (L : Int)
  lo : 0 ≤ t
  hi : t ≤ (B : Rat)
theorem fit_of {L B : Nat} {t : Rat} (l0 : 0 < L) (h : t.den ∣ L) (lo : 0 ≤ t) (hi : t ≤ (B : Rat)) : Fit L B t := by
  obtain ⟨m, rfl⟩ := h
  have m0 : m ≠ 0 := fun z => by subst z; rw [Nat.mul_zero] at l0; omega
  refine ⟨⟨t.num * (m : Int), ?_⟩, lo, hi⟩
  rw [Int.natCast_mul, Rat.divInt_mul_right (by omega)]
  exact (divInt_self t).symm
theorem Fit.sub {L B C : Nat} (l0 : 0 < L) {t s : Rat} (h : Fit L B t) (k : Fit L C s) (le : s ≤ t) : Fit L B (t - s) := by
  obtain ⟨⟨z, ez⟩, h1, h2⟩ := h
  obtain ⟨⟨y, ey⟩, k1, k2⟩ := k
  refine ⟨⟨z - y, ?_⟩, by grind, by grind⟩
  rw [ez, ey, Rat.divInt_sub_divInt _ _ (by omega) (by omega), ← Int.sub_mul, Rat.divInt_mul_right (by omega)]
theorem Fit.add {L B C : Nat} (l0 : 0 < L) {t s : Rat} (h : Fit L B t) (k : Fit L C s) : Fit L (B + C) (t + s) := by
  obtain ⟨⟨z, ez⟩, h1, h2⟩ := h
  obtain ⟨⟨y, ey⟩, k1, k2⟩ := k
  have e : ((B + C : Nat) : Rat) = (B : Rat) + (C : Rat) := Rat.natCast_add B C
  refine ⟨⟨z + y, ?_⟩, by grind, by rw [e]; grind⟩
  rw [ez, ey, Rat.divInt_add_divInt _ _ (by omega) (by omega), ← Int.add_mul, Rat.divInt_mul_right (by omega)]
theorem Fit.sz {L B n : Nat} (l0 : 0 < L) {t : Rat} (h : Fit L B t) (h1 : L < 2 ^ n) (h2 : B * L < 2 ^ n) : Sz n t := by
  obtain ⟨⟨z, ez⟩, lo, hi⟩ := h
  have dl : t.den ≤ L := by
    rw [ez, Rat.den_divInt, if_neg (by omega)]
    exact Nat.div_le_self _ _
  have nn : 0 ≤ t.num := num_nonneg.mpr lo
  have nb : t.num ≤ (B : Int) * (t.den : Int) := by
    have := (Rat.le_iff t (B : Rat)).mp hi
    have e1 : ((B : Rat)).den = 1 := rfl
    have e2 : ((B : Rat)).num = (B : Int) := rfl
    rw [e1, e2] at this
    omega
  have pb : (B : Int) * (t.den : Int) ≤ ((B * L : Nat) : Int) := by
    rw [Int.natCast_mul]
    exact Int.mul_le_mul_of_nonneg_left (by omega) (by omega)
  refine ⟨?_, ?_⟩
  · unfold Sm
    omega
  · unfold Sm
    omega
def prodD : List Ed → Nat
  | [] => 1
  | e :: es => e.span.den * prodD es
theorem prodD_pos : ∀ es : List Ed, 0 < prodD es
  | [] => by decide
  | e :: es => Nat.mul_pos e.span.den_pos (prodD_pos es)
theorem prodD_dvd : ∀ {es : List Ed} {e : Ed}, e ∈ es → e.span.den ∣ prodD es
  | f :: es, e, m => by
    rcases List.mem_cons.mp m with rfl | m
    · exact Nat.dvd_mul_right _ _
    · exact Nat.dvd_trans (prodD_dvd m) (Nat.dvd_mul_left _ _)
theorem prodD_lt : ∀ {es : List Ed}, (∀ e ∈ es, Sz 55 e.span) → prodD es < 2 ^ (55 * es.length + 1)
  | [], _ => by decide
  | e :: es, h => by
    have h1 : e.span.den < 2 ^ 55 := by
      have := (h e List.mem_cons_self).2
      unfold Sm at this
      omega
    have h2 := prodD_lt fun x m => h x (List.mem_cons_of_mem _ m)
    have e1 : 55 * (e :: es).length + 1 = 55 + (55 * es.length + 1) := by rw [List.length_cons]; omega
    rw [e1, Nat.pow_add]
    exact Nat.mul_lt_mul'' h1 h2
theorem le_num {t : Rat} (h : 0 ≤ t) : t ≤ ((t.num.toNat : Nat) : Rat) := by
  have nn : 0 ≤ t.num := num_nonneg.mpr h
  refine (Rat.le_iff _ _).mpr ?_
  show t.num * ((1 : Nat) : Int) ≤ ((t.num.toNat : Nat) : Int) * (t.den : Int)
  have d := den_pos t
  have e : ((t.num.toNat : Nat) : Int) = t.num := by omega
  rw [e]
  exact Int.mul_le_mul_of_nonneg_left (by omega) nn
theorem Fit.wide {L B m : Nat} {t : Rat} (m0 : 0 < m) (h : Fit L B t) : Fit (L * m) B t := by
  obtain ⟨⟨z, e⟩, lo, hi⟩ := h
  refine ⟨⟨z * m, ?_⟩, lo, hi⟩
  rw [e, Int.natCast_mul, Rat.divInt_mul_right (by omega)]
theorem Fit.up {L B C : Nat} {t : Rat} (h : Fit L B t) (l : B ≤ C) : Fit L C t := ⟨h.part, h.lo, Rat.le_trans h.hi (Rat.natCast_le_natCast.mpr l)⟩
/-! ### joining: what is tidied first -/
theorem goes_eq {l e : Ed} (lo : l.ok) (eo : e.ok) (g : goesOn l e.start e.rate = true) : e = ⟨e.span, ahead l.start l.rate l.span, l.rate⟩ := by
  obtain ⟨sp, st, r⟩ := e
  cases st with
  | none =>
    rw [goesOn_none] at g
    cases hl : l.start with
    | some s => rw [hl] at g; cases g
    | none =>
      have h1 : r = 0 := eo.2.2.2 rfl
      rw [lo.2.2.2 hl, h1]
      rfl
  | some s =>
    obtain ⟨ls, h1, h2, h3⟩ := goesOn_some g
    rw [h1, ← show r = l.rate from h2, show s = ls + l.rate * l.span from h3, ← show r = l.rate from h2]
    rfl
theorem step_merge {l e : Ed} (X : List Ed) (lo : l.ok) (eo : e.ok) (g : goesOn l e.start e.rate = true) : stepR (stepR X l) e = stepR X (merge l e) := by
  have h := step_split X l.span e.span l.start l.rate
  rw [← goes_eq lo eo g] at h
  exact h
theorem fold_norm : ∀ (b r acc : List Ed), (∀ x ∈ r, x.ok) → (∀ x ∈ b, x.ok) → (b.foldl stepR r).reverse.foldl stepR acc = (r.reverse ++ b).foldl stepR acc
  | [], r, acc, _, _ => by rw [List.append_nil]; rfl
  | e :: b, r, acc, hr, hb => by
    have eo := hb e List.mem_cons_self
    have h := fold_norm b (stepR r e) acc (stepR_ok hr eo) fun x m => hb x (List.mem_cons_of_mem _ m)
    show ((b.foldl stepR (stepR r e)).reverse).foldl stepR acc = _
    rw [h, List.foldl_append, List.foldl_append]
    show _ = b.foldl stepR (stepR (r.reverse.foldl stepR acc) e)
    congr 1
    cases r with
    | nil => rfl
    | cons l r =>
      rw [stepR]
      split
      · rename_i g
        rw [List.reverse_cons, List.reverse_cons, List.foldl_append, List.foldl_append]
        exact (step_merge _ (hr l List.mem_cons_self) eo g).symm
      · rw [List.reverse_cons, List.foldl_append]
        rfl
theorem tidy_cat {a b : List Ed} (hb : ∀ x ∈ b, x.ok) : tidyF (a ++ tidyF b) = tidyF (a ++ b) := by
  unfold tidyF
  rw [List.foldl_append, List.foldl_append]
  generalize a.foldl stepR [] = X
  have h := fold_norm b [] X (fun _ m => nomatch m) hb
  rw [show ([] : List Ed).reverse ++ b = b from rfl] at h
  rw [← h]
  congr 1
  cases b.foldl stepR [] with
  | nil => rfl
  | cons l r =>
    rw [popB]
    split
    · rename_i g
      have hl : l.start = none := by cases z : l.start with | none => rfl | some => rw [z] at g; cases g
      rw [List.reverse_cons, List.foldl_append]
      exact (pop_blank _ hl).symm
    · rfl
theorem sum_step {acc : List Ed} {e : Ed} (a : Rat) : sumF (stepR acc e).reverse a = sumF (acc.reverse ++ [e]) a := by
  cases acc with
  | nil => rfl
  | cons l r =>
    rw [stepR]
    split
    · rw [List.reverse_cons, List.reverse_cons, sumF_append, sumF_append, sumF_append]
      show sumF r.reverse a + (l.span + e.span) = sumF r.reverse a + l.span + e.span
      grind
    · rw [List.reverse_cons]
theorem sum_fold : ∀ (b r : List Ed) (a : Rat), sumF (b.foldl stepR r).reverse a = sumF (r.reverse ++ b) a
  | [], r, a => by rw [List.append_nil]; rfl
  | e :: b, r, a => by
    show sumF (b.foldl stepR (stepR r e)).reverse a = _
    rw [sum_fold b (stepR r e) a, sumF_append, sum_step, ← sumF_append, List.append_assoc]
    rfl
/-- what a tidied list lacks at its end, given back -/
theorem gap_back {x : List Ed} (hx : ∀ e ∈ x, e.ok) {g : Rat} (hg : g = sumF x 0 - sumF (tidyF x) 0) : 0 ≤ g ∧ (g = 0 → (tidyF x).foldl stepR [] = x.foldl stepR []) ∧ (0 < g → (tidyF x ++ [(⟨g, none, 0⟩ : Ed)]).foldl stepR [] = x.foldl stepR []) := by
  have h1 := sum_fold x [] 0
  rw [show ([] : List Ed).reverse ++ x = x from rfl] at h1
  have ht := fold_tidy x [] trivial
  have hok := fold_ok x [] (fun _ m => nomatch m) hx
  rw [← h1] at hg
  clear h1
  unfold tidyF at hg ⊢
  generalize x.foldl stepR [] = f at *
  have selfR : ∀ r : List Ed, TidyR r → r.reverse.foldl stepR [] = r := fun r t => by
    have := fold_self r.reverse [] (by rw [List.reverse_reverse, List.append_nil]; exact t)
    rw [this, List.reverse_reverse, List.append_nil]
  cases f with
  | nil =>
    have g0 : g = 0 := by rw [hg]; exact (show (0 : Rat) - 0 = 0 by grind)
    exact ⟨by rw [g0]; exact Rat.le_refl, fun _ => rfl, fun z => by rw [g0] at z; exact absurd z (by decide)⟩
  | cons l r =>
    have lo := hok l List.mem_cons_self
    rw [popB] at hg ⊢
    by_cases c : l.start.isNone = true
    · have hl : l.start = none := by cases z : l.start with | none => rfl | some => rw [z] at c; cases c
      rw [if_pos c] at hg ⊢
      have e1 : g = l.span := by
        rw [hg, List.reverse_cons, sumF_append]
        show sumF r.reverse 0 + l.span - sumF r.reverse 0 = l.span
        grind
      have l0 := lo.1
      refine ⟨by grind, fun z => by grind, fun _ => ?_⟩
      rw [List.foldl_append, selfR r ht.tail]
      have el : l = ⟨g, none, 0⟩ := by
        obtain ⟨sp, st, ra⟩ := l
        have h2 : st = none := hl
        subst h2
        have h3 : ra = 0 := lo.2.2.2 rfl
        rw [h3, e1]
      rw [← el]
      show stepR r l = l :: r
      cases r with
      | nil => rfl
      | cons m r => rw [stepR, if_neg (by rw [ht.1]; exact Bool.false_ne_true)]
    · rw [if_neg c] at hg ⊢
      have g0 : g = 0 := by rw [hg]; grind
      exact ⟨by grind, fun _ => selfR _ ht, fun z => by grind⟩
/-! ### a window of edits -/
def cutTo (rest left : Rat) : Rat := if rest < left then rest else left
def winF : List Ed → Rat → Rat → List Ed
  | [], _, left => if left = 0 then [] else [⟨left, none, 0⟩]
  | e :: es, a, left => if left = 0 then [] else if a < e.span then ⟨cutTo (e.span - a) left, ahead e.start e.rate a, e.rate⟩ :: winF es 0 (left - cutTo (e.span - a) left) else winF es (a - e.span) left
theorem winF_zero : ∀ (es : List Ed) (a : Rat), winF es a 0 = []
  | [], _ => by rw [winF, if_pos rfl]
  | _ :: _, _ => by rw [winF, if_pos rfl]
theorem cutTo_le {r l : Rat} : cutTo r l ≤ r ∧ cutTo r l ≤ l := by
  unfold cutTo
  split
  · exact ⟨by grind, by grind⟩
  · exact ⟨by grind, by grind⟩
theorem cutTo_pos {r l : Rat} (h1 : 0 < r) (h2 : 0 < l) : 0 < cutTo r l := by
  unfold cutTo
  split <;> assumption
theorem winF_ok : ∀ (es : List Ed) (a left : Rat), (∀ e ∈ es, e.ok) → 0 ≤ a → 0 ≤ left → ∀ e ∈ winF es a left, e.ok
  | [], a, left, _, _, l0, e, m => by
    rw [winF] at m
    split at m
    · cases m
    · rw [List.mem_singleton] at m
      subst m
      exact ⟨show 0 < left by grind, (fun _ z => nomatch z), (show (0 : Rat) ≤ 0 by decide), fun _ => rfl⟩
  | d :: es, a, left, h, a0, l0, e, m => by
    have dok := h d List.mem_cons_self
    have hr : ∀ e ∈ es, e.ok := fun x m => h x (List.mem_cons_of_mem _ m)
    rw [winF] at m
    split at m
    · cases m
    · split at m
      · rename_i hl ha
        have cl := @cutTo_le (d.span - a) left
        have cp := @cutTo_pos (d.span - a) left (by grind) (by grind)
        rcases List.mem_cons.mp m with rfl | m
        · refine ⟨cp, fun q z => ?_, dok.2.2.1, fun z => ?_⟩
          · cases hs : d.start with
            | none => rw [hs] at z; cases z
            | some s =>
              rw [hs] at z
              cases z
              have := Rat.mul_nonneg dok.2.2.1 a0
              have := dok.2.1 s hs
              show 0 ≤ s + d.rate * a
              grind
          · cases hs : d.start with
            | none => exact dok.2.2.2 hs
            | some s => rw [hs] at z; cases z
        · exact winF_ok es 0 _ hr (by decide) (by grind) e m
      · exact winF_ok es _ left hr (by grind) l0 e m
theorem winF_sum : ∀ (es : List Ed) (a left : Rat), sumF (winF es a left) 0 = left
  | [], a, left => by
    rw [winF]
    split
    · rename_i h; rw [h]; rfl
    · show 0 + left = left; grind
  | d :: es, a, left => by
    rw [winF]
    split
    · rename_i h; rw [h]; rfl
    · split
      · show sumF (winF es 0 _) (0 + cutTo (d.span - a) left) = left
        rw [sumF_add, winF_sum]
        grind
      · exact winF_sum es _ left
theorem winF_len : ∀ (es : List Ed) (a left : Rat), (winF es a left).length ≤ es.length + 1
  | [], a, left => by rw [winF]; split <;> simp
  | d :: es, a, left => by
    rw [winF]
    split
    · simp
    · split
      · have := winF_len es 0 (left - cutTo (d.span - a) left)
        simp only [List.length_cons]; omega
      · have := winF_len es (a - d.span) left
        simp only [List.length_cons]; omega
theorem winF_led : ∀ (es : List Ed) (a left t : Rat), (∀ e ∈ es, e.ok) → 0 ≤ a → 0 ≤ left → 0 ≤ t → ledF (winF es a left) t = if t < left then ledF es (a + t) else none
  | [], a, left, t, _, _, l0, t0 => by
    rw [winF]
    have e0 : ledF [] (a + t) = none := rfl
    rw [e0]
    split
    · split <;> rfl
    · show (if t < left then none else none) = _
      split <;> rfl
  | d :: es, a, left, t, h, a0, l0, t0 => by
    have dok := h d List.mem_cons_self
    have hr : ∀ e ∈ es, e.ok := fun x m => h x (List.mem_cons_of_mem _ m)
    rw [winF]
    split
    · rename_i hl; rw [if_neg (by grind)]; rfl
    · split
      · rename_i hl ha
        have cl := @cutTo_le (d.span - a) left
        have cp := @cutTo_pos (d.span - a) left (by grind) (by grind)
        have cc : cutTo (d.span - a) left = d.span - a ∨ cutTo (d.span - a) left = left := by unfold cutTo; split <;> simp
        show (if t < cutTo (d.span - a) left then (ahead d.start d.rate a).map (fun s => s + d.rate * t) else ledF (winF es 0 (left - cutTo (d.span - a) left)) (t - cutTo (d.span - a) left)) = if t < left then (if a + t < d.span then d.start.map (fun s => s + d.rate * (a + t)) else ledF es (a + t - d.span)) else none
        generalize cutTo (d.span - a) left = c at *
        by_cases c1 : t < c
        · rw [if_pos c1, if_pos (by grind), if_pos (by grind)]
          cases d.start with
          | none => rfl
          | some s =>
            show some (s + d.rate * a + d.rate * t) = some (s + d.rate * (a + t))
            congr 1
            grind
        · rw [if_neg c1, winF_led es 0 (left - c) (t - c) hr (by decide) (by grind) (by grind)]
          rcases cc with cc | cc
          · by_cases c2 : t < left
            · rw [if_pos (by grind), if_pos c2, if_neg (by grind)]
              congr 1
              grind
            · rw [if_neg (by grind), if_neg c2]
          · rw [if_neg (by grind), if_neg (by grind)]
      · rename_i hl ha
        rw [winF_led es (a - d.span) left t hr (by grind) l0 t0]
        show _ = if t < left then (if a + t < d.span then _ else ledF es (a + t - d.span)) else none
        split
        · rw [if_neg (by grind)]
          congr 1
          grind
        · rfl
theorem ahead_two (st : Option Rat) (r a b : Rat) : ahead st r (a + b) = ahead (ahead st r a) r b := by
  cases st with
  | none => rfl
  | some s =>
    show some (s + r * (a + b)) = some (s + r * a + r * b)
    congr 1
    grind
/-- a window parted in two -/
theorem winF_split : ∀ (es acc : List Ed) (a l1 l2 : Rat), 0 ≤ a → 0 < l1 → 0 < l2 → (winF es a l1 ++ winF es (a + l1) l2).foldl stepR acc = (winF es a (l1 + l2)).foldl stepR acc
  | [], acc, a, l1, l2, a0, h1, h2 => by
    rw [winF, winF, winF, if_neg (by grind), if_neg (by grind), if_neg (by grind)]
    exact step_split acc l1 l2 none 0
  | e :: es, acc, a, l1, l2, a0, h1, h2 => by
    rw [winF, winF, winF, if_neg (show ¬ l1 = 0 by grind), if_neg (show ¬ l2 = 0 by grind), if_neg (show ¬ l1 + l2 = 0 by grind)]
    by_cases c : a < e.span
    · rw [if_pos c, if_pos c]
      have ct : ∀ {x y : Rat}, x < y → cutTo x y = x := fun h => by unfold cutTo; rw [if_pos h]
      have cf : ∀ {x y : Rat}, y ≤ x → cutTo x y = y := fun h => by unfold cutTo; rw [if_neg (by grind)]
      by_cases c1 : l1 < e.span - a
      · rw [if_pos (show a + l1 < e.span by grind), cf (show l1 ≤ e.span - a by grind), show l1 - l1 = 0 by grind, winF_zero]
        by_cases c2 : l1 + l2 ≤ e.span - a
        · rw [cf c2, cf (show l2 ≤ e.span - (a + l1) by grind), show l2 - l2 = 0 by grind, show l1 + l2 - (l1 + l2) = 0 by grind, winF_zero, ahead_two]
          exact step_split acc l1 l2 (ahead e.start e.rate a) e.rate
        · rw [ct (show e.span - a < l1 + l2 by grind), ct (show e.span - (a + l1) < l2 by grind), ahead_two]
          have := step_split acc l1 (e.span - (a + l1)) (ahead e.start e.rate a) e.rate
          show (winF es 0 (l2 - (e.span - (a + l1)))).foldl stepR (stepR (stepR acc _) _) = (winF es 0 (l1 + l2 - (e.span - a))).foldl stepR (stepR acc _)
          rw [this, show l1 + (e.span - (a + l1)) = e.span - a by grind, show l2 - (e.span - (a + l1)) = l1 + l2 - (e.span - a) by grind]
      · rw [if_neg (show ¬ a + l1 < e.span by grind), ct (show e.span - a < l1 + l2 by grind)]
        by_cases c2 : l1 = e.span - a
        · rw [cf (show l1 ≤ e.span - a by grind), show l1 - l1 = 0 by grind, winF_zero, show a + l1 - e.span = 0 by grind, show l1 + l2 - (e.span - a) = l2 by grind, ← c2]
          rfl
        · rw [ct (show e.span - a < l1 by grind)]
          have := winF_split es (stepR acc ⟨e.span - a, ahead e.start e.rate a, e.rate⟩) 0 (l1 - (e.span - a)) l2 (by decide) (by grind) h2
          rw [show 0 + (l1 - (e.span - a)) = a + l1 - e.span by grind, show l1 - (e.span - a) + l2 = l1 + l2 - (e.span - a) by grind] at this
          exact this
    · rw [if_neg c, if_neg c, if_neg (show ¬ a + l1 < e.span by grind)]
      have := winF_split es acc (a - e.span) l1 l2 (by grind) h1 h2
      rw [show a - e.span + l1 = a + l1 - e.span by grind] at this
      exact this
/-! ### edits laid over edits -/
def scaleE (r : Rat) (p : Ed) : Ed := ⟨p.span / r, p.start, p.rate * r⟩
def laidF (inner : List Ed) (e : Ed) : List Ed := match e.start with
  | none => [e]
  | some s => if e.rate = 0 then [⟨e.span, ledF inner s, 0⟩] else (winF inner s (e.rate * e.span)).map (scaleE e.rate)
def overF (outer inner : List Ed) : List Ed := outer.flatMap (laidF inner)
theorem div_back {a r : Rat} (r0 : 0 < r) : r * (a / r) = a := by
  rw [Rat.mul_comm, Rat.div_mul_cancel (by grind)]
theorem lt_scale {t q r : Rat} (r0 : 0 < r) : t < q ↔ r * t < r * q := by
  constructor
  · intro h
    have := Rat.mul_pos r0 (show 0 < q - t by grind)
    grind
  · intro h
    refine Rat.not_le.mp fun c => ?_
    have := Rat.mul_nonneg (Rat.le_of_lt r0) (show 0 ≤ t - q by grind)
    grind
theorem led_scale {r : Rat} (r0 : 0 < r) : ∀ (ps : List Ed) (t : Rat), ledF (ps.map (scaleE r)) t = ledF ps (r * t)
  | [], t => rfl
  | p :: ps, t => by
    show (if t < p.span / r then p.start.map (fun s => s + p.rate * r * t) else ledF (ps.map (scaleE r)) (t - p.span / r)) = if r * t < p.span then p.start.map (fun s => s + p.rate * (r * t)) else ledF ps (r * t - p.span)
    have e0 := div_back (a := p.span) r0
    have hc := lt_scale (t := t) (q := p.span / r) r0
    rw [led_scale r0 ps, show r * (t - p.span / r) = r * t - p.span by grind]
    rw [e0] at hc
    by_cases c : r * t < p.span
    · rw [if_pos c, if_pos (hc.mpr c)]
      cases p.start with
      | none => rfl
      | some s =>
        show some (s + p.rate * r * t) = some (s + p.rate * (r * t))
        rw [Rat.mul_assoc]
    · rw [if_neg c, if_neg (fun z => c (hc.mp z))]
theorem sum_scale {r : Rat} (r0 : 0 < r) : ∀ (ps : List Ed), r * sumF (ps.map (scaleE r)) 0 = sumF ps 0
  | [] => by show r * 0 = 0; grind
  | p :: ps => by
    show r * sumF (ps.map (scaleE r)) (0 + p.span / r) = sumF ps (0 + p.span)
    have h := sum_scale r0 ps
    have e0 := div_back (a := p.span) r0
    rw [sumF_add, sumF_add ps]
    grind
theorem mul_left_eq {r a b : Rat} (r0 : 0 < r) (h : r * a = r * b) : a = b := by
  have h1 := lt_scale (t := a) (q := b) r0
  have h2 := lt_scale (t := b) (q := a) r0
  grind
theorem laid_sum {inner : List Ed} {e : Ed} (ok : e.ok) : sumF (laidF inner e) 0 = e.span := by
  unfold laidF
  split
  · show 0 + e.span = e.span; grind
  · split
    · show 0 + e.span = e.span; grind
    · rename_i hr
      have r0 : 0 < e.rate := by have := ok.2.2.1; grind
      refine mul_left_eq r0 ?_
      rw [sum_scale r0, winF_sum]
theorem laid_ok {inner : List Ed} {e : Ed} (hi : ∀ x ∈ inner, x.ok) (li : ∀ t x, 0 ≤ t → ledF inner t = some x → 0 ≤ x) (ok : e.ok) : ∀ x ∈ laidF inner e, x.ok := by
  intro x m
  unfold laidF at m
  split at m
  · rw [List.mem_singleton] at m; subst m; exact ok
  · rename_i s hs
    have s0 := ok.2.1 s hs
    split at m
    · rw [List.mem_singleton] at m
      subst m
      exact ⟨ok.1, fun q z => li s q s0 z, (show (0 : Rat) ≤ 0 by decide), fun _ => rfl⟩
    · rename_i hr
      have r0 : 0 < e.rate := by have := ok.2.2.1; grind
      obtain ⟨p, mp, rfl⟩ := List.mem_map.mp m
      have pok := winF_ok inner s (e.rate * e.span) hi s0 (Rat.mul_nonneg (Rat.le_of_lt r0) (Rat.le_of_lt ok.1)) p mp
      refine ⟨?_, pok.2.1, ?_, fun z => ?_⟩
      · show 0 < p.span / e.rate
        have := lt_scale (t := 0) (q := p.span / e.rate) r0
        rw [div_back r0] at this
        exact this.mpr (by have := pok.1; grind)
      · exact Rat.mul_nonneg pok.2.2.1 (Rat.le_of_lt r0)
      · show p.rate * e.rate = 0
        rw [pok.2.2.2 z]
        grind
theorem ledF_nonneg : ∀ {es : List Ed}, (∀ e ∈ es, e.ok) → ∀ t x, 0 ≤ t → ledF es t = some x → 0 ≤ x
  | [], _, t, x, _, h => nomatch h
  | e :: es, ho, t, x, t0, h => by
    have ok := ho e List.mem_cons_self
    have h : (if t < e.span then e.start.map (fun s => s + e.rate * t) else ledF es (t - e.span)) = some x := h
    by_cases c : t < e.span
    · rw [if_pos c] at h
      cases hs : e.start with
      | none => rw [hs] at h; cases h
      | some s =>
        rw [hs] at h
        have h : some (s + e.rate * t) = some x := h
        cases h
        have := ok.2.1 s hs
        have := Rat.mul_nonneg ok.2.2.1 t0
        grind
    · rw [if_neg c] at h
      exact ledF_nonneg (fun x m => ho x (List.mem_cons_of_mem _ m)) (t - e.span) x (by grind) h
theorem laid_led {inner : List Ed} {e : Ed} (hi : ∀ x ∈ inner, x.ok) (ok : e.ok) {t : Rat} (t0 : 0 ≤ t) (tl : t < e.span) : ledF (laidF inner e) t = (e.start.map fun s => s + e.rate * t).bind (ledF inner) := by
  unfold laidF
  split
  · rename_i hs
    show (if t < e.span then e.start.map _ else none) = _
    rw [if_pos tl, hs]
    rfl
  · rename_i s hs
    have s0 := ok.2.1 s hs
    rw [show (e.start.map fun s => s + e.rate * t).bind (ledF inner) = ledF inner (s + e.rate * t) by rw [hs]; rfl]
    split
    · rename_i hr
      show (if t < e.span then (ledF inner s).map (fun x => x + 0 * t) else none) = _
      rw [if_pos tl, hr, show s + 0 * t = s by grind]
      cases ledF inner s with
      | none => rfl
      | some x => show some (x + 0 * t) = some x; congr 1; grind
    · rename_i hr
      have r0 : 0 < e.rate := by have := ok.2.2.1; grind
      rw [led_scale r0, winF_led inner s _ _ hi s0 (Rat.mul_nonneg (Rat.le_of_lt r0) (Rat.le_of_lt ok.1)) (Rat.mul_nonneg (Rat.le_of_lt r0) t0), if_pos ((lt_scale r0).mp tl)]
theorem over_ok {outer inner : List Ed} (ho : ∀ x ∈ outer, x.ok) (hi : ∀ x ∈ inner, x.ok) : ∀ x ∈ overF outer inner, x.ok := fun x m => by
  obtain ⟨e, me, mx⟩ := List.mem_flatMap.mp m
  exact laid_ok hi (ledF_nonneg hi) (ho e me) x mx
theorem over_led {inner : List Ed} (hi : ∀ x ∈ inner, x.ok) : ∀ (outer : List Ed), (∀ x ∈ outer, x.ok) → ∀ t : Rat, 0 ≤ t → ledF (overF outer inner) t = (ledF outer t).bind (ledF inner)
  | [], _, t, _ => rfl
  | e :: outer, ho, t, t0 => by
    have ok := ho e List.mem_cons_self
    have hr : ∀ x ∈ outer, x.ok := fun x m => ho x (List.mem_cons_of_mem _ m)
    have e1 : overF (e :: outer) inner = laidF inner e ++ overF outer inner := List.flatMap_cons
    rw [e1, ledF_append (laid_ok hi (ledF_nonneg hi) ok) t t0, laid_sum ok]
    show _ = (if t < e.span then e.start.map (fun s => s + e.rate * t) else ledF outer (t - e.span)).bind _
    by_cases c : t < e.span
    · rw [if_pos c, if_pos c]
      exact laid_led hi ok t0 c
    · rw [if_neg c, if_neg c]
      exact over_led hi outer hr (t - e.span) (by grind)
theorem laid_len (inner : List Ed) (e : Ed) : (laidF inner e).length ≤ inner.length + 1 := by
  unfold laidF
  split
  · simp
  · split
    · simp
    · rw [List.length_map]; exact winF_len _ _ _
theorem over_len (inner : List Ed) : ∀ outer : List Ed, (overF outer inner).length ≤ outer.length * (inner.length + 1)
  | [] => Nat.le_of_eq (by rw [List.length_nil, Nat.zero_mul]; rfl)
  | e :: outer => by
    have e1 : overF (e :: outer) inner = laidF inner e ++ overF outer inner := List.flatMap_cons
    have h1 := laid_len inner e
    have h2 := over_len inner outer
    rw [e1, List.length_append, List.length_cons, Nat.add_mul, Nat.one_mul]
    omega
theorem Fit.mul {L M A B : Nat} {a b : Rat} (h : Fit L A a) (k : Fit M B b) : Fit (L * M) (A * B) (a * b) := by
  obtain ⟨⟨z, e⟩, lo, hi⟩ := h
  obtain ⟨⟨y, e2⟩, lo2, hi2⟩ := k
  refine ⟨⟨z * y, ?_⟩, Rat.mul_nonneg lo lo2, ?_⟩
  · rw [e, e2, Rat.divInt_mul_divInt, Int.natCast_mul]
  · rw [Rat.natCast_mul]
    exact Rat.le_trans (Rat.mul_le_mul_of_nonneg_right hi lo2) (Rat.mul_le_mul_of_nonneg_left hi2 Rat.natCast_nonneg)
/-! ### edits whose numbers are parts of known wholes -/
structure Gv (L Q N B R : Nat) (e : Ed) : Prop where
  ok : e.ok
  span : Fit L B e.span
  rate : Fit Q R e.rate
  num : e.rate = 0 ∨ e.rate.num.toNat ∣ N
  start : ∀ s, e.start = some s → Fit L B s
theorem Fit.to {L M B : Nat} {t : Rat} (h : Fit L B t) (d : L ∣ M) (m0 : 0 < M) : Fit M B t := by
  obtain ⟨k, rfl⟩ := d
  exact h.wide (Nat.pos_of_ne_zero fun z => by subst z; rw [Nat.mul_zero] at m0; omega)
theorem Fit.zero {L B : Nat} (l0 : 0 < L) : Fit L B 0 := fit_of l0 (Nat.one_dvd _) Rat.le_refl Rat.natCast_nonneg
theorem Fit.below {L B C : Nat} {t : Rat} (h : Fit L B t) (l : t ≤ (C : Rat)) : Fit L C t := ⟨h.part, h.lo, l⟩
/-- sizes by exponents -/
theorem Fit.szp {L B l b n : Nat} {t : Rat} (h : Fit L B t) (l0 : 0 < L) (hl : L ≤ 2 ^ l) (hb : B ≤ 2 ^ b) (hn : l + b < n) : Sz n t := by
  have h1 : B * L ≤ 2 ^ (l + b) := by rw [Nat.add_comm, Nat.pow_add]; exact Nat.mul_le_mul hb hl
  have h2 : 2 ^ (l + b) < 2 ^ n := Nat.pow_lt_pow_right (by decide) hn
  have h3 : 2 ^ l ≤ 2 ^ (l + b) := Nat.pow_le_pow_right (by decide) (by omega)
  exact h.sz l0 (Nat.lt_of_le_of_lt (Nat.le_trans hl h3) h2) (Nat.lt_of_le_of_lt h1 h2)
theorem Gv.to {L Q N B R L' Q' N' B' R' : Nat} {e : Ed} (h : Gv L Q N B R e) (l : L ∣ L') (l0 : 0 < L') (q : Q ∣ Q') (q0 : 0 < Q') (n : N ∣ N') (b : B ≤ B') (r : R ≤ R') : Gv L' Q' N' B' R' e :=
  ⟨h.ok, (h.span.to l l0).up b, (h.rate.to q q0).up r, h.num.imp id fun d => Nat.dvd_trans d n, fun s hs => ((h.start s hs).to l l0).up b⟩
theorem Gv.blank {L Q N B R : Nat} {g : Rat} (q0 : 0 < Q) (g0 : 0 < g) (h : Fit L B g) : Gv L Q N B R ⟨g, none, 0⟩ :=
  ⟨⟨g0, (fun _ z => nomatch z), (show (0 : Rat) ≤ 0 by decide), fun _ => rfl⟩, h, Fit.zero q0, .inl rfl, fun _ z => nomatch z⟩
theorem fit_den {r : Rat} {Q R : Nat} (h : Fit Q R r) (q0 : 0 < Q) : r.den ∣ Q := by
  obtain ⟨⟨z, e⟩, _, _⟩ := h
  rw [e, Rat.den_divInt, if_neg (by omega)]
  exact Nat.div_dvd_of_dvd (Int.gcd_dvd_natAbs_left _ _)
theorem Gv.merge {L Q N B C R : Nat} {l e : Ed} (l0 : 0 < L) (h : Gv L Q N B R l) (k : Gv L Q N C R e) : Gv L Q N (B + C) R (merge l e) :=
  ⟨merge_ok h.ok k.ok, h.span.add l0 k.span, h.rate, h.num, fun s hs => (h.start s hs).up (Nat.le_add_right _ _)⟩
theorem stepR_gr {L Q N B R n : Nat} {acc : List Ed} {e : Ed} (l0 : 0 < L) (h : ∀ x ∈ acc, Gv L Q N (n * B) R x) (k : Gv L Q N B R e) : ∀ x ∈ stepR acc e, Gv L Q N ((n + 1) * B) R x := by
  have e1 : n * B + B = (n + 1) * B := by rw [Nat.add_mul, Nat.one_mul]
  have up : ∀ {x}, Gv L Q N (n * B) R x → Gv L Q N ((n + 1) * B) R x := fun h => ⟨h.ok, h.span.up (by omega), h.rate, h.num, fun s hs => (h.start s hs).up (by omega)⟩
  have up2 : ∀ {x}, Gv L Q N B R x → Gv L Q N ((n + 1) * B) R x := fun h => ⟨h.ok, h.span.up (by omega), h.rate, h.num, fun s hs => (h.start s hs).up (by omega)⟩
  intro x m
  cases acc with
  | nil => rw [stepR, List.mem_singleton] at m; subst m; exact up2 k
  | cons l r =>
    rw [stepR] at m
    split at m
    · rcases List.mem_cons.mp m with rfl | m
      · rw [← e1]; exact (h l List.mem_cons_self).merge l0 k
      · exact up (h x (List.mem_cons_of_mem _ m))
    · rcases List.mem_cons.mp m with rfl | m
      · exact up2 k
      · exact up (h x m)
theorem fold_gr {L Q N B R : Nat} (l0 : 0 < L) : ∀ (es acc : List Ed) (n : Nat), (∀ x ∈ acc, Gv L Q N (n * B) R x) → (∀ x ∈ es, Gv L Q N B R x) → ∀ x ∈ es.foldl stepR acc, Gv L Q N ((n + es.length) * B) R x
  | [], _, _, h, _ => h
  | e :: es, acc, n, h, k => by
    have := fold_gr l0 es (stepR acc e) (n + 1) (stepR_gr l0 h (k e List.mem_cons_self)) fun x m => k x (List.mem_cons_of_mem _ m)
    rw [List.length_cons]
    intro x m
    have e1 : n + 1 + es.length = n + (es.length + 1) := by omega
    rw [← e1]
    exact this x m
theorem tidyF_gr {L Q N B R : Nat} {es : List Ed} (l0 : 0 < L) (h : ∀ x ∈ es, Gv L Q N B R x) : ∀ x ∈ tidyF es, Gv L Q N (es.length * B) R x := fun x m => by
  have := fold_gr l0 es [] 0 (fun _ m => nomatch m) h x (popB_mem (List.mem_reverse.mp m))
  rw [Nat.zero_add] at this
  exact this
/-- a piece of a window -/
structure Pc (L Q N B R H : Nat) (p : Ed) : Prop where
  ok : p.ok
  span : Fit L H p.span
  rate : Fit Q R p.rate
  num : p.rate = 0 ∨ p.rate.num.toNat ∣ N
  start : ∀ s, p.start = some s → Fit (L * Q) (B + R * H) s
theorem winF_pc {L Q N B R H : Nat} (l0 : 0 < L) (q0 : 0 < Q) : ∀ (es : List Ed) (a left : Rat), (∀ e ∈ es, Gv L Q N B R e) → Fit L H a → Fit L H left → ∀ p ∈ winF es a left, Pc L Q N B R H p ∧ p.span ≤ left
  | [], a, left, _, _, hl, p, m => by
    rw [winF] at m
    split at m
    · cases m
    · rw [List.mem_singleton] at m
      subst m
      have := hl.lo
      exact ⟨⟨⟨show 0 < left by grind, (fun _ z => nomatch z), (show (0 : Rat) ≤ 0 by decide), fun _ => rfl⟩, hl, Fit.zero q0, .inl rfl, (fun _ z => nomatch z)⟩, Rat.le_refl⟩
  | d :: es, a, left, h, ha, hl, p, m => by
    have dw := h d List.mem_cons_self
    have hr : ∀ e ∈ es, Gv L Q N B R e := fun x m => h x (List.mem_cons_of_mem _ m)
    have ok := winF_ok (d :: es) a left (fun e m => (h e m).ok) ha.lo hl.lo p m
    rw [winF] at m
    split at m
    · cases m
    · split at m
      · rename_i h0 hlt
        have cl := @cutTo_le (d.span - a) left
        have fr := dw.span.sub l0 ha (Rat.le_of_lt hlt)
        have fc : Fit L H (cutTo (d.span - a) left) := by
          unfold cutTo
          split
          · rename_i c
            exact ⟨fr.part, fr.lo, Rat.le_trans (Rat.le_of_lt c) hl.hi⟩
          · exact hl
        rcases List.mem_cons.mp m with rfl | m
        · refine ⟨⟨ok, fc, dw.rate, dw.num, fun q z => ?_⟩, cl.2⟩
          cases hs : d.start with
          | none => rw [hs] at z; cases z
          | some s =>
            rw [hs] at z
            cases z
            have h1 := (dw.start s hs).wide (m := Q) q0
            have h2 := dw.rate.mul ha
            rw [Nat.mul_comm Q L] at h2
            exact h1.add (Nat.mul_pos l0 q0) h2
        · obtain ⟨g1, g2⟩ := winF_pc l0 q0 es 0 _ hr (Fit.zero l0) (hl.sub l0 fc cl.2) p m
          exact ⟨g1, Rat.le_trans g2 (by have := fc.lo; grind)⟩
      · rename_i h0 hlt
        exact winF_pc l0 q0 es _ left hr (ha.sub l0 dw.span (by grind)) hl p m
/-- where edits lead -/
theorem ledF_fit {L Q N B R T : Nat} (l0 : 0 < L) (q0 : 0 < Q) : ∀ (es : List Ed) (t x : Rat), (∀ e ∈ es, Gv L Q N B R e) → Fit L T t → ledF es t = some x → Fit (L * Q) (B + R * T) x
  | [], t, x, _, _, h => nomatch h
  | e :: es, t, x, hes, ft, h => by
    have g := hes e List.mem_cons_self
    have h : (if t < e.span then e.start.map (fun s => s + e.rate * t) else ledF es (t - e.span)) = some x := h
    by_cases c : t < e.span
    · rw [if_pos c] at h
      cases hs : e.start with
      | none => rw [hs] at h; cases h
      | some s =>
        rw [hs] at h
        have h : some (s + e.rate * t) = some x := h
        cases h
        have h1 := (g.start s hs).wide (m := Q) q0
        have h2 := g.rate.mul ft
        rw [Nat.mul_comm Q L] at h2
        exact h1.add (Nat.mul_pos l0 q0) h2
    · rw [if_neg c] at h
      exact ledF_fit l0 q0 es (t - e.span) x (fun x m => hes x (List.mem_cons_of_mem _ m)) (ft.sub l0 g.span (by grind)) h
theorem ledOk_gr {L Q N B R T l q b r k : Nat} (l0 : 0 < L) (q0 : 0 < Q) (hl : L ≤ 2 ^ l) (hq : Q ≤ 2 ^ q) (hb : B ≤ 2 ^ b) (hr : R ≤ 2 ^ r) (ht : T ≤ 2 ^ k) (h1 : l + b < 4000) (h2 : l + q + k + r < 4000) : ∀ (es : List Ed) (t : Rat), (∀ e ∈ es, Gv L Q N B R e) → Fit L T t → LedOk es t
  | [], _, _, _ => trivial
  | e :: es, t, hes, ft => by
    have g := hes e List.mem_cons_self
    refine ⟨ft.szp l0 hl ht (by omega), g.span.szp l0 hl hb h1, fun _ => ⟨g.rate.szp q0 hq hr (by omega), fun s hs => ⟨(g.start s hs).szp l0 hl hb h1, ?_⟩⟩, fun c => ?_⟩
    · refine (g.rate.mul ft).szp (l := q + l) (b := r + k) (Nat.mul_pos q0 l0) ?_ ?_ (by omega)
      · rw [Nat.pow_add]; exact Nat.mul_le_mul hq hl
      · rw [Nat.pow_add]; exact Nat.mul_le_mul hr ht
    · exact ledOk_gr l0 q0 hl hq hb hr ht h1 h2 es (t - e.span) (fun x m => hes x (List.mem_cons_of_mem _ m)) (ft.sub l0 g.span (by grind))
theorem sumOk_gr {L Q N B R l k : Nat} (l0 : 0 < L) (hl : L ≤ 2 ^ l) (h1 : l + k < 4000) : ∀ (es : List Ed) (a : Rat) (A : Nat), Fit L A a → (∀ e ∈ es, Gv L Q N B R e) → A + es.length * B ≤ 2 ^ k → SumOk es a
  | [], _, _, _, _, _ => trivial
  | e :: es, a, A, fa, h, hb => by
    rw [List.length_cons, Nat.add_mul, Nat.one_mul] at hb
    have fs := (h e List.mem_cons_self).span
    exact ⟨fa.szp l0 hl (b := k) (by omega) h1, fs.szp l0 hl (b := k) (by omega) h1, sumOk_gr l0 hl h1 es (a + e.span) (A + B) (fa.add l0 fs) (fun x m => h x (List.mem_cons_of_mem _ m)) (by omega)⟩
theorem sumF_gr {L Q N B R : Nat} (l0 : 0 < L) : ∀ (es : List Ed) (a : Rat) (A : Nat), Fit L A a → (∀ e ∈ es, Gv L Q N B R e) → Fit L (A + es.length * B) (sumF es a)
  | [], a, A, fa, _ => by rw [List.length_nil, Nat.zero_mul]; exact fa
  | e :: es, a, A, fa, h => by
    have := sumF_gr l0 es (a + e.span) (A + B) (fa.add l0 (h e List.mem_cons_self).span) fun x m => h x (List.mem_cons_of_mem _ m)
    rw [List.length_cons, Nat.add_mul, Nat.one_mul]
    have e1 : A + B + es.length * B = A + (es.length * B + B) := by omega
    rw [← e1]
    exact this
/-- shared by a rate -/
theorem fit_div {L N B C : Nat} {p r : Rat} (r0 : 0 < r) (hn : r.num.toNat ∣ N) (n0 : 0 < N) (l0 : 0 < L) (h : Fit L B p) (hi : p / r ≤ (C : Rat)) : Fit (L * N) C (p / r) := by
  obtain ⟨⟨z, e⟩, lo, _⟩ := h
  obtain ⟨m, rfl⟩ := hn
  have rn : 0 < r.num := by
    have h1 := num_nonneg.mpr (Rat.le_of_lt r0)
    have h2 : r.num ≠ 0 := fun z => by rw [Rat.num_eq_zero.mp z] at r0; exact absurd r0 (by decide)
    omega
  have en : ((r.num.toNat : Nat) : Int) = r.num := by omega
  refine ⟨⟨z * ((r.den : Int) * (m : Int)), ?_⟩, ?_, hi⟩
  · refine mul_left_eq r0 ?_
    rw [div_back r0, e]
    have er : ∀ x y : Int, r * Rat.divInt x y = Rat.divInt (r.num * x) ((r.den : Int) * y) := fun x y => by rw [← Rat.divInt_mul_divInt, divInt_self]
    have m0 : m ≠ 0 := fun z => by subst z; rw [Nat.mul_zero] at n0; omega
    have dn := den_ne r
    rw [er, Int.natCast_mul, Int.natCast_mul, en]
    have e1 : r.num * (z * ((r.den : Int) * (m : Int))) = z * (r.num * ((r.den : Int) * (m : Int))) := by grind
    have e2 : (r.den : Int) * ((L : Int) * (r.num * (m : Int))) = (L : Int) * (r.num * ((r.den : Int) * (m : Int))) := by grind
    have hm : (m : Int) ≠ 0 := by omega
    rw [e1, e2, Rat.divInt_mul_right (mul_ne (by omega) (mul_ne dn hm))]
  · have := lt_scale (t := p / r) (q := 0) r0
    rw [div_back r0] at this
    exact Rat.not_lt.mp fun c => by have := this.mp c; grind
theorem num_mul_dvd {a b : Rat} (ha : 0 ≤ a) (hb : 0 ≤ b) {N M : Nat} (h1 : a.num.toNat ∣ N) (h2 : b.num.toNat ∣ M) : (a * b).num.toNat ∣ N * M := by
  have h0 := num_nonneg.mpr ha
  have h3 := num_nonneg.mpr hb
  have h4 := num_nonneg.mpr (Rat.mul_nonneg ha hb)
  refine Nat.dvd_trans ?_ (Nat.mul_dvd_mul h1 h2)
  have hc := divInt_cross (t := a.num * b.num) (b := (a.den : Int) * (b.den : Int)) (mul_ne (den_ne a) (den_ne b))
  rw [mul_is a b] at hc
  have hd : (a * b).num ∣ a.num * b.num := by
    rw [Rat.num_mul]
    exact Int.ediv_dvd_of_dvd (Int.ofNat_dvd_left.mpr (Nat.gcd_dvd_left _ _))
  have : (((a * b).num.toNat : Nat) : Int) ∣ ((a.num.toNat * b.num.toNat : Nat) : Int) := by
    rw [Int.natCast_mul, show (((a * b).num.toNat : Nat) : Int) = (a * b).num by omega, show ((a.num.toNat : Nat) : Int) = a.num by omega, show ((b.num.toNat : Nat) : Int) = b.num by omega]
    exact hd
  exact Int.natCast_dvd_natCast.mp this
/-- what is laid over -/
theorem over_gr {L1 Q1 N1 B1 R1 L2 Q2 N2 B2 R2 : Nat} (l1 : 0 < L1) (q1 : 0 < Q1) (n1 : 0 < N1) (l2 : 0 < L2) (q2 : 0 < Q2) {outer inner : List Ed} (ho : ∀ e ∈ outer, Gv L1 Q1 N1 B1 R1 e) (hi : ∀ e ∈ inner, Gv L2 Q2 N2 B2 R2 e) : ∀ e ∈ overF outer inner, Gv (L1 * Q1 * L2 * Q2 * N1) (Q1 * Q2) (N1 * N2) (B1 + B2 + R2 * (B1 + R1 * B1)) (R1 * R2) e := by
  intro x m
  obtain ⟨e, me, mx⟩ := List.mem_flatMap.mp m
  have ge := ho e me
  have xok := laid_ok (fun x m => (hi x m).ok) (ledF_nonneg fun x m => (hi x m).ok) ge.ok x mx
  have p0 : 0 < L1 * Q1 := Nat.mul_pos l1 q1
  have p1 : 0 < L1 * Q1 * L2 := Nat.mul_pos p0 l2
  have p2 : 0 < L1 * Q1 * L2 * Q2 := Nat.mul_pos p1 q2
  have p3 : 0 < L1 * Q1 * L2 * Q2 * N1 := Nat.mul_pos p2 n1
  have d1 : L1 ∣ L1 * Q1 * L2 := Nat.dvd_trans (Nat.dvd_mul_right _ _) (Nat.dvd_mul_right _ _)
  have d2 : L1 * Q1 * L2 ∣ L1 * Q1 * L2 * Q2 * N1 := Nat.dvd_trans (Nat.dvd_mul_right _ _) (Nat.dvd_mul_right _ _)
  have q0 : 0 < Q1 * Q2 := Nat.mul_pos q1 q2
  have gi : ∀ e ∈ inner, Gv (L1 * Q1 * L2) Q2 N2 B2 R2 e := fun e m => (hi e m).to (Nat.dvd_mul_left _ _) p1 (Nat.dvd_refl _) q2 (Nat.dvd_refl _) (Nat.le_refl _) (Nat.le_refl _)
  unfold laidF at mx
  split at mx
  · rename_i hs
    rw [List.mem_singleton] at mx
    subst mx
    refine ⟨ge.ok, (ge.span.to (Nat.dvd_trans d1 d2) p3).up (by omega), ?_, .inl (ge.ok.2.2.2 hs), fun s z => by rw [hs] at z; cases z⟩
    rw [ge.ok.2.2.2 hs]
    exact Fit.zero q0
  · rename_i s hs
    have fs := (ge.start s hs).to d1 p1
    split at mx
    · rename_i hr
      rw [List.mem_singleton] at mx
      subst mx
      refine ⟨xok, (ge.span.to (Nat.dvd_trans d1 d2) p3).up (by omega), Fit.zero q0, .inl rfl, fun y z => ?_⟩
      have := ledF_fit p1 q2 inner s y gi fs z
      refine (this.to (Nat.dvd_mul_right _ _) p3).up ?_
      have : R2 * B1 ≤ R2 * (B1 + R1 * B1) := Nat.mul_le_mul_left _ (Nat.le_add_right _ _)
      omega
    · rename_i hr
      have r0 : 0 < e.rate := by have := ge.ok.2.2.1; grind
      obtain ⟨p, mp, rfl⟩ := List.mem_map.mp mx
      have fl : Fit (L1 * Q1 * L2) (B1 + R1 * B1) (e.rate * e.span) := by
        have := ge.rate.mul ge.span
        rw [Nat.mul_comm Q1 L1] at this
        exact (this.to (Nat.dvd_mul_right _ _) p1).up (by omega)
      obtain ⟨pc, ple⟩ := winF_pc p1 q2 inner s (e.rate * e.span) gi (fs.up (by omega)) fl p mp
      have nm : e.rate.num.toNat ∣ N1 := ge.num.resolve_left hr
      have le1 : p.span / e.rate ≤ e.span := by
        refine Rat.not_lt.mp fun c => ?_
        have := (lt_scale r0).mp c
        rw [div_back r0] at this
        grind
      refine ⟨xok, ?_, ?_, ?_, fun y z => ?_⟩
      · have := fit_div (C := B1) r0 nm n1 p1 pc.span (Rat.le_trans le1 ge.span.hi)
        refine (this.to ?_ p3).up (by omega)
        exact Nat.mul_dvd_mul (Nat.dvd_mul_right _ _) (Nat.dvd_refl _)
      · have := pc.rate.mul ge.rate
        rw [Nat.mul_comm Q1, Nat.mul_comm R1]
        exact this
      · show p.rate * e.rate = 0 ∨ (p.rate * e.rate).num.toNat ∣ N1 * N2
        rcases pc.num with z | z
        · left; rw [z]; grind
        · right
          rw [Nat.mul_comm N1]
          exact num_mul_dvd pc.ok.2.2.1 ge.ok.2.2.1 z nm
      · exact ((pc.start y z).to (Nat.dvd_mul_right _ _) p3).up (by omega)
/-! ### two tidy lists that lead alike are the same -/
def TidyW : List Ed → Prop
  | [] => True
  | [x] => x.start ≠ none
  | x :: y :: r => goesOn x y.start y.rate = false ∧ TidyW (y :: r)
theorem tidyR_snoc {x y : Ed} : ∀ xs : List Ed, TidyR (xs ++ [y, x]) → goesOn x y.start y.rate = false ∧ TidyR (xs ++ [y])
  | [], h => ⟨h.1, trivial⟩
  | [a], h => ⟨h.2.1, h.1, trivial⟩
  | a :: b :: r, h => by
    obtain ⟨h1, h2⟩ := tidyR_snoc (b :: r) h.2
    exact ⟨h1, h.1, h2⟩
theorem tidyW_of : ∀ es : List Ed, TidyL es.reverse → TidyW es
  | [], _ => trivial
  | [x], h => fun z => by
    have := h.2 x [] rfl
    rw [z] at this
    cases this
  | x :: y :: r, h => by
    have e : (x :: y :: r).reverse = r.reverse ++ [y, x] := by rw [List.reverse_cons, List.reverse_cons, List.append_assoc]; rfl
    obtain ⟨h1, h2⟩ := h
    rw [e] at h1
    obtain ⟨g1, g2⟩ := tidyR_snoc r.reverse h1
    refine ⟨g1, tidyW_of (y :: r) ⟨by rw [List.reverse_cons]; exact g2, fun l r2 hl => ?_⟩⟩
    refine h2 l (r2 ++ [x]) ?_
    rw [List.reverse_cons, hl]
    rfl
theorem TidyW.tail {x : Ed} {r : List Ed} (h : TidyW (x :: r)) : TidyW r := by
  cases r with
  | nil => trivial
  | cons y r => exact h.2
theorem half_in {m : Rat} (h : 0 < m) : ∃ t : Rat, 0 < t ∧ t < m := ⟨m / 2, by grind, by grind⟩
theorem same_start {x y : Option Rat} {r s : Rat} (h : x.map (fun a => a + r * 0) = y.map (fun a => a + s * 0)) : x = y := by
  cases x with
  | none => cases y with | none => rfl | some b => cases h
  | some a =>
    cases y with
    | none => cases h
    | some b =>
      have h : some (a + r * 0) = some (b + s * 0) := h
      injection h with h
      congr 1
      grind
theorem same_rate {st : Option Rat} {r s t c : Rat} (ne : st ≠ none) (t0 : 0 < t) (h : st.map (fun a => a + r * t) = st.map (fun a => a + s * t)) : r = s := by
  cases st with
  | none => exact absurd rfl ne
  | some a =>
    have h : some (a + r * t) = some (a + s * t) := h
    injection h with h
    refine mul_left_eq t0 ?_
    grind
theorem head_same {x y : Ed} {a b : List Ed} (xo : x.ok) (yo : y.ok) (h : ∀ t : Rat, 0 ≤ t → ledF (x :: a) t = ledF (y :: b) t) : x.start = y.start ∧ x.rate = y.rate := by
  have x0 := xo.1
  have y0 := yo.1
  have h0 : x.start.map (fun s => s + x.rate * 0) = y.start.map (fun s => s + y.rate * 0) := by
    have := h 0 Rat.le_refl
    unfold ledF at this
    rw [if_pos x0, if_pos y0] at this
    exact this
  have e1 := same_start h0
  refine ⟨e1, ?_⟩
  cases hs : x.start with
  | none => rw [xo.2.2.2 hs, yo.2.2.2 (e1 ▸ hs)]
  | some s =>
    obtain ⟨m, m0, mx, my⟩ : ∃ m : Rat, 0 < m ∧ m < x.span ∧ m < y.span := by
      by_cases c : x.span < y.span
      · obtain ⟨m, m0, m1⟩ := half_in x0
        exact ⟨m, m0, m1, by grind⟩
      · obtain ⟨m, m0, m1⟩ := half_in y0
        exact ⟨m, m0, by grind, m1⟩
    have := h m (Rat.le_of_lt m0)
    unfold ledF at this
    rw [if_pos mx, if_pos my, ← e1] at this
    exact same_rate (c := 0) (by rw [hs]; simp) m0 this
theorem no_shorter {x y : Ed} {a b : List Ed} (tx : TidyW (x :: a)) (xo : ∀ e ∈ x :: a, e.ok) (yo : y.ok) (h : ∀ t : Rat, 0 ≤ t → ledF (x :: a) t = ledF (y :: b) t) : ¬ x.span < y.span := fun c => by
  have ox := xo x List.mem_cons_self
  obtain ⟨e1, e2⟩ := head_same ox yo h
  have x0 := ox.1
  have at0 : ∀ u : Rat, 0 ≤ u → x.span + u < y.span → ledF a u = x.start.map (fun s => s + x.rate * (x.span + u)) := fun u u0 hu => by
    have := h (x.span + u) (by grind)
    unfold ledF at this
    rw [if_neg (by grind), if_pos hu, ← e1, ← e2, show x.span + u - x.span = u by grind] at this
    exact this
  have z0 := at0 0 Rat.le_refl (by grind)
  rw [show x.span + 0 = x.span by grind] at z0
  cases a with
  | nil =>
    have : x.start ≠ none := tx
    cases hs : x.start with
    | none => exact this hs
    | some s => rw [hs] at z0; cases z0
  | cons z a =>
    have oz := xo z (List.mem_cons_of_mem _ List.mem_cons_self)
    have zz := oz.1
    have g : goesOn x z.start z.rate = false := tx.1
    have z1 : z.start.map (fun s => s + z.rate * 0) = x.start.map (fun s => s + x.rate * x.span) := by
      unfold ledF at z0
      rw [if_pos zz] at z0
      exact z0
    cases hs : x.start with
    | none =>
      rw [hs] at z1
      have : z.start = none := by cases hz : z.start with | none => rfl | some q => rw [hz] at z1; cases z1
      rw [this, goesOn_none, hs] at g
      cases g
    | some s =>
      rw [hs] at z1
      cases hz : z.start with
      | none => rw [hz] at z1; cases z1
      | some q =>
        rw [hz] at z1
        have z1 : some (q + z.rate * 0) = some (s + x.rate * x.span) := z1
        injection z1 with z1
        have eq : q = s + x.rate * x.span := by grind
        obtain ⟨u, u0, u1, u2⟩ : ∃ u : Rat, 0 < u ∧ u < z.span ∧ x.span + u < y.span := by
          by_cases c2 : z.span < y.span - x.span
          · obtain ⟨m, m0, m1⟩ := half_in zz
            exact ⟨m, m0, m1, by grind⟩
          · obtain ⟨m, m0, m1⟩ := half_in (show 0 < y.span - x.span by grind)
            exact ⟨m, m0, by grind, by grind⟩
        have h2 := at0 u (Rat.le_of_lt u0) u2
        unfold ledF at h2
        rw [if_pos u1, hz, hs] at h2
        have h2 : some (q + z.rate * u) = some (s + x.rate * (x.span + u)) := h2
        injection h2 with h2
        have er : z.rate = x.rate := by
          refine mul_left_eq u0 ?_
          rw [eq] at h2
          grind
        rw [hz, goesOn_of hs er eq] at g
        cases g
theorem not_blank {y : Ed} {b : List Ed} (ty : TidyW (y :: b)) (yo : ∀ e ∈ y :: b, e.ok) (h : ∀ t : Rat, 0 ≤ t → ledF (y :: b) t = none) : False := by
  have oy := yo y List.mem_cons_self
  have y0 := oy.1
  have h0 := h 0 Rat.le_refl
  unfold ledF at h0
  rw [if_pos y0] at h0
  have hs : y.start = none := by cases hz : y.start with | none => rfl | some q => rw [hz] at h0; cases h0
  cases b with
  | nil => exact ty hs
  | cons z b =>
    have zz := (yo z (List.mem_cons_of_mem _ List.mem_cons_self)).1
    have g : goesOn y z.start z.rate = false := ty.1
    have h1 := h y.span (Rat.le_of_lt y0)
    unfold ledF at h1
    rw [if_neg (by grind)] at h1
    unfold ledF at h1
    rw [if_pos (by grind)] at h1
    have : z.start = none := by cases hz : z.start with | none => rfl | some q => rw [hz] at h1; cases h1
    rw [this, goesOn_none, hs] at g
    cases g
theorem tidyW_unique : ∀ a b : List Ed, TidyW a → TidyW b → (∀ e ∈ a, e.ok) → (∀ e ∈ b, e.ok) → (∀ t : Rat, 0 ≤ t → ledF a t = ledF b t) → a = b
  | [], [], _, _, _, _, _ => rfl
  | [], y :: b, _, ty, _, yo, h => (not_blank ty yo fun t t0 => (h t t0).symm).elim
  | x :: a, [], tx, _, xo, _, h => (not_blank tx xo fun t t0 => h t t0).elim
  | x :: a, y :: b, tx, ty, xo, yo, h => by
    have ox := xo x List.mem_cons_self
    have oy := yo y List.mem_cons_self
    obtain ⟨e1, e2⟩ := head_same ox oy h
    have n1 := no_shorter tx xo oy h
    have n2 := no_shorter ty yo ox fun t t0 => (h t t0).symm
    have e3 : x.span = y.span := by grind
    have exy : x = y := by
      obtain ⟨p, q, r⟩ := x
      obtain ⟨p', q', r'⟩ := y
      cases e1
      cases e2
      cases e3
      rfl
    subst exy
    have x0 := ox.1
    rw [tidyW_unique a b tx.tail ty.tail (fun e m => xo e (List.mem_cons_of_mem _ m)) (fun e m => yo e (List.mem_cons_of_mem _ m)) fun t t0 => ?_]
    have := h (x.span + t) (by grind)
    unfold ledF at this
    rw [if_neg (by grind), if_neg (by grind), show x.span + t - x.span = t by grind] at this
    exact this
/-- lists that lead alike are tidied to the same -/
theorem tidy_alike {a b : List Ed} (ha : ∀ e ∈ a, e.ok) (hb : ∀ e ∈ b, e.ok) (h : ∀ t : Rat, 0 ≤ t → ledF a t = ledF b t) : tidyF a = tidyF b :=
  tidyW_unique _ _ (tidyW_of _ (tidyF_tidy a)) (tidyW_of _ (tidyF_tidy b)) (tidyF_ok ha) (tidyF_ok hb) fun t t0 => by rw [led_tidy ha t0, led_tidy hb t0, h t t0]
theorem over_sum {inner : List Ed} : ∀ outer : List Ed, (∀ e ∈ outer, e.ok) → ∀ a, sumF (overF outer inner) a = sumF outer a
  | [], _, _ => rfl
  | e :: outer, ho, a => by
    rw [show overF (e :: outer) inner = laidF inner e ++ overF outer inner from List.flatMap_cons, sumF_append, over_sum outer fun x m => ho x (List.mem_cons_of_mem _ m)]
    rw [sumF_add (laidF inner e) a, laid_sum (ho e List.mem_cons_self)]
    rfl
/-- arguments as data -/
local macro_rules | `(tactic| walk_at "as") => `(tactic| first
  | exact AsD.nil
  | (apply AsD.dat; walk_at "as")
  | (apply AsD.cel rfl; walk_at "as")
  | fail)
local macro_rules | `(tactic| walk_at "fz") => `(tactic| first
  | exact Frz.nil
  | (apply Frz.dat; walk_at "fz")
  | (apply Frz.cel rfl; walk_at "fz")
  | (apply Frz.ins rfl; walk_at "fz")
  | fail)
local macro_rules | `(tactic| walk_at "il") => `(tactic| first
  | exact IsL.dat _
  | exact IsL.cel rfl
  | exact IsL.scr _
  | fail)
local macro_rules | `(tactic| walk_at "od") => `(tactic| first
  | exact OfD.dat _
  | exact OfD.cel rfl
  | fail)
local macro_rules | `(tactic| walk_at "on") => `(tactic| first
  | exact only_name (by simp)
  | (refine only_tup ?_; repeat first | exact onlys_nil | refine onlys_cons (by simp) ?_)
  | fail)
/-- a call: its arguments as data -/
local macro_rules | `(tactic| walk_at "c") => `(tactic| (refine' wspE ?q1 ?z9; (case q1 => walk_at "as")))
local macro_rules | `(tactic| walk_at "cx") => `(tactic| (refine' wspX ?q1 ?z9; (case q1 => walk_at "as")))
local macro_rules | `(tactic| walk_at "al") => `(tactic| first
  | exact AsL.nil
  | (apply AsL.dat; walk_at "al")
  | (apply AsL.own; walk_at "al")
  | (apply AsL.cel (Nat.ne_of_beq_eq_false rfl) rfl; walk_at "al")
  | fail)
/-- a call that is lent a cell -/
local macro_rules | `(tactic| walk_at "c1") => `(tactic| (refine' wsp1 ?q1 ?q2 ?q3 ?z9; (case q1 => rfl); (case q2 => rfl); (case q3 => rfl)))
local macro_rules | `(tactic| walk_at "c2") => `(tactic| (refine' wsp2 ?q1 ?q2 ?q3 ?z9; (case q1 => rfl); (case q2 => rfl); (case q3 => walk_at "al")))
local macro_rules | `(tactic| walk_at "cd") => `(tactic| (refine' wspD ?q1 ?q2 ?z9; (case q2 => walk_at "al"); (case q1 => rfl)))
/-- one step by data -/
local macro_rules | `(tactic| walk_at "d") => `(tactic| first
  | with_reducible refine ws_seq ?_
  | with_reducible refine ws_asg ?_
  | with_reducible refine ws_ret ?_
  | with_reducible refine ws_if ?_
  | with_reducible refine ws_drop ?_
  | with_reducible refine ws_par ?_
  | with_reducible refine ws_next ?_
  | with_reducible refine ws_retN ?_
  | with_reducible refine ws_break ?_
  | with_reducible refine ws_cont ?_
  | with_reducible refine ws_for ?_
  | ((with_reducible refine' we_var ?v1 ?z9); (case v1 => exact rfl))
  | with_reducible refine we_ci ?_
  | with_reducible refine we_cs ?_
  | with_reducible refine we_cn ?_
  | with_reducible refine we_cb ?_
  | with_reducible refine we_ct ?_
  | with_reducible refine we_op ?_
  | with_reducible refine we_un ?_
  | with_reducible refine we_tCB ?_
  | with_reducible refine wa_nil ?_
  | with_reducible refine wa_cons ?_
  | with_reducible refine we_andV ?_
  | with_reducible refine we_orV ?_
  | with_reducible refine we_notV ?_
  | with_reducible refine we_if ?_
  | with_reducible refine wt_test ?_
  | with_reducible refine wt_B ?_
  | with_reducible refine wt_and ?_
  | with_reducible refine wt_or ?_
  | with_reducible refine wt_not ?_
  | with_reducible refine wt_yes ?_
  | with_reducible refine wt_tru ?_
  | with_reducible refine we_tup ?_
  | with_reducible refine we_lst ?_
  | with_reducible refine we_call ?_
  | with_reducible refine we_callS ?_
  | with_reducible refine wo_none ?_
  | with_reducible refine wo_some ?_
  | with_reducible refine wi_rng1 ?_
  | with_reducible refine wi_rng2 ?_
  | with_reducible refine wg_name ?_
  | with_reducible refine wg_sub ?_
  | with_reducible refine wgs_nil ?_
  | with_reducible refine wgs_cons ?_
  | with_reducible refine wgs_consM ?_
  | with_reducible refine wgs_nilM ?_
  | with_reducible refine wr_I0i ?_
  | with_reducible refine wr_I0b ?_
  | with_reducible refine wr_isN ?_
  | with_reducible refine wr_notN ?_
  | with_reducible refine wr_isB ?_
  | with_reducible refine wr_isnotB ?_
  | (with_reducible refine wu_neg ?_)
  | with_reducible refine wc_abs ?_
  | ((with_reducible refine' wr_eq ?v1 ?z9); (case v1 => exact rfl))
  | ((with_reducible refine' wr_ne ?v1 ?z9); (case v1 => exact rfl))
  | ((with_reducible refine' we_lc ?v0 ?z9); (case v0 => walk_at "on"))
  | ((with_reducible refine' wm_append ?v0 ?v1 ?v2 ?z9); (case v0 => walk_at "fz"); (case v1 => exact rfl))
  | refine we_bm ?_
  | refine we_bm0 ?_
  | refine we_slL ?_
  | refine wi_list ?_
  | refine wi_tup ?_
  | ((refine' wg_tup ?v1 ?z9); (case v1 => exact rfl))
  | ((refine' wr_ixT ?v1 ?z9); (case v1 => exact rfl))
  | ((refine' wr_ixL ?v0 ?v1 ?z9); (case v0 => walk_at "il"); (case v1 => exact rfl))
  | refine wc_lenT ?_
  | ((refine' wc_lenL ?v0 ?z9); (case v0 => walk_at "il"))
  | ((refine' wc_isi ?v0 ?v1 ?z9); (case v0 => simp); (case v1 => exact rfl))
  | ((refine' wc_isiC ?v0 ?v1 ?z9); (case v0 => simp); (case v1 => exact rfl))
  | ((refine' wc_list ?v0 ?z9); (case v0 => walk_at "il"))
  | refine wc_listT ?_
  | ((refine' wc_tuple ?v0 ?z9); (case v0 => walk_at "il"))
  | (first | refine ⟨⟨_, _, rfl, rfl, rfl⟩, ?_⟩ | refine ⟨⟨_, _, rfl, rfl, fun z => by cases z⟩, ?_⟩ | fail)
  | ((with_reducible refine' frz_in ?v0 ?v1 ?z9); (case v0 => walk_at "fz"); (case v1 => exact rfl))
  | ((with_reducible refine' il_in ?v0 ?z9); (case v0 => walk_at "il"))
  | ((with_reducible refine' lc_in ?v0 ?v1 ?v2 ?z9); (case v0 => walk_at "fz"); (case v1 => exact rfl))
  | (refine ⟨_, rfl, ?_⟩)
  | (refine ⟨_, _, rfl, ?_⟩)
  | fail)
/-- steps, and ifs whose test is told -/
local macro_rules | `(tactic| walk_at "D") => `(tactic| repeat (first
  | walk_at "d"
  | refine ifT rfl ?_
  | refine ifF rfl ?_))
/-- the environment written out -/
local macro_rules | `(tactic| walk_at "nrm") => `(tactic| first | (dsimp only [En.put, En.add, En.cell, List.set_cons_zero, List.set_cons_succ, List.cons_append, List.nil_append, List.length_cons, List.length_nil, Nat.zero_add, Nat.reduceAdd]) | skip)

/-- .. with what was frozen and forgotten -/
local macro_rules | `(tactic| walk_at "nr2") => `(tactic| first | (dsimp only [En.start, En.put, En.add, En.cell, En.frz, En.frzD, En.clr, frzA_d, frzA_c, mapC, mapN, Option.map_some, Option.map_none, List.set_cons_zero, List.set_cons_succ, List.cons_append, List.nil_append, List.length_cons, List.length_nil, Nat.zero_add, Nat.reduceAdd, Nat.reduceSub, List.replicate_succ, List.replicate_zero, ↓reduceIte, Nat.reduceEqDiff, reduceCtorEq]) | skip)
/-! ### what follows a call -/
section
variable {K : PySem.W.Frag} {F : Fx} {ρ : En} {k : AV → En → Prop} {x : AV}
theorem OfD.as {d : D} {xs : List AV} {ds : List D} (h : OfD ρ x d) (r : AsD ρ xs ds) : AsD ρ (x :: xs) (d :: ds) := by
  cases h with
  | dat => exact .dat r
  | cel hc => exact .cel hc r
theorem aft_hard {xs : List AV} {d : D} (h : hard d = true) (hk : k (.dat d) ρ) : aft ρ xs k (.dat d) := ⟨by rw [h, Bool.or_true], hk⟩
theorem aft_hards {xs : List AV} {ds : List D} (h : hards ds = true) (hk : k (.cel ρ.ce.length) (ρ.add ds)) : aft ρ xs k (.new ds) := ⟨by rw [h, Bool.or_true], hk⟩
theorem hards_fD (qs : List Rat) : hards (qs.map fD) = true := by
  induction qs with
  | nil => rfl
  | cons e es ih => show (hard (fD e) && hards (es.map fD)) = true; rw [hard_fD, ih]; rfl
end
theorem atI_last {es : List Ed} {e : Ed} (h : es.getLast? = some e) : atI (es.map eD) (-1) = some (eD e) := by
  have hne : es ≠ [] := fun z => by subst z; cases h
  have hl : 0 < es.length := List.length_pos_iff.mpr hne
  unfold atI ixN
  rw [if_neg (by decide), if_pos (by rw [List.length_map]; omega)]
  show (es.map eD)[(-1 + ((es.map eD).length : Int)).toNat]? = some (eD e)
  rw [List.length_map, List.getElem?_map]
  have e1 : (-1 + (es.length : Int)).toNat = es.length - 1 := by omega
  rw [e1, ← List.getLast?_eq_getElem?, h]
  rfl
section
variable {P : Program} {w : World} {K : PySem.W.Frag} {mg : Str → Option Value} {base : Heap}
/-! ### tidied, tidy by data: numbers that are parts of known wholes -/
def SzE (e : Ed) : Prop := Sz 4000 e.rate ∧ Sz 4000 e.span ∧ Sz 4000 (e.rate * e.span) ∧ ∀ s, e.start = some s → Sz 4000 s
def GbOk (L Q B R : Nat) : Prop := 0 < L ∧ 0 < Q ∧ ∃ l q b r, L ≤ 2 ^ l ∧ Q ≤ 2 ^ q ∧ B ≤ 2 ^ b ∧ R ≤ 2 ^ r ∧ l + q + b + r < 4000
theorem GbOk.down {L Q B R C : Nat} (h : GbOk L Q B R) (le : C ≤ B) : GbOk L Q C R := by
  obtain ⟨l0, q0, l, q, b, r, h1, h2, h3, h4, h5⟩ := h
  exact ⟨l0, q0, l, q, b, r, h1, h2, Nat.le_trans le h3, h4, h5⟩
theorem Gv.szE {L Q N B R : Nat} {e : Ed} (h : GbOk L Q B R) (g : Gv L Q N B R e) : SzE e := by
  obtain ⟨l0, q0, l, q, b, r, h1, h2, h3, h4, h5⟩ := h
  refine ⟨g.rate.szp q0 h2 h4 (by omega), g.span.szp l0 h1 h3 (by omega), ?_, fun s hs => (g.start s hs).szp l0 h1 h3 (by omega)⟩
  refine (g.rate.mul g.span).szp (l := q + l) (b := r + b) (Nat.mul_pos q0 l0) ?_ ?_ (by omega)
  · rw [Nat.pow_add]; exact Nat.mul_le_mul h2 h1
  · rw [Nat.pow_add]; exact Nat.mul_le_mul h4 h3
def wGoesOn : PW0 := fun xs cs post _ => ∃ (l : Ed) (st : Option Rat) (r : Rat), xs = [.dat (eD l), .dat (oD st), .dat (fD r)] ∧ cs = [] ∧ SzE l ∧ post (.dat (.bl (goesOn l st r))) []
theorem ok_goes_on (T : Txt K mg) : FnOk P w K mg base CX0 4 T.a_goes_on T.d_goes_on ["edit", "start", "rate"] (spG K wGoesOn) := by
  refine T.F_goes_on.ok sc_goes_on (fun vs H Q E h => spG_len h fun xs cs post exc ⟨a, b, c, e, _⟩ => by rw [e]; rfl) (fun cdv A outer s H vs Q E hr h => ⟨_, (pss_cons (ps_asg (pv 0) (pg_tup rfl (pgs_cons (pg_name (i := 3) sc_goes_on.nd rfl (Or.inl rfl)) (pgs_cons (pg_name (i := 4) sc_goes_on.nd rfl (Or.inl rfl)) (pgs_cons (pg_name (i := 5) sc_goes_on.nd rfl (Or.inl rfl)) pgs_nil)))))
      (pss_cons (ps_if (PW.pt (pw_or (pt_cmpR op_isN (pv 1) pe_non (nomark _)) (pw_or1 (pt_cmpR op_isN (pv 4) pe_non (nomark _))))) (pss_one (ps_ret (pe_and (pe_cmpR op_isN (pv 1) pe_non (nomark _)) (pe_one (pe_cmpR op_isN (pv 4) pe_non (nomark _)))))) pss_nil)
      (pss_one (ps_ret (pe_and (pe_cmpR (op_eqD hr.units) (pv 2) (pv 5) (nomark _)) (pe_one (pe_cmpR (op_eqD hr.units) (pv 1) (pe_call (ok_plus T) (hr.mono (by decide)) (by rfl) T.g_plus T.F_plus.kp T.b_plus .nil pass0 (pa_cons (pv 4) (pa_cons (pe_call (ok_times T) (hr.mono (by decide)) (by rfl) T.g_times T.F_times.kp T.b_times .nil pass0 (pa_cons (pv 5) (pa_cons (pv 3) pa_nil))) pa_nil))) (nomark _)))))))), enter h fun F xs cs post hE hw => ?_⟩)
  obtain ⟨l, st, r, rfl, rfl, ⟨z1, z2, z4, z3⟩, q⟩ := hw
  cases st with
  | none =>
    rw [goesOn_none] at q
    cases hl : l.start with
    | none =>
      rw [hl] at q
      walk_at "D"
      rw [hl]
      walk_at "D"
      exact fin_dat rfl q
    | some ls =>
      rw [hl] at q
      walk_at "D"
      rw [hl]
      walk_at "D"
      exact fin_dat rfl q
  | some s =>
    cases hl : l.start with
    | none =>
      have e0 : goesOn l (some s) r = false := by unfold goesOn; rw [hl]
      rw [e0] at q
      walk_at "D"
      rw [hl]
      walk_at "D"
      exact fin_dat rfl q
    | some ls =>
      have e0 : goesOn l (some s) r = (decide (r = l.rate) && decide (s = ls + l.rate * l.span)) := by unfold goesOn; rw [hl]
      rw [e0] at q
      walk_at "D"
      rw [hl]
      walk_at "D"
      refine wr_eqD 1 (.dat _) (.dat _) rfl rfl (by decide) ?_
      rw [eqD_fD]
      cases hd : decide (r = l.rate) with
      | false =>
        rw [hd] at q
        walk_at "D"
        exact fin_dat rfl q
      | true =>
        rw [hd] at q
        walk_at "D"
        walk_at "c"
        refine ⟨l.rate, l.span, rfl, rfl, z1.mono (by decide), z2.mono (by decide), rfl, ?_⟩
        walk_at "D"
        walk_at "c"
        refine ⟨ls, l.rate * l.span, rfl, rfl, (z3 ls hl).mono (by decide), z4, rfl, ?_⟩
        refine wr_eqD 1 (.dat _) (.dat _) rfl rfl (by decide) ?_
        rw [show eqD (oD (some s)) (fD (ls + l.rate * l.span)) = decide (s = ls + l.rate * l.span) from eqD_fD _ _]
        exact fin_dat rfl q
theorem rev_last {l : Ed} {r : List Ed} : ((l :: r).reverse).getLast? = some l := by rw [List.getLast?_reverse]; rfl
theorem rev_set {l m : Ed} {r : List Ed} : ∃ i, ixN ((l :: r).reverse.map eD).length (-1) = some i ∧ ((l :: r).reverse.map eD).set i (eD m) = (m :: r).reverse.map eD := by
  refine ⟨r.length, ?_, ?_⟩
  · unfold ixN
    rw [if_neg (by decide), if_pos (by rw [List.length_map, List.length_reverse, List.length_cons]; omega), List.length_map, List.length_reverse, List.length_cons]
    congr 1
    omega
  · rw [List.reverse_cons, List.reverse_cons, List.map_append, List.map_append, List.set_append_right _ _ (by rw [List.length_map, List.length_reverse]; exact Nat.le_refl _), List.length_map, List.length_reverse, Nat.sub_self]
    rfl
def wTidied : PW0 := fun xs cs post _ => ∃ (es : List Ed) (L Q N B R : Nat), xs = [.dat (.lst (es.map eD))] ∧ cs = [] ∧ (∀ e ∈ es, Gv L Q N B R e) ∧ GbOk L Q (es.length * B) R ∧ es.length ≤ 10000 ∧ post (.new ((tidyF es).map eD)) []
theorem ok_tidied (T : Txt K mg) : FnOk P w K mg base CX0 5 T.a_tidied T.d_tidied ["edits"] (spG K wTidied) := by
  refine T.F_tidied.ok sc_tidied (fun vs H Q E h => spG_len h fun xs cs post exc ⟨a, b, c, d, f, g, e, _⟩ => by rw [e]; rfl) (fun cdv A outer s H vs Q E hr h => ⟨_, (pss_cons (ps_set (i := 1) sc_tidied.nd rfl (Or.inl rfl) (pe_lst pa_nil))
      (pss_cons (ps_for PassesOwn.never rfl (pi_list (pv 0)) (pg_tup rfl (pgs_cons (pg_name (i := 2) sc_tidied.nd rfl (Or.inl rfl)) (pgs_cons (pg_name (i := 3) sc_tidied.nd rfl (Or.inl rfl)) (pgs_cons (pg_name (i := 4) sc_tidied.nd rfl (Or.inl rfl)) pgs_nil))))
        (pss_one (ps_if (PW.pt (pw_and (pt_tru (K := K) rfl (pv 1) (fun _ => rfl)) (pw_and1 (pt_val (pe_call (ok_goes_on T) (hr.mono (by decide)) (by rfl) T.g_goes_on T.F_goes_on.kp T.b_goes_on .nil pass0 (pa_cons (pe_ix ix_list (pv 1) (pe_un un_neg pe_int) (fun _ _ => rfl)) (pa_cons (pv 3) (pa_cons (pv 4) pa_nil)))))))) (pss_cons (ps_asg (pe_ix ix_list (pv 1) (pe_un un_neg pe_int) (fun _ _ => rfl)) (pg_tup rfl (pgs_cons (pg_name (i := 5) sc_tidied.nd rfl (Or.inl rfl)) (pgs_cons (pg_name (i := 6) sc_tidied.nd rfl (Or.inl rfl)) (pgs_cons (pg_name (i := 7) sc_tidied.nd rfl (Or.inl rfl)) pgs_nil)))))
      (pss_one (ps_asg (pe_tup (pa_cons (pe_call (ok_plus T) (hr.mono (by decide)) (by rfl) T.g_plus T.F_plus.kp T.b_plus .nil pass0 (pa_cons (pv 5) (pa_cons (pv 2) pa_nil))) (pa_cons (pv 6) (pa_cons (pv 7) pa_nil)))) (pg_sub (pv 1) (pe_un un_neg pe_int) set_list)))) (pss_one (ps_expr (pe_bm PySem.F.plainAttrs_list PySem.F.slot_list_append PySem.F.type_list_append mt_append (pv 1) (pa_cons (pe_tup (pa_cons (pv 2) (pa_cons (pv 3) (pa_cons (pv 4) pa_nil)))) pa_nil)))))))
      (pss_cons (ps_if (PW.pt (pw_and (pt_tru (K := K) rfl (pv 1) (fun _ => rfl)) (pw_and1 (pt_cmpR op_isN (pe_ix ix_tup (pe_ix ix_list (pv 1) (pe_un un_neg pe_int) (fun _ _ => rfl)) pe_int (fun _ _ => rfl)) pe_non (nomark _))))) (pss_one (ps_expr (pe_bm0 PySem.F.plainAttrs_list PySem.F.slot_list_pop PySem.F.type_list_pop mt_pop (pv 1)))) pss_nil)
      (pss_one (ps_ret (pv 1)))))), enter h fun F xs cs post hE hw => ?_⟩)
  obtain ⟨es0, L, Q0, N, B, R, rfl, rfl, sm, sb, hl0, q⟩ := hw
  have l0 : 0 < L := sb.1
  walk_at "D"
  refine loop_by (fun ds ρ => ∃ (es acc : List Ed) (n : Nat) (x y z u v w : Option AV), ds = es.map eD ∧ ρ = ⟨[some (.dat (.lst (es0.map eD))), some (.cel 0), x, y, z, u, v, w], [.lst (acc.reverse.map eD)]⟩ ∧ (∀ e ∈ es, Gv L Q0 N B R e) ∧ (∀ e ∈ acc, Gv L Q0 N (n * B) R e) ∧ acc.length ≤ n ∧ n + es.length = es0.length ∧ es.foldl stepR acc = es0.foldl stepR []) ⟨es0, [], 0, _, _, _, _, _, _, rfl, rfl, sm, (fun _ m => nomatch m), Nat.le_refl _, Nat.zero_add _, rfl⟩ ?_ ?_
  · rintro ρ ⟨es, acc, n, x, y, z, u, v, w, ee, rfl, h1, h2, h3, h4, h5⟩
    have : es = [] := List.map_eq_nil_iff.mp ee.symm
    subst this
    have h5 : acc = es0.foldl stepR [] := h5
    rw [show tidyF es0 = (popB acc).reverse from by unfold tidyF; rw [h5]] at q
    clear h5
    refine ⟨.dat _, ?_⟩
    cases acc with
    | nil =>
      walk_at "D"
      exact ⟨_, .cel (by decide) rfl, rfl, q⟩
    | cons l r =>
      walk_at "D"
      have he : ((l :: r).reverse.map eD).isEmpty = false := by rw [List.reverse_cons, List.map_append]; cases r.reverse.map eD <;> rfl
      rw [he]
      walk_at "D"
      refine wr_ixL (by walk_at "il") (atI_last rev_last) ?_
      walk_at "D"
      rw [popB] at q
      cases hs : l.start with
      | none =>
        rw [hs] at q
        walk_at "D"
        refine wm_pop rfl (by rw [List.getLast?_map, rev_last]; rfl) ?_
        walk_at "D"
        refine ⟨_, .cel (by decide) rfl, rfl, ?_⟩
        rw [← List.map_dropLast, List.dropLast_reverse]
        exact q
      | some s =>
        rw [hs] at q
        walk_at "D"
        exact ⟨_, .cel (by decide) rfl, rfl, q⟩
  · rintro d ds ρ ⟨es, acc, n, x, y, z, u, v, w, ee, rfl, h1, h2, h3, h4, h5⟩
    cases es with
    | nil => cases ee
    | cons e es =>
      cases ee
      rw [List.length_cons] at h4
      have se := h1 e List.mem_cons_self
      have h1' : ∀ x ∈ es, Gv L Q0 N B R x := fun x m => h1 x (List.mem_cons_of_mem _ m)
      have st := stepR_gr l0 h2 se
      have nb : GbOk L Q0 ((n + 1) * B) R := sb.down (Nat.mul_le_mul_right _ (by omega))
      have h5 : es.foldl stepR (stepR acc e) = es0.foldl stepR [] := h5
      refine ⟨.dat _, ?_⟩
      cases acc with
      | nil =>
        walk_at "D"
        · exact Nat.zero_lt_succ _
        · exact now ⟨es, [e], n + 1, _, _, _, _, _, _, rfl, rfl, h1', st, by rw [List.length_singleton]; omega, by omega, h5⟩
      | cons l r =>
        have sl := h2 l List.mem_cons_self
        walk_at "D"
        have he : ((l :: r).reverse.map eD).isEmpty = false := by rw [List.reverse_cons, List.map_append]; cases r.reverse.map eD <;> rfl
        rw [he]
        walk_at "D"
        refine wr_ixL (by walk_at "il") (atI_last rev_last) ?_
        walk_at "D"
        walk_at "c"
        have zl := sl.szE (nb.down (Nat.mul_le_mul_right _ (Nat.le_succ n)))
        have ze := se.szE (nb.down (by rw [Nat.add_mul, Nat.one_mul]; omega))
        refine ⟨l, e.start, e.rate, rfl, rfl, zl, aft_hard rfl ?_⟩
        cases g : goesOn l e.start e.rate with
        | true =>
          have hs : stepR (l :: r) e = merge l e :: r := by rw [stepR, if_pos g]
          rw [hs] at st h5
          walk_at "D"
          refine wr_ixL (by walk_at "il") (atI_last rev_last) ?_
          walk_at "D"
          walk_at "c"
          refine ⟨l.span, e.span, rfl, rfl, zl.2.1, ze.2.1, rfl, ?_⟩
          walk_at "D"
          obtain ⟨i, hi, hset⟩ := rev_set (l := l) (m := merge l e) (r := r)
          refine sub_in rfl rfl (by walk_at "fz") rfl hi ?_
          rw [show D.tup [fD (l.span + e.span), oD l.start, fD l.rate] = eD (merge l e) from rfl, hset]
          exact now ⟨es, merge l e :: r, n + 1, _, _, _, _, _, _, rfl, rfl, h1', st, by rw [List.length_cons] at h3 ⊢; omega, by omega, h5⟩
        | false =>
          have hs : stepR (l :: r) e = e :: l :: r := by rw [stepR, if_neg (by rw [g]; exact Bool.false_ne_true)]
          rw [hs] at st h5
          walk_at "D"
          · rw [List.length_map, List.length_reverse]; omega
          · rw [show (l :: r).reverse.map eD ++ [D.tup [fD e.span, oD e.start, fD e.rate]] = (e :: l :: r).reverse.map eD from by rw [List.reverse_cons (a := e), List.map_append]; rfl]
            exact now ⟨es, e :: l :: r, n + 1, _, _, _, _, _, _, rfl, rfl, h1', st, by rw [List.length_cons]; omega, by omega, h5⟩
def wTidy (C : Addr) : PW0 := fun xs cs post exc => ∃ d, xs = [.dat d] ∧ cs = [] ∧ pl d = true ∧ (isEds d = false → exc C) ∧ ∀ es, d = .lst (es.map eD) → (∀ e ∈ es, e.ok) → ∃ L Q N B R, (∀ e ∈ es, Gv L Q N B R e) ∧ GbOk L Q (es.length * B) R ∧ es.length ≤ 10000 ∧ post (.new ((tidyF es).map eD)) []
theorem ok_tidy (T : Txt K mg) : FnOk P w K mg base (L2.CX P w) 7 T.a_tidy T.d_tidy ["edits"] (spG K (wTidy T.c_NoEdits)) := by
  refine T.F_tidy.okX sc_tidy (fun vs H Q E h => spG_len h fun xs cs post exc ⟨a, e, _⟩ => by rw [e]; rfl) (fun cdv A outer s H vs Q E hr h => ⟨_, (pss_cons (ps_expr (pe_callFR (ok_refuse_no_edits T) (hr.mono (by decide)) (by rfl) T.g_refuse_no_edits T.F_refuse_no_edits.kp (passes_call (takes_of rfl rfl rfl rfl) (fun _ _ _ _ h => h)) (pa_cons (pv 0) pa_nil)))
      (pss_one (ps_ret (pe_call (ok_tidied T) (hr.mono (by decide)) (by rfl) T.g_tidied T.F_tidied.kp T.b_tidied .nil pass0 (pa_cons (pv 0) pa_nil))))), enter h fun F xs cs post hE hw => ?_⟩)
  obtain ⟨d, rfl, rfl, p1, q1, q3⟩ := hw
  subst hE
  walk_at "D"
  walk_at "cx"
  refine ⟨[d], rfl, rfl, Nat.le_of_ble_eq_true rfl, [d], rfl, rfl, by rw [pls, p1]; rfl, fun h => ⟨rfl, ?_⟩, fun h => q1 (by rw [List.all_cons, List.all_nil, Bool.and_true] at h; exact h)⟩
  rw [List.all_cons, List.all_nil, Bool.and_true] at h
  obtain ⟨es, hes, rfl⟩ := isEds_of h
  obtain ⟨L, Q0, N, B, R, l1, l2, l3, l4⟩ := q3 es rfl hes
  walk_at "D"
  walk_at "c"
  exact ⟨es, L, Q0, N, B, R, rfl, rfl, l1, l2, l3, rfl, ⟨_, .cel (Nat.zero_le _) rfl, rfl, l4⟩⟩
end
local macro_rules | `(tactic| walk_at "sm") => `(tactic| first
  | assumption
  | exact (show Sm 64 _ by unfold Sm; decide)
  | (refine' Sm.mul ?m1 ?m2; (case m1 => walk_at "sm"); (case m2 => walk_at "sm"))
  | (refine' Sm.add ?m1 ?m2; (case m1 => walk_at "sm"); (case m2 => walk_at "sm"))
  | (refine' Sm.sub ?m1 ?m2; (case m1 => walk_at "sm"); (case m2 => walk_at "sm"))
  | (refine' Sm.neg ?m1; (case m1 => walk_at "sm"))
  | fail)
local macro_rules | `(tactic| walk_at "ne") => `(tactic| first
  | assumption
  | exact Ne.symm (by assumption)
  | (refine' new_ne ?n1 ?n2; (case n1 => assumption); (case n2 => walk_at "hp"))
  | (refine' Ne.symm (new_ne ?n1 ?n2); (case n1 => assumption); (case n2 => walk_at "hp"))
  | fail)
local macro_rules | `(tactic| walk_at "hp") => `(tactic| first
  | assumption
  | exact upd_same
  | (refine' upd_old ?na ?ho; (case na => assumption); (case ho => walk_at "hp"))
  | (refine' upd_old2 ?na ?ho; (case na => assumption); (case ho => walk_at "hp"))
  | (refine' upd_oth ?na ?ho; (case na => walk_at "ne"); (case ho => walk_at "hp"))
  | (refine' Same.get ?na ?ho; (case na => assumption); (case ho => walk_at "hp"))
  | (refine' Frm.get ?na ?nb ?ho; (case na => assumption); (case nb => walk_at "ne"); (case ho => walk_at "hp"))
  | fail)
local macro_rules | `(tactic| walk_at "fr") => `(tactic| first
  | assumption
  | exact Frm.refl
  | exact Same.refl _
  | (refine' Frm.upd2 ?f; (case f => walk_at "fr"))
  | (refine' Frm.new ?f ?n; (case n => assumption); (case f => walk_at "fr"))
  | (refine' Frm.new2 ?f ?n; (case n => assumption); (case f => walk_at "fr"))
  | (refine' Frm.own ?f ?n; (case n => assumption); (case f => walk_at "fr"))
  | (refine' Frm.trans ?f ?g; (case g => first | assumption | exact Same.frm (by assumption)); (case f => walk_at "fr"))
  | (refine' Same.new ?f ?n; (case n => assumption); (case f => walk_at "fr"))
  | (refine' Same.new2 ?f ?n; (case n => assumption); (case f => walk_at "fr"))
  | (refine' Same.own ?f ?n; (case n => assumption); (case f => walk_at "fr"))
  | (refine' Same.trans ?f ?g; (case g => assumption); (case f => walk_at "fr"))
  | (refine' Same.byFrm ?f ?g ?n; (case g => assumption); (case n => assumption); (case f => walk_at "fr"))
  | fail)
/-- one step of a reading, where its form alone tells it -/
local macro_rules | `(tactic| walk_at "g") => `(tactic| first
  | refine ⟨_, rfl, ?_⟩
  | refine ⟨_, _, rfl, rfl, ?_⟩
  | refine ⟨rfl, ?_⟩
  | refine ⟨sz rfl, fun _ _ => ?_⟩
  | refine ⟨.inl ⟨rfl, _, SqL.of (by walk_at "hp")⟩, ?_⟩
  | refine ⟨_, _, rfl, .inl (SqL.of (by walk_at "hp")), ?_⟩
  | refine ⟨_, _, rfl, .inr (SqT.of (by walk_at "hp")), ?_⟩
  | refine ⟨_, _, rfl, SqL.of (by walk_at "hp"), fun _ _ => ?_⟩
  | refine ⟨_, _, _, _, rfl, rfl, SqL.of (by walk_at "hp"), rfl, ?_⟩
  | refine ⟨_, _, _, _, rfl, rfl, SqT.of (by walk_at "hp"), rfl, ?_⟩
  | refine ⟨(show (0 : Int) < _ by first | decide | assumption), ?_⟩
  | refine ⟨⟨(show (0 : Int) < _ by first | decide | assumption), by first | decide | assumption⟩, ?_⟩
  | refine ⟨⟨(show (0 : Int) ≤ _ by decide), by decide, by decide⟩, ?_⟩
  | refine ⟨_, _, _, _, rfl, rfl, by walk_at "hp", by walk_at "hp", sz rfl, ?_⟩
  | refine ⟨_, _, _, _, rfl, rfl, by walk_at "hp", rfl, ?_⟩
  | refine ⟨(show CMul _ _ by first | exact .inl ⟨by decide, by decide⟩ | exact .inr ⟨by decide, by decide⟩ | exact .inl ⟨by omega, by omega⟩ | exact .inr ⟨by omega, by omega⟩), ?_⟩
  | refine ⟨(show CMulW _ _ from Sm.mulok (by walk_at "sm") (by walk_at "sm") (by decide) (by decide)), ?_⟩
  | refine ⟨(show CDivZ _ _ from ⟨by first | assumption | omega, Sm.mono (by walk_at "sm") (by decide)⟩), ?_⟩
  | fail)
/-- a drawn figure: a call of digit -/
local macro_rules | `(tactic| walk_at "dg") => `(tactic| (refine ⟨_, _, _, rfl, by walk_at "hp", by assumption, by first | decide | omega, by first | decide | omega, fun _ _ _ _ _ _ _ _ => ?_⟩))
/-- a list's item at a drawn place -/
local macro_rules | `(tactic| walk_at "ixI") => `(tactic| (refine' ixI (SqL.of ?h) ?h0 ?h1 ?al (fun _ _ => ?k); (case h => walk_at "hp"); (case al => rfl); (case h0 => first | assumption | omega); (case h1 => first | assumption | (simp only [List.length]; omega))))
section
variable {P : Program} {w : World} {K : PySem.W.Frag} {mg : Str → Option Value} {base : Heap}
/-! ### a drawn figure -/
def spDigit : Sp := fun vs H Q _ => ∃ (p : Addr) (xs : List V) (b : Int), vs = [.ref p, .int b] ∧ H p = some (.lst xs) ∧ IsSt xs ∧ 0 < b ∧ b < 1073741824 ∧
  ∀ H' d xs', Frm p H H' → H' p = some (.lst xs') → IsSt xs' → 0 ≤ d → d < b → Q (.int d) H'
def wDigit : PW0 := fun xs cs post _ => ∃ b : Int, xs = [.cel 0, .dat (.int b)] ∧ cs = [.drw] ∧ 0 < b ∧ b < 1073741824 ∧ ∀ d, 0 ≤ d → d < b → post (.dat (.int d)) [.drw]
theorem digit_of {K : PySem.W.Frag} {vs : List V} {H : Hp} {Q : VK} {E : XK} (h : spG K wDigit vs H Q E) : spDigit vs H Q E := by
  obtain ⟨G, as, xs, cs, post, exc, gh, ok, rx, ⟨b, rfl, rfl, b0, b1, hp⟩, hq, _⟩ := h
  cases rx with
  | cons r1 r2 =>
    cases r2 with
    | cons r2 r3 =>
      cases r3
      obtain ⟨p, hp0, rfl⟩ := r1
      cases (show Rep K G (.int b) _ from r2)
      have ea : as = [p] := by
        have l := ok.ln
        match as, l with
        | [q], _ => simp at hp0; rw [hp0]
      subst ea
      obtain ⟨_, gp, ws, hw, hs⟩ := ok.ok 0 _ p rfl rfl
      refine ⟨p, ws, b, rfl, hw, hs, b0, b1, fun H' d xs' fr hx is d0 d1 => hq (.dat (.int d)) [.drw] _ H' G (hp d d0 d1) (fun a o na ha => fr a o (by simpa using na) ha) (Same.refl _) (fun a o ha => fr a o (ne_of_none ha gp) (gh _ _ ha)) (fun a o ha => .inl ha) ⟨rfl, ok.nd, fun j c a hc ha => ?_⟩ (Rep.int d)⟩
      cases j with
      | zero => simp at hc ha; subst hc ha; exact ⟨⟨_, hx⟩, gp, xs', hx, is⟩
      | succ j => simp at hc
theorem ok_l_digit (T : Txt K mg) : FnOk P w K mg base CX0 1 T.a_l_digit T.d_l_digit ["_law_state", "_law_base"] (spG K wDigit) := by
  refine FnOk.imp (sp := spDigit) ?_ (fun vs H Q E h => digit_of h)
  refine T.F_l_digit.ok sc_l_digit (fun vs H Q E h => ?_) (fun cdv A outer s H vs Q E hr h => ?_)
  · obtain ⟨p, xs, b, rfl, _⟩ := h
    rfl
  · obtain ⟨p, xs, b, rfl, hp, hx, b0, b1, q⟩ := h
    refine ⟨_, (pss_cons (ps_if (pt_cmpR op_eq (pe_callB call_len_seq (by rfl) T.m_len (by decide +kernel) (pa_cons (pv 0) pa_nil)) pe_int (nomark _)) (pss_one (ps_expr (pe_bm PySem.F.plainAttrs_list PySem.F.slot_list_extend PySem.F.type_list_extend mt_extend (pv 0) (pa_cons (pe_lst (pa_cons (pe_op op_mod (pe_ix ix_list (pv 0) pe_int (fun _ _ => rfl)) pe_int) (pa_cons pe_int pa_nil))) pa_nil)))) pss_nil)
      (pss_cons (ps_if (pt_cmpR op_ge (pe_ix ix_list (pv 0) pe_int (fun _ _ => rfl)) (pv 1) (nomark _)) (pss_cons (ps_set (i := 2) sc_l_digit.nd rfl (Or.inl rfl) (pe_op op_mod (pe_ix ix_list (pv 0) pe_int (fun _ _ => rfl)) (pv 1)))
      (pss_cons (ps_asg (pe_op op_fdiv (pe_ix ix_list (pv 0) pe_int (fun _ _ => rfl)) (pv 1)) (pg_sub (pv 0) pe_int set_list))
      (pss_one (ps_ret (pv 2))))) pss_nil)
      (pss_cons (ps_asg (pe_op op_add (pe_ix ix_list (pv 0) pe_int (fun _ _ => rfl)) pe_int) (pg_sub (pv 0) pe_int set_list))
      (pss_cons (ps_set (i := 3) sc_l_digit.nd rfl (Or.inl rfl) (pe_op op_mod (pe_op op_mul (pe_op op_add (pe_op op_add (pe_ix ix_list (pv 0) pe_int (fun _ _ => rfl)) (pe_op op_mul pe_int (pe_ix ix_list (pv 0) pe_int (fun _ _ => rfl)))) pe_int) pe_int) pe_int))
      (pss_cons (ps_set (i := 3) sc_l_digit.nd rfl (Or.inl rfl) (pe_op op_mod (pe_op op_mul (pv 3) (pe_op op_add (pe_op op_fdiv (pv 3) pe_int) pe_int)) pe_int))
      (pss_one (ps_ret (pe_op op_mod (pe_op op_mod (pe_op op_mul (pv 3) (pe_op op_add (pe_op op_fdiv (pv 3) pe_int) pe_int)) pe_int) (pv 1))))))))), ?_⟩
    rcases hx with ⟨x, rfl⟩ | ⟨x, y, z, rfl⟩
    all_goals
      repeat' walk_at "g"
      refine ite2 (fun c => ?_) (fun c => ?_)
      · repeat' walk_at "g"
        exact q _ _ _ (by walk_at "fr") upd_same (.inr ⟨_, _, _, rfl⟩) (Int.emod_nonneg _ (by omega)) (Int.emod_lt_of_pos _ b0)
      · repeat' walk_at "g"
        exact q _ _ _ (by walk_at "fr") upd_same (.inr ⟨_, _, _, rfl⟩) (Int.emod_nonneg _ (by omega)) (Int.emod_lt_of_pos _ b0)
theorem wsp_digit {K : PySem.W.Frag} {F : Fx} {ρ : En} {k : AV → En → Prop} {E : L2.St → XK} {j : Nat} {b : Int} (hj : ρ.ce[j]? = some .drw) (b0 : 0 < b) (b1 : b < 1073741824) (h : ∀ d, 0 ≤ d → d < b → k (.dat (.int d)) ρ) : WpSp K F (spG K wDigit) E [.cel j, .dat (.int b)] ρ k :=
  wspD hj (.own (.dat .nil)) ⟨b, rfl, rfl, b0, b1, fun d d0 d1 => ⟨rfl, by show (onlyC j [.cel j, .dat (.int b)] || hard (.int d)) = true; rw [show hard (.int d) = true from rfl, Bool.or_true], h d d0 d1⟩⟩
end
/-- arguments as data -/
local macro_rules | `(tactic| walk_at "as") => `(tactic| first
  | exact AsD.nil
  | (apply AsD.dat; walk_at "as")
  | (apply AsD.cel rfl; walk_at "as")
  | fail)
local macro_rules | `(tactic| walk_at "fz") => `(tactic| first
  | exact Frz.nil
  | (apply Frz.dat; walk_at "fz")
  | (apply Frz.cel rfl; walk_at "fz")
  | (apply Frz.ins rfl; walk_at "fz")
  | fail)
local macro_rules | `(tactic| walk_at "il") => `(tactic| first
  | exact IsL.dat _
  | exact IsL.cel rfl
  | exact IsL.scr _
  | fail)
local macro_rules | `(tactic| walk_at "od") => `(tactic| first
  | exact OfD.dat _
  | exact OfD.cel rfl
  | fail)
local macro_rules | `(tactic| walk_at "on") => `(tactic| first
  | exact only_name (by simp)
  | (refine only_tup ?_; repeat first | exact onlys_nil | refine onlys_cons (by simp) ?_)
  | fail)
/-- a call: its arguments as data -/
local macro_rules | `(tactic| walk_at "c") => `(tactic| (refine' wspE ?q1 ?z9; (case q1 => walk_at "as")))
local macro_rules | `(tactic| walk_at "cx") => `(tactic| (refine' wspX ?q1 ?z9; (case q1 => walk_at "as")))
local macro_rules | `(tactic| walk_at "al") => `(tactic| first
  | exact AsL.nil
  | (apply AsL.dat; walk_at "al")
  | (apply AsL.own; walk_at "al")
  | (apply AsL.cel (Nat.ne_of_beq_eq_false rfl) rfl; walk_at "al")
  | fail)
/-- a call that is lent a cell -/
local macro_rules | `(tactic| walk_at "c1") => `(tactic| (refine' wsp1 ?q1 ?q2 ?q3 ?z9; (case q1 => rfl); (case q2 => rfl); (case q3 => rfl)))
local macro_rules | `(tactic| walk_at "c2") => `(tactic| (refine' wsp2 ?q1 ?q2 ?q3 ?z9; (case q1 => rfl); (case q2 => rfl); (case q3 => walk_at "al")))
local macro_rules | `(tactic| walk_at "cd") => `(tactic| (refine' wspD ?q1 ?q2 ?z9; (case q2 => walk_at "al"); (case q1 => rfl)))
/-- one step by data -/
local macro_rules | `(tactic| walk_at "d") => `(tactic| first
  | with_reducible refine ws_seq ?_
  | with_reducible refine ws_asg ?_
  | with_reducible refine ws_ret ?_
  | with_reducible refine ws_if ?_
  | with_reducible refine ws_drop ?_
  | with_reducible refine ws_par ?_
  | with_reducible refine ws_next ?_
  | with_reducible refine ws_retN ?_
  | with_reducible refine ws_break ?_
  | with_reducible refine ws_cont ?_
  | with_reducible refine ws_for ?_
  | ((with_reducible refine' we_var ?v1 ?z9); (case v1 => exact rfl))
  | with_reducible refine we_ci ?_
  | with_reducible refine we_cs ?_
  | with_reducible refine we_cn ?_
  | with_reducible refine we_cb ?_
  | with_reducible refine we_ct ?_
  | with_reducible refine we_op ?_
  | with_reducible refine we_un ?_
  | with_reducible refine we_tCB ?_
  | with_reducible refine wa_nil ?_
  | with_reducible refine wa_cons ?_
  | with_reducible refine we_andV ?_
  | with_reducible refine we_orV ?_
  | with_reducible refine we_notV ?_
  | with_reducible refine we_if ?_
  | with_reducible refine wt_test ?_
  | with_reducible refine wt_B ?_
  | with_reducible refine wt_and ?_
  | with_reducible refine wt_or ?_
  | with_reducible refine wt_not ?_
  | with_reducible refine wt_yes ?_
  | with_reducible refine wt_tru ?_
  | with_reducible refine we_tup ?_
  | with_reducible refine we_lst ?_
  | with_reducible refine we_call ?_
  | with_reducible refine we_callS ?_
  | with_reducible refine wo_none ?_
  | with_reducible refine wo_some ?_
  | with_reducible refine wi_rng1 ?_
  | with_reducible refine wi_rng2 ?_
  | with_reducible refine wg_name ?_
  | with_reducible refine wg_sub ?_
  | with_reducible refine wgs_nil ?_
  | with_reducible refine wgs_cons ?_
  | with_reducible refine wgs_consM ?_
  | with_reducible refine wgs_nilM ?_
  | with_reducible refine wr_I0i ?_
  | with_reducible refine wr_I0b ?_
  | with_reducible refine wr_isN ?_
  | with_reducible refine wr_notN ?_
  | with_reducible refine wr_isB ?_
  | with_reducible refine wr_isnotB ?_
  | (with_reducible refine wu_neg ?_)
  | with_reducible refine wc_abs ?_
  | ((with_reducible refine' wr_eq ?v1 ?z9); (case v1 => exact rfl))
  | ((with_reducible refine' wr_ne ?v1 ?z9); (case v1 => exact rfl))
  | ((with_reducible refine' we_lc ?v0 ?z9); (case v0 => walk_at "on"))
  | ((with_reducible refine' wm_append ?v0 ?v1 ?v2 ?z9); (case v0 => walk_at "fz"); (case v1 => exact rfl))
  | refine we_bm ?_
  | refine we_bm0 ?_
  | refine we_slL ?_
  | refine wi_list ?_
  | refine wi_tup ?_
  | ((refine' wg_tup ?v1 ?z9); (case v1 => exact rfl))
  | ((refine' wr_ixT ?v1 ?z9); (case v1 => exact rfl))
  | ((refine' wr_ixL ?v0 ?v1 ?z9); (case v0 => walk_at "il"); (case v1 => exact rfl))
  | refine wc_lenT ?_
  | ((refine' wc_lenL ?v0 ?z9); (case v0 => walk_at "il"))
  | ((refine' wc_isi ?v0 ?v1 ?z9); (case v0 => simp); (case v1 => exact rfl))
  | ((refine' wc_isiC ?v0 ?v1 ?z9); (case v0 => simp); (case v1 => exact rfl))
  | ((refine' wc_list ?v0 ?z9); (case v0 => walk_at "il"))
  | refine wc_listT ?_
  | ((refine' wc_tuple ?v0 ?z9); (case v0 => walk_at "il"))
  | (first | refine ⟨⟨_, _, rfl, rfl, rfl⟩, ?_⟩ | refine ⟨⟨_, _, rfl, rfl, fun z => by cases z⟩, ?_⟩ | fail)
  | ((with_reducible refine' frz_in ?v0 ?v1 ?z9); (case v0 => walk_at "fz"); (case v1 => exact rfl))
  | ((with_reducible refine' il_in ?v0 ?z9); (case v0 => walk_at "il"))
  | ((with_reducible refine' lc_in ?v0 ?v1 ?v2 ?z9); (case v0 => walk_at "fz"); (case v1 => exact rfl))
  | (refine ⟨_, rfl, ?_⟩)
  | (refine ⟨_, _, rfl, ?_⟩)
  | fail)
/-- steps, and ifs whose test is told -/
local macro_rules | `(tactic| walk_at "D") => `(tactic| repeat (first
  | walk_at "d"
  | refine ifT rfl ?_
  | refine ifF rfl ?_))
/-- the environment written out -/
local macro_rules | `(tactic| walk_at "nrm") => `(tactic| first | (dsimp only [En.put, En.add, En.cell, List.set_cons_zero, List.set_cons_succ, List.cons_append, List.nil_append, List.length_cons, List.length_nil, Nat.zero_add, Nat.reduceAdd]) | skip)

/-- .. with what was frozen and forgotten -/
local macro_rules | `(tactic| walk_at "nr2") => `(tactic| first | (dsimp only [En.start, En.put, En.add, En.cell, En.frz, En.frzD, En.clr, frzA_d, frzA_c, mapC, mapN, Option.map_some, Option.map_none, List.set_cons_zero, List.set_cons_succ, List.cons_append, List.nil_append, List.length_cons, List.length_nil, Nat.zero_add, Nat.reduceAdd, Nat.reduceSub, List.replicate_succ, List.replicate_zero, ↓reduceIte, Nat.reduceEqDiff, reduceCtorEq]) | skip)
section
variable {P : Program} {w : World} {K : PySem.W.Frag} {mg : Str → Option Value} {base : Heap}
/-! ### the law's own figures and fractions -/
def wCell : PW0 := fun xs cs post _ => ∃ (ns : List Int) (k : Int), xs = [.dat (.scr (ns.map D.int)), .dat (.int k)] ∧ cs = [] ∧ 0 ≤ k ∧ ∀ n, post (.dat (.int n)) []
theorem ok_l_cell_at (T : Txt K mg) : FnOk P w K mg base CX0 1 T.a_l_cell_at T.d_l_cell_at ["_law_script", "_law_k"] (spG K wCell) := by
  refine T.F_l_cell_at.ok sc_l_cell_at (fun vs H Q E h => spG_len h fun xs cs post exc ⟨a, b, e, _⟩ => by rw [e]; rfl) (fun cdv A outer s H vs Q E hr h => ⟨_, (pss_cons (ps_if (pt_cmpR op_lt (pv 1) (pe_callB call_len_seq (by rfl) T.m_len (by decide +kernel) (pa_cons (pv 0) pa_nil)) (nomark _)) (pss_one (ps_ret (pe_ix ix_list (pv 0) (pv 1) (fun _ _ => rfl)))) pss_nil)
      (pss_one (ps_ret pe_int))), enter h fun F xs cs post hE hw => ?_⟩)
  obtain ⟨ns, k, rfl, rfl, k0, q⟩ := hw
  walk_at "D"
  refine ifC (fun c => ?_) (fun c => ?_)
  · have c := of_decide_eq_true c
    rw [List.length_map] at c
    walk_at "D"
    have hl : k.toNat < ns.length := by omega
    have ha : atI (ns.map D.int) k = some (D.int ns[k.toNat]) := by
      have e : ((k.toNat : Nat) : Int) = k := by omega
      have := atI_nat (xs := ns.map D.int) (j := k.toNat) (v := D.int ns[k.toNat]) (by rw [List.getElem?_map, List.getElem?_eq_getElem hl]; rfl)
      rw [e] at this
      exact this
    refine wr_ixL (.scr _) ha ?_
    exact fin_dat rfl (q _)
  · walk_at "D"
    exact fin_dat rfl (q _)
/-! ### the law's own sums -/
def wGcdA : PW0 := fun xs cs post _ => ∃ a b : Int, xs = [.dat (.int a), .dat (.int b)] ∧ cs = [] ∧ post (.dat (.int ((Int.gcd a b : Nat) : Int))) []
theorem ok_l_shared (T : Txt K mg) : FnOk P w K mg base CX0 1 T.a_l_shared T.d_l_shared ["_law_one", "_law_other"] (spG K wGcdA) := by
  refine T.F_l_shared.ok sc_l_shared (fun vs H Q E h => spG_len h fun xs cs post exc ⟨a, b, e, _⟩ => by rw [e]; rfl) (fun cdv A outer s H vs Q E hr h => ⟨_, (pss_cons (ps_set (i := 0) sc_l_shared.nd rfl (Or.inl rfl) (pe_callB call_abs (by rfl) T.m_abs (by decide +kernel) (pa_cons (pv 0) pa_nil)))
      (pss_cons (ps_set (i := 1) sc_l_shared.nd rfl (Or.inl rfl) (pe_callB call_abs (by rfl) T.m_abs (by decide +kernel) (pa_cons (pv 1) pa_nil)))
      (pss_cons (ps_while PassesOwn.never (pt_cmpR op_gt (pv 1) pe_int (nomark _)) (pss_one (ps_par (i := 0) (j := 1) (by rfl) sc_l_shared.nd rfl rfl (by decide) rfl rfl (pa_cons (pv 1) (pa_cons (pe_op op_mod (pv 0) (pv 1)) pa_nil)) (by rfl))))
      (pss_one (ps_ret (pv 0)))))), enter h fun F xs cs post hE hw => ?_⟩)
  obtain ⟨a, b, rfl, rfl, q⟩ := hw
  walk_at "D"
  rw [← gcd_abs] at q
  have a0 : 0 ≤ (if a < 0 then -a else a) := by split <;> omega
  have b0 : 0 ≤ (if b < 0 then -b else b) := by split <;> omega
  generalize (if a < 0 then -a else a) = a at *
  generalize (if b < 0 then -b else b) = b at *
  refine ws_while (fun m ρ1 => ∃ x y : Int, ρ1 = ⟨[some (.dat (.int x)), some (.dat (.int y))], []⟩ ∧ 0 ≤ x ∧ 0 ≤ y ∧ Int.gcd x y = Int.gcd a b ∧ m = y.toNat) b.toNat ⟨a, b, rfl, a0, b0, rfl, rfl⟩ ?_
  rintro m ρ1 ⟨x, y, rfl, x0, y0, e, rfl⟩
  walk_at "D"
  refine ifC (fun c => ?_) (fun c => ?_)
  · have c := of_decide_eq_true c
    walk_at "D"
    refine wr_Ii c ?_
    walk_at "D"
    have := Int.emod_lt_of_pos x c
    have := Int.emod_nonneg x (show y ≠ 0 by omega)
    exact ⟨_, by omega, y, x % y, rfl, y0, by omega, (gcd_turn x0 c).trans e, rfl⟩
  · have c := of_decide_eq_false c
    have y1 : y = 0 := by omega
    subst y1
    rw [← e] at q
    walk_at "D"
    have e2 : ((Int.gcd x 0 : Nat) : Int) = x := by
      rw [Int.gcd_zero_right]
      omega
    rw [e2] at q
    exact ⟨_, .dat _, rfl, q⟩
def wLowest : PW0 := fun xs cs post _ => ∃ t b : Int, xs = [.dat (.int t), .dat (.int b)] ∧ cs = [] ∧ 0 < b ∧ Sm 8000 b ∧ post (.dat (fD (Rat.divInt t b))) []
theorem ok_l_lowest (T : Txt K mg) : FnOk P w K mg base CX0 2 T.a_l_lowest T.d_l_lowest ["_law_top", "_law_bottom"] (spG K wLowest) := by
  refine T.F_l_lowest.ok sc_l_lowest (fun vs H Q E h => spG_len h fun xs cs post exc ⟨a, b, e, _⟩ => by rw [e]; rfl) (fun cdv A outer s H vs Q E hr h => ⟨_, (pss_cons (ps_set (i := 2) sc_l_lowest.nd rfl (Or.inl rfl) (pe_call (ok_l_shared T) (hr.mono (by decide)) (by rfl) T.g_l_shared T.F_l_shared.kp T.b_l_shared .nil pass0 (pa_cons (pv 0) (pa_cons (pv 1) pa_nil))))
      (pss_one (ps_ret (pe_tup (pa_cons (pe_op op_fdivZ (pv 0) (pv 2)) (pa_cons (pe_op op_fdivZ (pv 1) (pv 2)) pa_nil)))))), enter h fun F xs cs post hE hw => ?_⟩)
  obtain ⟨t, b, rfl, rfl, b0, bs, q⟩ := hw
  have bn : b ≠ 0 := by omega
  have ed : dvs t b = ((Int.gcd t b : Nat) : Int) := by unfold dvs; rw [if_neg (by omega)]
  have cd : CDivZ 0 ((Int.gcd t b : Nat) : Int) := ed ▸ ⟨dvs_ne bn, dvs_sm bn bs⟩
  walk_at "D"
  walk_at "c"
  refine ⟨t, b, rfl, rfl, rfl, ?_⟩
  walk_at "D"
  refine wr_Ii cd ?_
  walk_at "D"
  refine wr_Ii cd ?_
  walk_at "D"
  rw [← ed, frac_num bn, frac_den bn]
  exact fin_dat rfl q
theorem den_prod {a c : Rat} : 0 < (a.den : Int) * (c.den : Int) := Int.mul_pos (den_pos a) (den_pos c)
theorem ok_l_plus (T : Txt K mg) : FnOk P w K mg base CX0 3 T.a_l_plus T.d_l_plus ["_law_one", "_law_other"] (spG K (wBin HAdd.hAdd)) := by
  refine T.F_l_plus.ok sc_l_plus (fun vs H Q E h => spG_len h fun xs cs post exc ⟨a, b, e, _⟩ => by rw [e]; rfl) (fun cdv A outer s H vs Q E hr h => ⟨_, (pss_one (ps_ret (pe_call (ok_l_lowest T) (hr.mono (by decide)) (by rfl) T.g_l_lowest T.F_l_lowest.kp T.b_l_lowest .nil pass0 (pa_cons (pe_op op_add (pe_op op_mulW (pe_ix ix_tup (pv 0) pe_int (fun _ _ => rfl)) (pe_ix ix_tup (pv 1) pe_int (fun _ _ => rfl))) (pe_op op_mulW (pe_ix ix_tup (pv 1) pe_int (fun _ _ => rfl)) (pe_ix ix_tup (pv 0) pe_int (fun _ _ => rfl)))) (pa_cons (pe_op op_mulW (pe_ix ix_tup (pv 0) pe_int (fun _ _ => rfl)) (pe_ix ix_tup (pv 1) pe_int (fun _ _ => rfl))) pa_nil))))), enter h fun F xs cs post hE hw => ?_⟩)
  obtain ⟨a, c, rfl, rfl, s1, s2, q⟩ := hw
  walk_at "D"
  refine wr_Ii (Sm.mulok s1.1 s2.2 (by decide) (by decide)) ?_
  walk_at "D"
  refine wr_Ii (Sm.mulok s2.1 s1.2 (by decide) (by decide)) ?_
  walk_at "D"
  refine wr_Ii (Sm.mulok s1.2 s2.2 (by decide) (by decide)) ?_
  walk_at "D"
  walk_at "c"
  refine ⟨_, _, rfl, rfl, den_prod, s1.2.mul s2.2, rfl, ?_⟩
  rw [add_is]
  exact fin_dat rfl q
theorem ok_l_times (T : Txt K mg) : FnOk P w K mg base CX0 3 T.a_l_times T.d_l_times ["_law_one", "_law_other"] (spG K (wBin HMul.hMul)) := by
  refine T.F_l_times.ok sc_l_times (fun vs H Q E h => spG_len h fun xs cs post exc ⟨a, b, e, _⟩ => by rw [e]; rfl) (fun cdv A outer s H vs Q E hr h => ⟨_, (pss_one (ps_ret (pe_call (ok_l_lowest T) (hr.mono (by decide)) (by rfl) T.g_l_lowest T.F_l_lowest.kp T.b_l_lowest .nil pass0 (pa_cons (pe_op op_mulW (pe_ix ix_tup (pv 0) pe_int (fun _ _ => rfl)) (pe_ix ix_tup (pv 1) pe_int (fun _ _ => rfl))) (pa_cons (pe_op op_mulW (pe_ix ix_tup (pv 0) pe_int (fun _ _ => rfl)) (pe_ix ix_tup (pv 1) pe_int (fun _ _ => rfl))) pa_nil))))), enter h fun F xs cs post hE hw => ?_⟩)
  obtain ⟨a, c, rfl, rfl, s1, s2, q⟩ := hw
  walk_at "D"
  refine wr_Ii (Sm.mulok s1.1 s2.1 (by decide) (by decide)) ?_
  walk_at "D"
  refine wr_Ii (Sm.mulok s1.2 s2.2 (by decide) (by decide)) ?_
  walk_at "D"
  walk_at "c"
  refine ⟨_, _, rfl, rfl, den_prod, s1.2.mul s2.2, rfl, ?_⟩
  rw [mul_is]
  exact fin_dat rfl q
end
/-- arguments as data -/
local macro_rules | `(tactic| walk_at "as") => `(tactic| first
  | exact AsD.nil
  | (apply AsD.dat; walk_at "as")
  | (apply AsD.cel rfl; walk_at "as")
  | fail)
local macro_rules | `(tactic| walk_at "fz") => `(tactic| first
  | exact Frz.nil
  | (apply Frz.dat; walk_at "fz")
  | (apply Frz.cel rfl; walk_at "fz")
  | (apply Frz.ins rfl; walk_at "fz")
  | fail)
local macro_rules | `(tactic| walk_at "il") => `(tactic| first
  | exact IsL.dat _
  | exact IsL.cel rfl
  | exact IsL.scr _
  | fail)
local macro_rules | `(tactic| walk_at "od") => `(tactic| first
  | exact OfD.dat _
  | exact OfD.cel rfl
  | fail)
local macro_rules | `(tactic| walk_at "on") => `(tactic| first
  | exact only_name (by simp)
  | (refine only_tup ?_; repeat first | exact onlys_nil | refine onlys_cons (by simp) ?_)
  | fail)
/-- a call: its arguments as data -/
local macro_rules | `(tactic| walk_at "c") => `(tactic| (refine' wspE ?q1 ?z9; (case q1 => walk_at "as")))
local macro_rules | `(tactic| walk_at "cx") => `(tactic| (refine' wspX ?q1 ?z9; (case q1 => walk_at "as")))
local macro_rules | `(tactic| walk_at "al") => `(tactic| first
  | exact AsL.nil
  | (apply AsL.dat; walk_at "al")
  | (apply AsL.own; walk_at "al")
  | (apply AsL.cel (Nat.ne_of_beq_eq_false rfl) rfl; walk_at "al")
  | fail)
/-- a call that is lent a cell -/
local macro_rules | `(tactic| walk_at "c1") => `(tactic| (refine' wsp1 ?q1 ?q2 ?q3 ?z9; (case q1 => rfl); (case q2 => rfl); (case q3 => rfl)))
local macro_rules | `(tactic| walk_at "c2") => `(tactic| (refine' wsp2 ?q1 ?q2 ?q3 ?z9; (case q1 => rfl); (case q2 => rfl); (case q3 => walk_at "al")))
local macro_rules | `(tactic| walk_at "cd") => `(tactic| (refine' wspD ?q1 ?q2 ?z9; (case q2 => walk_at "al"); (case q1 => rfl)))
/-- one step by data -/
local macro_rules | `(tactic| walk_at "d") => `(tactic| first
  | with_reducible refine ws_seq ?_
  | with_reducible refine ws_asg ?_
  | with_reducible refine ws_ret ?_
  | with_reducible refine ws_if ?_
  | with_reducible refine ws_drop ?_
  | with_reducible refine ws_par ?_
  | with_reducible refine ws_next ?_
  | with_reducible refine ws_retN ?_
  | with_reducible refine ws_break ?_
  | with_reducible refine ws_cont ?_
  | with_reducible refine ws_for ?_
  | ((with_reducible refine' we_var ?v1 ?z9); (case v1 => exact rfl))
  | with_reducible refine we_ci ?_
  | with_reducible refine we_cs ?_
  | with_reducible refine we_cn ?_
  | with_reducible refine we_cb ?_
  | with_reducible refine we_ct ?_
  | with_reducible refine we_op ?_
  | with_reducible refine we_un ?_
  | with_reducible refine we_tCB ?_
  | with_reducible refine wa_nil ?_
  | with_reducible refine wa_cons ?_
  | with_reducible refine we_andV ?_
  | with_reducible refine we_orV ?_
  | with_reducible refine we_notV ?_
  | with_reducible refine we_if ?_
  | with_reducible refine wt_test ?_
  | with_reducible refine wt_B ?_
  | with_reducible refine wt_and ?_
  | with_reducible refine wt_or ?_
  | with_reducible refine wt_not ?_
  | with_reducible refine wt_yes ?_
  | with_reducible refine wt_tru ?_
  | with_reducible refine we_tup ?_
  | with_reducible refine we_lst ?_
  | with_reducible refine we_call ?_
  | with_reducible refine we_callS ?_
  | with_reducible refine wo_none ?_
  | with_reducible refine wo_some ?_
  | with_reducible refine wi_rng1 ?_
  | with_reducible refine wi_rng2 ?_
  | with_reducible refine wg_name ?_
  | with_reducible refine wg_sub ?_
  | with_reducible refine wgs_nil ?_
  | with_reducible refine wgs_cons ?_
  | with_reducible refine wgs_consM ?_
  | with_reducible refine wgs_nilM ?_
  | with_reducible refine wr_I0i ?_
  | with_reducible refine wr_I0b ?_
  | with_reducible refine wr_isN ?_
  | with_reducible refine wr_notN ?_
  | with_reducible refine wr_isB ?_
  | with_reducible refine wr_isnotB ?_
  | (with_reducible refine wu_neg ?_)
  | with_reducible refine wc_abs ?_
  | ((with_reducible refine' wr_eq ?v1 ?z9); (case v1 => exact rfl))
  | ((with_reducible refine' wr_ne ?v1 ?z9); (case v1 => exact rfl))
  | ((with_reducible refine' we_lc ?v0 ?z9); (case v0 => walk_at "on"))
  | ((with_reducible refine' wm_append ?v0 ?v1 ?v2 ?z9); (case v0 => walk_at "fz"); (case v1 => exact rfl))
  | refine we_bm ?_
  | refine we_bm0 ?_
  | refine we_slL ?_
  | refine wi_list ?_
  | refine wi_tup ?_
  | ((refine' wg_tup ?v1 ?z9); (case v1 => exact rfl))
  | ((refine' wr_ixT ?v1 ?z9); (case v1 => exact rfl))
  | ((refine' wr_ixL ?v0 ?v1 ?z9); (case v0 => walk_at "il"); (case v1 => exact rfl))
  | refine wc_lenT ?_
  | ((refine' wc_lenL ?v0 ?z9); (case v0 => walk_at "il"))
  | ((refine' wc_isi ?v0 ?v1 ?z9); (case v0 => simp); (case v1 => exact rfl))
  | ((refine' wc_isiC ?v0 ?v1 ?z9); (case v0 => simp); (case v1 => exact rfl))
  | ((refine' wc_list ?v0 ?z9); (case v0 => walk_at "il"))
  | refine wc_listT ?_
  | ((refine' wc_tuple ?v0 ?z9); (case v0 => walk_at "il"))
  | (first | refine ⟨⟨_, _, rfl, rfl, rfl⟩, ?_⟩ | refine ⟨⟨_, _, rfl, rfl, fun z => by cases z⟩, ?_⟩ | fail)
  | ((with_reducible refine' frz_in ?v0 ?v1 ?z9); (case v0 => walk_at "fz"); (case v1 => exact rfl))
  | ((with_reducible refine' il_in ?v0 ?z9); (case v0 => walk_at "il"))
  | ((with_reducible refine' lc_in ?v0 ?v1 ?v2 ?z9); (case v0 => walk_at "fz"); (case v1 => exact rfl))
  | (refine ⟨_, rfl, ?_⟩)
  | (refine ⟨_, _, rfl, ?_⟩)
  | fail)
/-- steps, and ifs whose test is told -/
local macro_rules | `(tactic| walk_at "D") => `(tactic| repeat (first
  | walk_at "d"
  | refine ifT rfl ?_
  | refine ifF rfl ?_))
/-- the environment written out -/
local macro_rules | `(tactic| walk_at "nrm") => `(tactic| first | (dsimp only [En.put, En.add, En.cell, List.set_cons_zero, List.set_cons_succ, List.cons_append, List.nil_append, List.length_cons, List.length_nil, Nat.zero_add, Nat.reduceAdd]) | skip)

/-- .. with what was frozen and forgotten -/
local macro_rules | `(tactic| walk_at "nr2") => `(tactic| first | (dsimp only [En.start, En.put, En.add, En.cell, En.frz, En.frzD, En.clr, frzA_d, frzA_c, mapC, mapN, Option.map_some, Option.map_none, List.set_cons_zero, List.set_cons_succ, List.cons_append, List.nil_append, List.length_cons, List.length_nil, Nat.zero_add, Nat.reduceAdd, Nat.reduceSub, List.replicate_succ, List.replicate_zero, ↓reduceIte, Nat.reduceEqDiff, reduceCtorEq]) | skip)
section
variable {P : Program} {w : World} {K : PySem.W.Frag} {mg : Str → Option Value} {base : Heap}
/-! ### drawn moments and edits -/
theorem divInt_nonneg {t b : Int} (h : 0 ≤ t) (k : 0 < b) : 0 ≤ Rat.divInt t b := Rat.divInt_nonneg h (Int.le_of_lt k)
theorem sm_lt {n : Nat} {x : Int} (h0 : 0 ≤ x) (h1 : x < 2 ^ n) : Sm n x := by
  unfold Sm
  have e : ((2 ^ n : Nat) : Int) = 2 ^ n := by rw [Int.natCast_pow]; rfl
  omega
/-- a drawn amount: how great its numbers are -/
def Am (q : Rat) : Prop := 0 ≤ q ∧ Sm 50 q.num ∧ Sm 20 (q.den : Int)
theorem am_div {t b : Int} (t0 : 0 ≤ t) (b0 : 0 < b) (h1 : t < 2 ^ 50) (h2 : b < 2 ^ 20) : Am (Rat.divInt t b) := ⟨divInt_nonneg t0 b0, num_sm (by omega) (sm_lt t0 h1), den_sm (by omega) (sm_lt (by omega) h2)⟩
theorem Am.sz {q : Rat} (h : Am q) : Sz 50 q := ⟨h.2.1, h.2.2.mono (by decide)⟩
def wAmount : PW0 := fun xs cs post _ => xs = [.cel 0] ∧ cs = [.drw] ∧ ∀ q : Rat, Am q → post (.dat (fD q)) [.drw]
theorem ok_l_amount (T : Txt K mg) : FnOk P w K mg base CX0 3 T.a_l_amount T.d_l_amount ["_law_state"] (spG K wAmount) := by
  refine T.F_l_amount.ok sc_l_amount (fun vs H Q E h => spG_len h fun xs cs post exc ⟨e, _⟩ => by rw [e]; rfl) (fun cdv A outer s H vs Q E hr h => ⟨_, (pss_cons (ps_set (i := 1) sc_l_amount.nd rfl (Or.inl rfl) (pe_call (ok_l_digit T) (hr.mono (by decide)) (by rfl) T.g_l_digit T.F_l_digit.kp T.b_l_digit .nil pass0 (pa_cons (pv 0) (pa_cons pe_int pa_nil))))
      (pss_cons (ps_set (i := 2) sc_l_amount.nd rfl (Or.inl rfl) (pe_call (ok_l_lowest T) (hr.mono (by decide)) (by rfl) T.g_l_lowest T.F_l_lowest.kp T.b_l_lowest .nil pass0 (pa_cons (pe_call (ok_l_digit T) (hr.mono (by decide)) (by rfl) T.g_l_digit T.F_l_digit.kp T.b_l_digit .nil pass0 (pa_cons (pv 0) (pa_cons pe_int pa_nil))) (pa_cons (pe_op op_add pe_int (pe_call (ok_l_digit T) (hr.mono (by decide)) (by rfl) T.g_l_digit T.F_l_digit.kp T.b_l_digit .nil pass0 (pa_cons (pv 0) (pa_cons pe_int pa_nil)))) pa_nil))))
      (pss_cons (ps_set (i := 3) sc_l_amount.nd rfl (Or.inl rfl) (pe_call (ok_l_lowest T) (hr.mono (by decide)) (by rfl) T.g_l_lowest T.F_l_lowest.kp T.b_l_lowest .nil pass0 (pa_cons (pe_op op_add (pe_op op_mulW (pe_call (ok_l_digit T) (hr.mono (by decide)) (by rfl) T.g_l_digit T.F_l_digit.kp T.b_l_digit .nil pass0 (pa_cons (pv 0) (pa_cons (pe_op op_pow pe_int pe_int) pa_nil))) (pe_op op_pow pe_int pe_int)) (pe_call (ok_l_digit T) (hr.mono (by decide)) (by rfl) T.g_l_digit T.F_l_digit.kp T.b_l_digit .nil pass0 (pa_cons (pv 0) (pa_cons (pe_op op_pow pe_int pe_int) pa_nil)))) (pa_cons pe_int pa_nil))))
      (pss_cons (ps_set (i := 4) sc_l_amount.nd rfl (Or.inl rfl) (pe_call (ok_l_lowest T) (hr.mono (by decide)) (by rfl) T.g_l_lowest T.F_l_lowest.kp T.b_l_lowest .nil pass0 (pa_cons (pe_call (ok_l_digit T) (hr.mono (by decide)) (by rfl) T.g_l_digit T.F_l_digit.kp T.b_l_digit .nil pass0 (pa_cons (pv 0) (pa_cons (pe_op op_pow pe_int pe_int) pa_nil))) (pa_cons pe_int pa_nil))))
      (pss_one (ps_ret (pe_ix ix_list (pe_lst (pa_cons (pv 2) (pa_cons (pv 2) (pa_cons (pe_tup (pa_cons (pe_call (ok_l_digit T) (hr.mono (by decide)) (by rfl) T.g_l_digit T.F_l_digit.kp T.b_l_digit .nil pass0 (pa_cons (pv 0) (pa_cons pe_int pa_nil))) (pa_cons pe_int pa_nil))) (pa_cons (pe_tup (pa_cons pe_int (pa_cons pe_int pa_nil))) (pa_cons (pv 2) (pa_cons (pv 4) (pa_cons (pv 3) pa_nil)))))))) (pv 1) (fun _ _ => rfl)))))))), enter h fun F xs cs post hE hw => ?_⟩)
  obtain ⟨rfl, rfl, q⟩ := hw
  walk_at "D"
  refine wsp_digit rfl (by decide) (by decide) fun w w0 w1 => ?_
  walk_at "D"
  refine wsp_digit rfl (by decide) (by decide) fun a a0 a1 => ?_
  walk_at "D"
  refine wsp_digit rfl (by decide) (by decide) fun b b0 b1 => ?_
  walk_at "D"
  walk_at "c"
  refine ⟨_, _, rfl, rfl, by omega, (sm_lt (n := 30) (by omega) (by omega)).mono (by decide), rfl, ?_⟩
  have p1 : Am (Rat.divInt a (1 + b)) := am_div a0 (by omega) (by omega) (by omega)
  generalize Rat.divInt a (1 + b) = small at *
  walk_at "D"
  refine wr_Ii ⟨by decide, by decide, by decide⟩ ?_
  walk_at "D"
  refine wsp_digit rfl (by decide) (by decide) fun c c0 c1 => ?_
  have c1 : c < 1000000000 := by rw [show (10 : Int) ^ (9 : Int).toNat = 1000000000 from by decide] at c1; exact c1
  walk_at "D"
  refine wr_Ii ⟨by decide, by decide, by decide⟩ ?_
  walk_at "D"
  refine wr_Ii (Sm.mulok (sm_lt (n := 30) c0 (by omega)) (sm_lt (n := 30) (by decide) (by decide)) (by decide) (by decide)) ?_
  walk_at "D"
  refine wr_Ii ⟨by decide, by decide, by decide⟩ ?_
  walk_at "D"
  refine wsp_digit rfl (by decide) (by decide) fun d d0 d1 => ?_
  have d1 : d < 1000000 := by rw [show (10 : Int) ^ (6 : Int).toNat = 1000000 from by decide] at d1; exact d1
  rw [show (10 : Int) ^ (6 : Int).toNat = 1000000 from by decide]
  walk_at "D"
  walk_at "c"
  refine ⟨_, _, rfl, rfl, by decide, (sm_lt (n := 30) (by decide) (by decide)).mono (by decide), rfl, ?_⟩
  have p2 : Am (Rat.divInt (c * 1000000 + d) 1000003) := am_div (by omega) (by decide) (by omega) (by decide)
  generalize Rat.divInt (c * 1000000 + d) 1000003 = great at *
  walk_at "D"
  refine wr_Ii ⟨by decide, by decide, by decide⟩ ?_
  walk_at "D"
  refine wsp_digit rfl (by decide) (by decide) fun f f0 f1 => ?_
  have f1 : f < 1000000000 := by rw [show (10 : Int) ^ (9 : Int).toNat = 1000000000 from by decide] at f1; exact f1
  walk_at "D"
  walk_at "c"
  refine ⟨_, _, rfl, rfl, by decide, (sm_lt (n := 30) (by decide) (by decide)).mono (by decide), rfl, ?_⟩
  have p3 : Am (Rat.divInt f 997) := am_div (by omega) (by decide) (by omega) (by decide)
  generalize Rat.divInt f 997 = far at *
  walk_at "D"
  refine wsp_digit rfl (by decide) (by decide) fun g g0 g1 => ?_
  walk_at "D"
  refine wr_ixA (by walk_at "il") w0 (by simp only [List.length]; omega) ?_
  have p4 : Am (g : Rat) := ⟨num_nonneg.mp (show 0 ≤ (g : Rat).num from g0), sm_lt (show 0 ≤ (g : Rat).num from g0) (show g < 2 ^ 50 by omega), (show Sm 20 (1 : Int) from sm_lt (by decide) (by decide))⟩
  have e4 : D.tup [.int g, .int 1] = fD (g : Rat) := rfl
  rw [e4]
  intro x m
  simp only [List.mem_cons, List.not_mem_nil, or_false] at m
  rcases m with rfl | rfl | rfl | rfl | rfl | rfl | rfl
  · exact fin_dat rfl (q _ p1)
  · exact fin_dat rfl (q _ p1)
  · exact fin_dat rfl (q _ p4)
  · exact fin_dat rfl (q 0 ⟨by decide, sm_lt (by decide) (by decide), sm_lt (by decide) (by decide)⟩)
  · exact fin_dat rfl (q _ p1)
  · exact fin_dat rfl (q _ p3)
  · exact fin_dat rfl (q _ p2)
end
/-- arguments as data -/
local macro_rules | `(tactic| walk_at "as") => `(tactic| first
  | exact AsD.nil
  | (apply AsD.dat; walk_at "as")
  | (apply AsD.cel rfl; walk_at "as")
  | fail)
local macro_rules | `(tactic| walk_at "fz") => `(tactic| first
  | exact Frz.nil
  | (apply Frz.dat; walk_at "fz")
  | (apply Frz.cel rfl; walk_at "fz")
  | (apply Frz.ins rfl; walk_at "fz")
  | fail)
local macro_rules | `(tactic| walk_at "il") => `(tactic| first
  | exact IsL.dat _
  | exact IsL.cel rfl
  | exact IsL.scr _
  | fail)
local macro_rules | `(tactic| walk_at "od") => `(tactic| first
  | exact OfD.dat _
  | exact OfD.cel rfl
  | fail)
local macro_rules | `(tactic| walk_at "on") => `(tactic| first
  | exact only_name (by simp)
  | (refine only_tup ?_; repeat first | exact onlys_nil | refine onlys_cons (by simp) ?_)
  | fail)
/-- a call: its arguments as data -/
local macro_rules | `(tactic| walk_at "c") => `(tactic| (refine' wspE ?q1 ?z9; (case q1 => walk_at "as")))
local macro_rules | `(tactic| walk_at "cx") => `(tactic| (refine' wspX ?q1 ?z9; (case q1 => walk_at "as")))
local macro_rules | `(tactic| walk_at "al") => `(tactic| first
  | exact AsL.nil
  | (apply AsL.dat; walk_at "al")
  | (apply AsL.own; walk_at "al")
  | (apply AsL.cel (Nat.ne_of_beq_eq_false rfl) rfl; walk_at "al")
  | fail)
/-- a call that is lent a cell -/
local macro_rules | `(tactic| walk_at "c1") => `(tactic| (refine' wsp1 ?q1 ?q2 ?q3 ?z9; (case q1 => rfl); (case q2 => rfl); (case q3 => rfl)))
local macro_rules | `(tactic| walk_at "c2") => `(tactic| (refine' wsp2 ?q1 ?q2 ?q3 ?z9; (case q1 => rfl); (case q2 => rfl); (case q3 => walk_at "al")))
local macro_rules | `(tactic| walk_at "cd") => `(tactic| (refine' wspD ?q1 ?q2 ?z9; (case q2 => walk_at "al"); (case q1 => rfl)))
/-- one step by data -/
local macro_rules | `(tactic| walk_at "d") => `(tactic| first
  | with_reducible refine ws_seq ?_
  | with_reducible refine ws_asg ?_
  | with_reducible refine ws_ret ?_
  | with_reducible refine ws_if ?_
  | with_reducible refine ws_drop ?_
  | with_reducible refine ws_par ?_
  | with_reducible refine ws_next ?_
  | with_reducible refine ws_retN ?_
  | with_reducible refine ws_break ?_
  | with_reducible refine ws_cont ?_
  | with_reducible refine ws_for ?_
  | ((with_reducible refine' we_var ?v1 ?z9); (case v1 => exact rfl))
  | with_reducible refine we_ci ?_
  | with_reducible refine we_cs ?_
  | with_reducible refine we_cn ?_
  | with_reducible refine we_cb ?_
  | with_reducible refine we_ct ?_
  | with_reducible refine we_op ?_
  | with_reducible refine we_un ?_
  | with_reducible refine we_tCB ?_
  | with_reducible refine wa_nil ?_
  | with_reducible refine wa_cons ?_
  | with_reducible refine we_andV ?_
  | with_reducible refine we_orV ?_
  | with_reducible refine we_notV ?_
  | with_reducible refine we_if ?_
  | with_reducible refine wt_test ?_
  | with_reducible refine wt_B ?_
  | with_reducible refine wt_and ?_
  | with_reducible refine wt_or ?_
  | with_reducible refine wt_not ?_
  | with_reducible refine wt_yes ?_
  | with_reducible refine wt_tru ?_
  | with_reducible refine we_tup ?_
  | with_reducible refine we_lst ?_
  | with_reducible refine we_call ?_
  | with_reducible refine we_callS ?_
  | with_reducible refine wo_none ?_
  | with_reducible refine wo_some ?_
  | with_reducible refine wi_rng1 ?_
  | with_reducible refine wi_rng2 ?_
  | with_reducible refine wg_name ?_
  | with_reducible refine wg_sub ?_
  | with_reducible refine wgs_nil ?_
  | with_reducible refine wgs_cons ?_
  | with_reducible refine wgs_consM ?_
  | with_reducible refine wgs_nilM ?_
  | with_reducible refine wr_I0i ?_
  | with_reducible refine wr_I0b ?_
  | with_reducible refine wr_isN ?_
  | with_reducible refine wr_notN ?_
  | with_reducible refine wr_isB ?_
  | with_reducible refine wr_isnotB ?_
  | (with_reducible refine wu_neg ?_)
  | with_reducible refine wc_abs ?_
  | ((with_reducible refine' wr_eq ?v1 ?z9); (case v1 => exact rfl))
  | ((with_reducible refine' wr_ne ?v1 ?z9); (case v1 => exact rfl))
  | ((with_reducible refine' we_lc ?v0 ?z9); (case v0 => walk_at "on"))
  | ((with_reducible refine' wm_append ?v0 ?v1 ?v2 ?z9); (case v0 => walk_at "fz"); (case v1 => exact rfl))
  | refine we_bm ?_
  | refine we_bm0 ?_
  | refine we_slL ?_
  | refine wi_list ?_
  | refine wi_tup ?_
  | ((refine' wg_tup ?v1 ?z9); (case v1 => exact rfl))
  | ((refine' wr_ixT ?v1 ?z9); (case v1 => exact rfl))
  | ((refine' wr_ixL ?v0 ?v1 ?z9); (case v0 => walk_at "il"); (case v1 => exact rfl))
  | refine wc_lenT ?_
  | ((refine' wc_lenL ?v0 ?z9); (case v0 => walk_at "il"))
  | ((refine' wc_isi ?v0 ?v1 ?z9); (case v0 => simp); (case v1 => exact rfl))
  | ((refine' wc_isiC ?v0 ?v1 ?z9); (case v0 => simp); (case v1 => exact rfl))
  | ((refine' wc_list ?v0 ?z9); (case v0 => walk_at "il"))
  | refine wc_listT ?_
  | ((refine' wc_tuple ?v0 ?z9); (case v0 => walk_at "il"))
  | (first | refine ⟨⟨_, _, rfl, rfl, rfl⟩, ?_⟩ | refine ⟨⟨_, _, rfl, rfl, fun z => by cases z⟩, ?_⟩ | fail)
  | ((with_reducible refine' frz_in ?v0 ?v1 ?z9); (case v0 => walk_at "fz"); (case v1 => exact rfl))
  | ((with_reducible refine' il_in ?v0 ?z9); (case v0 => walk_at "il"))
  | ((with_reducible refine' lc_in ?v0 ?v1 ?v2 ?z9); (case v0 => walk_at "fz"); (case v1 => exact rfl))
  | (refine ⟨_, rfl, ?_⟩)
  | (refine ⟨_, _, rfl, ?_⟩)
  | fail)
/-- steps, and ifs whose test is told -/
local macro_rules | `(tactic| walk_at "D") => `(tactic| repeat (first
  | walk_at "d"
  | refine ifT rfl ?_
  | refine ifF rfl ?_))
/-- the environment written out -/
local macro_rules | `(tactic| walk_at "nrm") => `(tactic| first | (dsimp only [En.put, En.add, En.cell, List.set_cons_zero, List.set_cons_succ, List.cons_append, List.nil_append, List.length_cons, List.length_nil, Nat.zero_add, Nat.reduceAdd]) | skip)

/-- .. with what was frozen and forgotten -/
local macro_rules | `(tactic| walk_at "nr2") => `(tactic| first | (dsimp only [En.start, En.put, En.add, En.cell, En.frz, En.frzD, En.clr, frzA_d, frzA_c, mapC, mapN, Option.map_some, Option.map_none, List.set_cons_zero, List.set_cons_succ, List.cons_append, List.nil_append, List.length_cons, List.length_nil, Nat.zero_add, Nat.reduceAdd, Nat.reduceSub, List.replicate_succ, List.replicate_zero, ↓reduceIte, Nat.reduceEqDiff, reduceCtorEq]) | skip)
section
variable {P : Program} {w : World} {K : PySem.W.Frag} {mg : Str → Option Value} {base : Heap}
/-! ### drawn edits -/
def half : Rat := ⟨1, 2, by decide, by decide⟩
/-- drawn edits: their numbers are parts of one whole -/
structure DrL (n L Q N : Nat) (es : List Ed) : Prop where
  l0 : 0 < L
  q0 : 0 < Q
  n0 : 0 < N
  lb : L ≤ 2 ^ (62 * n)
  qb : Q ≤ 2 ^ (20 * n)
  nb : N ≤ 2 ^ (50 * n)
  all : ∀ e ∈ es, Gv L Q N ((n + 1) * 2 ^ 103) (2 ^ 50) e ∧ e.rate.den * e.span.den ∣ L ∧ e.span ≤ ((2 ^ 53 : Nat) : Rat)
structure DrE (n L Q N L' Q' N' : Nat) (e : Ed) : Prop where
  dl : L ∣ L'
  dq : Q ∣ Q'
  dn : N ∣ N'
  l0 : 0 < L'
  q0 : 0 < Q'
  n0 : 0 < N'
  lb : L' ≤ 2 ^ (62 * (n + 1))
  qb : Q' ≤ 2 ^ (20 * (n + 1))
  nb : N' ≤ 2 ^ (50 * (n + 1))
  gv : Gv L' Q' N' ((n + 2) * 2 ^ 103) (2 ^ 50) e
  dv : e.rate.den * e.span.den ∣ L'
  sp : e.span ≤ ((2 ^ 53 : Nat) : Rat)
theorem DrL.add {n L Q N L' Q' N' : Nat} {es : List Ed} {e : Ed} (h : DrL n L Q N es) (k : DrE n L Q N L' Q' N' e) : DrL (n + 1) L' Q' N' (es ++ [e]) := by
  refine ⟨k.l0, k.q0, k.n0, k.lb, k.qb, k.nb, fun x m => ?_⟩
  rcases List.mem_append.mp m with m | m
  · exact ⟨(h.all x m).1.to k.dl k.l0 k.dq k.q0 k.dn (Nat.mul_le_mul_right _ (by omega)) (Nat.le_refl _), Nat.dvd_trans (h.all x m).2.1 k.dl, (h.all x m).2.2⟩
  · rw [List.mem_singleton] at m
    subst m
    exact ⟨k.gv, k.dv, k.sp⟩
theorem sm_den {n : Nat} {q : Rat} (h : Sm n (q.den : Int)) : q.den ≤ 2 ^ n := by unfold Sm at h; omega
theorem sm_num {n : Nat} {q : Rat} (q0 : 0 ≤ q) (h : Sm n q.num) : q.num.toNat ≤ 2 ^ n := by unfold Sm at h; omega
theorem fit_num {L n : Nat} {q : Rat} (l0 : 0 < L) (d : q.den ∣ L) (q0 : 0 ≤ q) (h : Sm n q.num) : Fit L (2 ^ n) q := fit_of l0 d q0 (Rat.le_trans (le_num q0) (Rat.natCast_le_natCast.mpr (sm_num q0 h)))
/-- a drawn edit: its span, its start, its rate or that of the one ahead -/
theorem drE_new {n L Q N : Nat} {es : List Ed} (h : DrL n L Q N es) {sp st ra : Rat} (s0 : 0 < sp) (h1 : Sm 53 sp.num) (h2 : Sm 22 (sp.den : Int)) (hs : Am st) (hr : Am ra) : ∃ L' Q' N', L ∣ L' ∧ Q ∣ Q' ∧ N ∣ N' ∧ 0 < L' ∧ 0 < Q' ∧ 0 < N' ∧ L' ≤ 2 ^ (62 * (n + 1)) ∧ Q' ≤ 2 ^ (20 * (n + 1)) ∧ N' ≤ 2 ^ (50 * (n + 1)) ∧ Fit L' (2 ^ 53) sp ∧ Fit L' (2 ^ 50) st ∧ Fit Q' (2 ^ 50) ra ∧ (ra = 0 ∨ ra.num.toNat ∣ N') ∧ ra.den * sp.den ∣ L' ∧ L * sp.den ∣ L' := by
  have l0 := h.l0
  have q0 := h.q0
  have n0 := h.n0
  have dp : 0 < sp.den * st.den * ra.den := Nat.mul_pos (Nat.mul_pos sp.den_pos st.den_pos) ra.den_pos
  obtain ⟨N', hN, hN2, hN3, hN4⟩ : ∃ N', N ∣ N' ∧ 0 < N' ∧ N' ≤ 2 ^ (50 * (n + 1)) ∧ (ra = 0 ∨ ra.num.toNat ∣ N') := by
    by_cases z : ra = 0
    · exact ⟨N, Nat.dvd_refl _, n0, Nat.le_trans h.nb (Nat.pow_le_pow_right (by decide) (by omega)), .inl z⟩
    · have p := num_nonneg.mpr hr.1
      have nz : ra.num ≠ 0 := fun y => z (Rat.num_eq_zero.mp y)
      refine ⟨N * ra.num.toNat, Nat.dvd_mul_right _ _, Nat.mul_pos n0 (by omega), ?_, .inr (Nat.dvd_mul_left _ _)⟩
      rw [show 50 * (n + 1) = 50 * n + 50 by omega, Nat.pow_add]
      exact Nat.mul_le_mul h.nb (sm_num hr.1 hr.2.1)
  have lp : 0 < L * (sp.den * st.den * ra.den) := Nat.mul_pos l0 dp
  have dsp : sp.den ∣ L * (sp.den * st.den * ra.den) := Nat.dvd_trans (Nat.dvd_trans (Nat.dvd_mul_right _ _) (Nat.dvd_mul_right _ _)) (Nat.dvd_mul_left _ _)
  have dst : st.den ∣ L * (sp.den * st.den * ra.den) := Nat.dvd_trans (Nat.dvd_trans (Nat.dvd_mul_left _ _) (Nat.dvd_mul_right _ _)) (Nat.dvd_mul_left _ _)
  refine ⟨L * (sp.den * st.den * ra.den), Q * ra.den, N', Nat.dvd_mul_right _ _, Nat.dvd_mul_right _ _, hN, lp, Nat.mul_pos q0 ra.den_pos, hN2, ?_, ?_, hN3, fit_num lp dsp (Rat.le_of_lt s0) h1, fit_num lp dst hs.1 hs.2.1, fit_num (Nat.mul_pos q0 ra.den_pos) (Nat.dvd_mul_left _ _) hr.1 hr.2.1, hN4, ?_, ?_⟩
  · rw [show 62 * (n + 1) = 62 * n + (22 + 20 + 20) by omega, Nat.pow_add, Nat.pow_add, Nat.pow_add]
    exact Nat.mul_le_mul h.lb (Nat.mul_le_mul (Nat.mul_le_mul (sm_den h2) (sm_den hs.2.2)) (sm_den hr.2.2))
  · rw [show 20 * (n + 1) = 20 * n + 20 by omega, Nat.pow_add]
    exact Nat.mul_le_mul h.qb (sm_den hr.2.2)
  · refine Nat.dvd_trans ?_ (Nat.dvd_mul_left _ _)
    rw [Nat.mul_comm ra.den]
    exact Nat.mul_dvd_mul (Nat.dvd_mul_right _ _) (Nat.dvd_refl _)
  · exact Nat.mul_dvd_mul (Nat.dvd_refl _) (Nat.dvd_trans (Nat.dvd_mul_right _ _) (Nat.dvd_mul_right _ _))
theorem neD_nil (es : List Ed) : eqD (.lst (es.map eD)) (.lst []) = es.isEmpty := by
  have h := eqD_eDs es []
  cases es with
  | nil => exact h.mpr rfl
  | cons e es =>
    cases z : eqD (.lst ((e :: es).map eD)) (.lst []) with
    | false => rfl
    | true => cases h.mp z
theorem am_plus {a l : Rat} (ha : Am a) (hl : Sz 2 l) (l0 : 0 < l) : 0 < a + l ∧ Sm 53 (a + l).num ∧ Sm 22 ((a + l).den : Int) := by
  have a0 := ha.1
  refine ⟨by grind, ?_, ?_⟩
  · rw [← add_is a l]
    refine num_sm (mul_ne (den_ne a) (den_ne l)) ?_
    have h1 : Sm (50 + 2) (a.num * (l.den : Int)) := ha.2.1.mul hl.2
    have h2 : Sm (2 + 20) (l.num * (a.den : Int)) := hl.1.mul ha.2.2
    have h2 := h2.mono (show 2 + 20 ≤ 52 by decide)
    unfold Sm at *
    omega
  · rw [← add_is a l]
    exact den_sm (mul_ne (den_ne a) (den_ne l)) (ha.2.2.mul hl.2)
theorem dr_bs (n : Nat) : (n + 1) * 2 ^ 103 + 2 ^ 50 * 2 ^ 53 ≤ (n + 2) * 2 ^ 103 := by omega
theorem den_mul_dvd (a b : Rat) : (a * b).den ∣ a.den * b.den := by
  rw [← mul_is a b, Rat.den_divInt, if_neg (mul_ne (den_ne a) (den_ne b))]
  refine Nat.dvd_trans (Nat.div_dvd_of_dvd (Int.gcd_dvd_natAbs_left _ _)) ?_
  rw [← Int.natCast_mul]
  exact Nat.dvd_refl _
def wEdit : PW0 := fun xs cs post _ => ∃ (es : List Ed) (n L Q N : Nat), xs = [.cel 0, .dat (.lst (es.map eD))] ∧ cs = [.drw] ∧ n ≤ 12 ∧ DrL n L Q N es ∧ ∀ (e : Ed) (L' Q' N' : Nat), DrE n L Q N L' Q' N' e → post (.dat (eD e)) [.drw]
theorem ok_l_edit (T : Txt K mg) : FnOk P w K mg base CX0 4 T.a_l_edit T.d_l_edit ["_law_state", "_law_ahead"] (spG K wEdit) := by
  refine T.F_l_edit.ok sc_l_edit (fun vs H Q E h => spG_len h fun xs cs post exc ⟨a, b, c, d, f, e, _⟩ => by rw [e]; rfl) (fun cdv A outer s H vs Q E hr h => ⟨_, (pss_cons (ps_set (i := 2) sc_l_edit.nd rfl (Or.inl rfl) (pe_call (ok_l_digit T) (hr.mono (by decide)) (by rfl) T.g_l_digit T.F_l_digit.kp T.b_l_digit .nil pass0 (pa_cons (pv 0) (pa_cons pe_int pa_nil))))
      (pss_cons (ps_set (i := 3) sc_l_edit.nd rfl (Or.inl rfl) (pe_call (ok_l_plus T) (hr.mono (by decide)) (by rfl) T.g_l_plus T.F_l_plus.kp T.b_l_plus .nil pass0 (pa_cons (pe_call (ok_l_amount T) (hr.mono (by decide)) (by rfl) T.g_l_amount T.F_l_amount.kp T.b_l_amount .nil pass0 (pa_cons (pv 0) pa_nil)) (pa_cons (pe_call (ok_l_lowest T) (hr.mono (by decide)) (by rfl) T.g_l_lowest T.F_l_lowest.kp T.b_l_lowest .nil pass0 (pa_cons pe_int (pa_cons (pe_op op_add pe_int (pe_call (ok_l_digit T) (hr.mono (by decide)) (by rfl) T.g_l_digit T.F_l_digit.kp T.b_l_digit .nil pass0 (pa_cons (pv 0) (pa_cons pe_int pa_nil)))) pa_nil))) pa_nil))))
      (pss_cons (ps_set (i := 4) sc_l_edit.nd rfl (Or.inl rfl) (pe_call (ok_l_amount T) (hr.mono (by decide)) (by rfl) T.g_l_amount T.F_l_amount.kp T.b_l_amount .nil pass0 (pa_cons (pv 0) pa_nil)))
      (pss_cons (ps_set (i := 5) sc_l_edit.nd rfl (Or.inl rfl) (pe_ix ix_list (pe_lst (pa_cons (pe_tup (pa_cons pe_int (pa_cons pe_int pa_nil))) (pa_cons (pe_tup (pa_cons pe_int (pa_cons pe_int pa_nil))) (pa_cons (pe_tup (pa_cons pe_int (pa_cons pe_int pa_nil))) (pa_cons (pe_tup (pa_cons pe_int (pa_cons pe_int pa_nil))) (pa_cons (pe_tup (pa_cons pe_int (pa_cons pe_int pa_nil))) (pa_cons (pe_call (ok_l_amount T) (hr.mono (by decide)) (by rfl) T.g_l_amount T.F_l_amount.kp T.b_l_amount .nil pass0 (pa_cons (pv 0) pa_nil)) pa_nil))))))) (pe_call (ok_l_digit T) (hr.mono (by decide)) (by rfl) T.g_l_digit T.F_l_digit.kp T.b_l_digit .nil pass0 (pa_cons (pv 0) (pa_cons pe_int pa_nil))) (fun _ _ => rfl)))
      (pss_cons (ps_if (pt_cmpR op_eq (pv 2) pe_int (nomark _)) (pss_one (ps_ret (pe_tup (pa_cons (pv 3) (pa_cons pe_non (pa_cons (pe_tup (pa_cons pe_int (pa_cons pe_int pa_nil))) pa_nil)))))) pss_nil)
      (pss_cons (ps_if (PW.pt (pw_and (pt_cmpR op_lt (pv 2) pe_int (nomark _)) (pw_and (pt_cmpR (op_neD hr.units) (pv 1) (pe_lst pa_nil) (nomark _)) (pw_and1 (pt_cmpR op_notN (pe_ix ix_tup (pe_ix ix_list (pv 1) (pe_un un_neg pe_int) (fun _ _ => rfl)) pe_int (fun _ _ => rfl)) pe_non (nomark _)))))) (pss_cons (ps_set (i := 6) sc_l_edit.nd rfl (Or.inl rfl) (pe_ix ix_list (pv 1) (pe_un un_neg pe_int) (fun _ _ => rfl)))
      (pss_one (ps_ret (pe_tup (pa_cons (pv 3) (pa_cons (pe_call (ok_l_plus T) (hr.mono (by decide)) (by rfl) T.g_l_plus T.F_l_plus.kp T.b_l_plus .nil pass0 (pa_cons (pe_ix ix_tup (pv 6) pe_int (fun _ _ => rfl)) (pa_cons (pe_call (ok_l_times T) (hr.mono (by decide)) (by rfl) T.g_l_times T.F_l_times.kp T.b_l_times .nil pass0 (pa_cons (pe_ix ix_tup (pv 6) pe_int (fun _ _ => rfl)) (pa_cons (pe_ix ix_tup (pv 6) pe_int (fun _ _ => rfl)) pa_nil))) pa_nil))) (pa_cons (pe_ix ix_tup (pv 6) pe_int (fun _ _ => rfl)) pa_nil))))))) pss_nil)
      (pss_one (ps_ret (pe_tup (pa_cons (pv 3) (pa_cons (pv 4) (pa_cons (pv 5) pa_nil)))))))))))), enter h fun F xs cs post hE hw => ?_⟩)
  obtain ⟨es, n, L, Q0, N, rfl, rfl, n12, hes, q⟩ := hw
  walk_at "D"
  refine wsp_digit rfl (by decide) (by decide) fun w w0 w1 => ?_
  walk_at "D"
  walk_at "cd"
  refine ⟨rfl, rfl, fun a am => ⟨rfl, rfl, ?_⟩⟩
  walk_at "D"
  refine wsp_digit rfl (by decide) (by decide) fun b b0 b1 => ?_
  walk_at "D"
  walk_at "c"
  refine ⟨_, _, rfl, rfl, by omega, (sm_lt (n := 30) (by omega) (by omega)).mono (by decide), rfl, ?_⟩
  have l0 : 0 < Rat.divInt 1 (1 + b) := by
    have h1 : (Rat.divInt 1 (1 + b)).num = 1 := by
      rw [Rat.num_divInt, Int.sign_eq_one_of_pos (by omega)]
      simp
    refine Rat.lt_of_le_of_ne (divInt_nonneg (by decide) (by omega)) fun z => ?_
    rw [← z] at h1
    exact absurd h1 (by decide)
  have lz : Sz 2 (Rat.divInt 1 (1 + b)) := Sz.div (m := 0) (by omega) (sm_lt (by decide) (by decide)) (sm_lt (by omega) (by omega))
  generalize Rat.divInt 1 (1 + b) = l at *
  walk_at "D"
  walk_at "c"
  refine ⟨a, l, rfl, rfl, am.sz.mono (by decide), lz.mono (by decide), rfl, ?_⟩
  obtain ⟨s0, sn, sd⟩ := am_plus am lz l0
  generalize hsp : a + l = sp at *
  walk_at "D"
  walk_at "cd"
  refine ⟨rfl, rfl, fun st stm => ⟨rfl, rfl, ?_⟩⟩
  walk_at "D"
  walk_at "cd"
  refine ⟨rfl, rfl, fun ra ram => ⟨rfl, rfl, ?_⟩⟩
  walk_at "D"
  refine wsp_digit rfl (by decide) (by decide) fun x x0 x1 => ?_
  walk_at "D"
  refine wr_ixA (by walk_at "il") x0 (by simp only [List.length]; omega) ?_
  intro d m
  obtain ⟨r, rm, rfl⟩ : ∃ r : Rat, Am r ∧ d = fD r := by
    simp only [List.mem_cons, List.not_mem_nil, or_false] at m
    rcases m with rfl | rfl | rfl | rfl | rfl | rfl
    · exact ⟨1, ⟨by decide, sm_lt (by decide) (by decide), sm_lt (by decide) (by decide)⟩, rfl⟩
    · exact ⟨1, ⟨by decide, sm_lt (by decide) (by decide), sm_lt (by decide) (by decide)⟩, rfl⟩
    · exact ⟨0, ⟨by decide, sm_lt (by decide) (by decide), sm_lt (by decide) (by decide)⟩, rfl⟩
    · exact ⟨2, ⟨by decide, sm_lt (by decide) (by decide), sm_lt (by decide) (by decide)⟩, rfl⟩
    · exact ⟨half, ⟨by decide, sm_lt (by decide) (by decide), sm_lt (by decide) (by decide)⟩, rfl⟩
    · exact ⟨ra, ram, rfl⟩
  clear m
  walk_at "D"
  obtain ⟨L', Q', N', d1, d2, d3, l0', q0', n0', lb, qb, nb, fsp, fst, fra, nra, dv, dv2⟩ := drE_new hes s0 sn sd stm rm
  have b1 : 2 ^ 53 ≤ (n + 2) * 2 ^ 103 := by omega
  have b2 : 2 ^ 50 ≤ (n + 2) * 2 ^ 103 := by omega
  have last : (KS.fin 1 post).rt (.dat (.tup [fD sp, fD st, fD r])) ⟨[], [.drw]⟩ := fin_dat rfl (q ⟨sp, some st, r⟩ L' Q' N' ⟨d1, d2, d3, l0', q0', n0', lb, qb, nb, ⟨⟨s0, (fun _ z => by cases z; exact stm.1), rm.1, (fun z => nomatch z)⟩, fsp.up b1, fra, nra, fun _ z => by cases z; exact fst.up b2⟩, dv, fsp.hi⟩)
  have last2 : ∀ sl ce, (KS.fin 1 post).rt (.dat (.tup [fD sp, fD st, fD r])) ⟨sl, .drw :: ce⟩ := fun sl ce => by obtain ⟨x, y, z, u⟩ := last; cases y; exact ⟨_, .dat _, z, u⟩
  refine ifC (fun c => ?_) (fun c => ?_)
  · walk_at "D"
    refine fin_dat rfl (q ⟨sp, none, 0⟩ L' Q' N' ⟨d1, d2, d3, l0', q0', n0', lb, qb, nb, Gv.blank q0' s0 (fsp.up b1), ?_, fsp.hi⟩)
    show 1 * sp.den ∣ L'
    rw [Nat.one_mul]
    exact Nat.dvd_trans (Nat.dvd_mul_left _ _) dv
  · walk_at "D"
    refine ifC (fun c2 => ?_) (fun c2 => ?_)
    · walk_at "D"
      refine wr_neD 3 (by walk_at "od") (by walk_at "od") (by rw [fine]; exact fines_eD es) rfl (by decide) ?_
      rw [neD_nil]
      cases hl : es.getLast? with
      | none =>
        have : es = [] := List.getLast?_eq_none_iff.mp hl
        subst this
        walk_at "D"
        exact last2 _ _
      | some e =>
        have hem : e ∈ es := List.mem_of_getLast? hl
        have hne : es.isEmpty = false := by cases es with | nil => cases hl | cons => rfl
        rw [hne]
        obtain ⟨ge, de, hesp⟩ := hes.all e hem
        have nn : n + 1 ≤ 2 ^ 4 := by omega
        have bb : (n + 1) * 2 ^ 103 ≤ 2 ^ 107 := by omega
        have lb2 : L ≤ 2 ^ 744 := Nat.le_trans hes.lb (Nat.pow_le_pow_right (by decide) (by omega))
        have qb2 : Q0 ≤ 2 ^ 240 := Nat.le_trans hes.qb (Nat.pow_le_pow_right (by decide) (by omega))
        have ze : SzE e := ge.szE ⟨hes.l0, hes.q0, 744, 240, 107, 50, lb2, qb2, bb, Nat.le_refl _, by decide⟩
        obtain ⟨z1, z2, z3, z4⟩ := ze
        walk_at "D"
        refine wr_ixL (.dat _) (atI_last hl) ?_
        walk_at "D"
        cases hs : e.start with
        | none =>
          walk_at "D"
          exact last2 _ _
        | some s1 =>
          walk_at "D"
          refine wr_ixL (.dat _) (atI_last hl) ?_
          walk_at "D"
          walk_at "c"
          refine ⟨e.rate, e.span, rfl, rfl, z1, z2, rfl, ?_⟩
          walk_at "D"
          walk_at "c"
          refine ⟨s1, e.rate * e.span, by rw [hs]; rfl, rfl, z4 s1 hs, z3, rfl, ?_⟩
          walk_at "D"
          have fs1 := (ge.start s1 hs).to d1 l0'
          have frs : Fit L (2 ^ 50 * 2 ^ 53) (e.rate * e.span) := by
            refine fit_of hes.l0 (Nat.dvd_trans (den_mul_dvd _ _) de) (Rat.mul_nonneg ge.ok.2.2.1 (Rat.le_of_lt ge.ok.1)) ?_
            exact Rat.natCast_mul _ _ ▸ Rat.le_trans (Rat.mul_le_mul_of_nonneg_right ge.rate.hi (Rat.le_of_lt ge.ok.1)) (Rat.mul_le_mul_of_nonneg_left hesp Rat.natCast_nonneg)
          have fst2 := fs1.add l0' (frs.to d1 l0')
          have bs := dr_bs n
          refine fin_dat rfl (q ⟨sp, some (s1 + e.rate * e.span), e.rate⟩ L' Q' N' ⟨d1, d2, d3, l0', q0', n0', lb, qb, nb, ⟨⟨s0, (fun _ z => ?_), ge.ok.2.2.1, (fun z => nomatch z)⟩, fsp.up b1, ge.rate.to d2 q0', ge.num.imp id (fun d => Nat.dvd_trans d d3), fun _ z => ?_⟩, ?_, fsp.hi⟩)
          · cases z
            exact fst2.lo
          · cases z
            exact fst2.up bs
          · show e.rate.den * sp.den ∣ L'
            exact Nat.dvd_trans (Nat.mul_dvd_mul (Nat.dvd_trans (Nat.dvd_mul_right _ _) de) (Nat.dvd_refl _)) dv2
    · walk_at "D"
      exact last2 _ _
/-- the list of drawn edits -/
def wEdits : PW0 := fun xs cs post _ => ∃ few : Int, xs = [.cel 0, .dat (.int few)] ∧ cs = [.drw] ∧ 0 ≤ few ∧ few ≤ 12 ∧ ∀ (es : List Ed) (n L Q N : Nat), es.length = n → (n : Int) ≤ few → DrL n L Q N es → post (.new (es.map eD)) [.drw]
theorem ok_l_edits (T : Txt K mg) : FnOk P w K mg base CX0 5 T.a_l_edits T.d_l_edits ["_law_state", "_law_few"] (spG K wEdits) := by
  refine T.F_l_edits.ok sc_l_edits (fun vs H Q E h => spG_len h fun xs cs post exc ⟨a, e, _⟩ => by rw [e]; rfl) (fun cdv A outer s H vs Q E hr h => ⟨_, (pss_cons (ps_set (i := 2) sc_l_edits.nd rfl (Or.inl rfl) (pe_lst pa_nil))
      (pss_cons (ps_for PassesOwn.never rfl (pi_range1 (by rfl) T.m_range (pa_cons (pe_call (ok_l_digit T) (hr.mono (by decide)) (by rfl) T.g_l_digit T.F_l_digit.kp T.b_l_digit .nil pass0 (pa_cons (pv 0) (pa_cons (pe_op op_add (pv 1) pe_int) pa_nil))) pa_nil)) (pg_name (i := 3) sc_l_edits.nd rfl (Or.inl rfl))
        (pss_one (ps_expr (pe_bm PySem.F.plainAttrs_list PySem.F.slot_list_append PySem.F.type_list_append mt_append (pv 2) (pa_cons (pe_call (ok_l_edit T) (hr.mono (by decide)) (by rfl) T.g_l_edit T.F_l_edit.kp T.b_l_edit .nil pass0 (pa_cons (pv 0) (pa_cons (pv 2) pa_nil))) pa_nil)))))
      (pss_one (ps_ret (pv 2))))), enter h fun F xs cs post hE hw => ?_⟩)
  obtain ⟨few, rfl, rfl, f0, f1, q⟩ := hw
  walk_at "D"
  refine wsp_digit rfl (by omega) (by omega) fun m m0 m1 => ?_
  walk_at "D"
  refine ⟨⟨by omega, by omega⟩, ?_⟩
  refine loop_by (fun ds ρ => ∃ (es : List Ed) (L Q N : Nat) (x : Option AV), ρ = ⟨[some (.cel 0), some (.dat (.int few)), some (.cel 1), x], [.drw, .lst (es.map eD)]⟩ ∧ es.length + ds.length = m.toNat ∧ DrL es.length L Q N es) ⟨[], 1, 1, 1, _, rfl, by unfold rngD; rw [List.length_map, List.length_range]; exact Nat.zero_add _, ⟨by decide, by decide, by decide, by decide, by decide, by decide, (fun e m => nomatch m)⟩⟩ ?_ ?_
  · rintro ρ ⟨es, L, Q0, N, x, rfl, hl, he⟩
    refine ⟨trivial, ?_⟩
    walk_at "D"
    have hl : es.length = m.toNat := hl
    exact ⟨_, .cel (by decide) rfl, rfl, q es _ L Q0 N rfl (by omega) he⟩
  · rintro d ds ρ ⟨es, L, Q0, N, x, rfl, hl, he⟩
    have hl : es.length + (ds.length + 1) = m.toNat := hl
    refine ⟨trivial, ?_⟩
    walk_at "D"
    walk_at "cd"
    refine ⟨es, es.length, L, Q0, N, rfl, rfl, by omega, he, fun e L' Q' N' de => ⟨rfl, hard_eD e, ?_⟩⟩
    walk_at "D"
    · rw [List.length_map]; omega
    · refine now ⟨es ++ [e], L', Q', N', _, by rw [List.map_append]; rfl, by rw [List.length_append]; simp only [List.length]; omega, ?_⟩
      rw [List.length_append]
      exact he.add de
end
/-- arguments as data -/
local macro_rules | `(tactic| walk_at "as") => `(tactic| first
  | exact AsD.nil
  | (apply AsD.dat; walk_at "as")
  | (apply AsD.cel rfl; walk_at "as")
  | fail)
local macro_rules | `(tactic| walk_at "fz") => `(tactic| first
  | exact Frz.nil
  | (apply Frz.dat; walk_at "fz")
  | (apply Frz.cel rfl; walk_at "fz")
  | (apply Frz.ins rfl; walk_at "fz")
  | fail)
local macro_rules | `(tactic| walk_at "il") => `(tactic| first
  | exact IsL.dat _
  | exact IsL.cel rfl
  | exact IsL.scr _
  | fail)
local macro_rules | `(tactic| walk_at "od") => `(tactic| first
  | exact OfD.dat _
  | exact OfD.cel rfl
  | fail)
local macro_rules | `(tactic| walk_at "on") => `(tactic| first
  | exact only_name (by simp)
  | (refine only_tup ?_; repeat first | exact onlys_nil | refine onlys_cons (by simp) ?_)
  | fail)
/-- a call: its arguments as data -/
local macro_rules | `(tactic| walk_at "c") => `(tactic| (refine' wspE ?q1 ?z9; (case q1 => walk_at "as")))
local macro_rules | `(tactic| walk_at "cx") => `(tactic| (refine' wspX ?q1 ?z9; (case q1 => walk_at "as")))
local macro_rules | `(tactic| walk_at "al") => `(tactic| first
  | exact AsL.nil
  | (apply AsL.dat; walk_at "al")
  | (apply AsL.own; walk_at "al")
  | (apply AsL.cel (Nat.ne_of_beq_eq_false rfl) rfl; walk_at "al")
  | fail)
/-- a call that is lent a cell -/
local macro_rules | `(tactic| walk_at "c1") => `(tactic| (refine' wsp1 ?q1 ?q2 ?q3 ?z9; (case q1 => rfl); (case q2 => rfl); (case q3 => rfl)))
local macro_rules | `(tactic| walk_at "c2") => `(tactic| (refine' wsp2 ?q1 ?q2 ?q3 ?z9; (case q1 => rfl); (case q2 => rfl); (case q3 => walk_at "al")))
local macro_rules | `(tactic| walk_at "cd") => `(tactic| (refine' wspD ?q1 ?q2 ?z9; (case q2 => walk_at "al"); (case q1 => rfl)))
/-- one step by data -/
local macro_rules | `(tactic| walk_at "d") => `(tactic| first
  | with_reducible refine ws_seq ?_
  | with_reducible refine ws_asg ?_
  | with_reducible refine ws_ret ?_
  | with_reducible refine ws_if ?_
  | with_reducible refine ws_drop ?_
  | with_reducible refine ws_par ?_
  | with_reducible refine ws_next ?_
  | with_reducible refine ws_retN ?_
  | with_reducible refine ws_break ?_
  | with_reducible refine ws_cont ?_
  | with_reducible refine ws_for ?_
  | ((with_reducible refine' we_var ?v1 ?z9); (case v1 => exact rfl))
  | with_reducible refine we_ci ?_
  | with_reducible refine we_cs ?_
  | with_reducible refine we_cn ?_
  | with_reducible refine we_cb ?_
  | with_reducible refine we_ct ?_
  | with_reducible refine we_op ?_
  | with_reducible refine we_un ?_
  | with_reducible refine we_tCB ?_
  | with_reducible refine wa_nil ?_
  | with_reducible refine wa_cons ?_
  | with_reducible refine we_andV ?_
  | with_reducible refine we_orV ?_
  | with_reducible refine we_notV ?_
  | with_reducible refine we_if ?_
  | with_reducible refine wt_test ?_
  | with_reducible refine wt_B ?_
  | with_reducible refine wt_and ?_
  | with_reducible refine wt_or ?_
  | with_reducible refine wt_not ?_
  | with_reducible refine wt_yes ?_
  | with_reducible refine wt_tru ?_
  | with_reducible refine we_tup ?_
  | with_reducible refine we_lst ?_
  | with_reducible refine we_call ?_
  | with_reducible refine we_callS ?_
  | with_reducible refine wo_none ?_
  | with_reducible refine wo_some ?_
  | with_reducible refine wi_rng1 ?_
  | with_reducible refine wi_rng2 ?_
  | with_reducible refine wg_name ?_
  | with_reducible refine wg_sub ?_
  | with_reducible refine wgs_nil ?_
  | with_reducible refine wgs_cons ?_
  | with_reducible refine wgs_consM ?_
  | with_reducible refine wgs_nilM ?_
  | with_reducible refine wr_I0i ?_
  | with_reducible refine wr_I0b ?_
  | with_reducible refine wr_isN ?_
  | with_reducible refine wr_notN ?_
  | with_reducible refine wr_isB ?_
  | with_reducible refine wr_isnotB ?_
  | (with_reducible refine wu_neg ?_)
  | with_reducible refine wc_abs ?_
  | ((with_reducible refine' wr_eq ?v1 ?z9); (case v1 => exact rfl))
  | ((with_reducible refine' wr_ne ?v1 ?z9); (case v1 => exact rfl))
  | ((with_reducible refine' we_lc ?v0 ?z9); (case v0 => walk_at "on"))
  | ((with_reducible refine' wm_append ?v0 ?v1 ?v2 ?z9); (case v0 => walk_at "fz"); (case v1 => exact rfl))
  | refine we_bm ?_
  | refine we_bm0 ?_
  | refine we_slL ?_
  | refine wi_list ?_
  | refine wi_tup ?_
  | ((refine' wg_tup ?v1 ?z9); (case v1 => exact rfl))
  | ((refine' wr_ixT ?v1 ?z9); (case v1 => exact rfl))
  | ((refine' wr_ixL ?v0 ?v1 ?z9); (case v0 => walk_at "il"); (case v1 => exact rfl))
  | refine wc_lenT ?_
  | ((refine' wc_lenL ?v0 ?z9); (case v0 => walk_at "il"))
  | ((refine' wc_isi ?v0 ?v1 ?z9); (case v0 => simp); (case v1 => exact rfl))
  | ((refine' wc_isiC ?v0 ?v1 ?z9); (case v0 => simp); (case v1 => exact rfl))
  | ((refine' wc_list ?v0 ?z9); (case v0 => walk_at "il"))
  | refine wc_listT ?_
  | ((refine' wc_tuple ?v0 ?z9); (case v0 => walk_at "il"))
  | (first | refine ⟨⟨_, _, rfl, rfl, rfl⟩, ?_⟩ | refine ⟨⟨_, _, rfl, rfl, fun z => by cases z⟩, ?_⟩ | fail)
  | ((with_reducible refine' frz_in ?v0 ?v1 ?z9); (case v0 => walk_at "fz"); (case v1 => exact rfl))
  | ((with_reducible refine' il_in ?v0 ?z9); (case v0 => walk_at "il"))
  | ((with_reducible refine' lc_in ?v0 ?v1 ?v2 ?z9); (case v0 => walk_at "fz"); (case v1 => exact rfl))
  | (refine ⟨_, rfl, ?_⟩)
  | (refine ⟨_, _, rfl, ?_⟩)
  | fail)
/-- steps, and ifs whose test is told -/
local macro_rules | `(tactic| walk_at "D") => `(tactic| repeat (first
  | walk_at "d"
  | refine ifT rfl ?_
  | refine ifF rfl ?_))
/-- the environment written out -/
local macro_rules | `(tactic| walk_at "nrm") => `(tactic| first | (dsimp only [En.put, En.add, En.cell, List.set_cons_zero, List.set_cons_succ, List.cons_append, List.nil_append, List.length_cons, List.length_nil, Nat.zero_add, Nat.reduceAdd]) | skip)

/-- .. with what was frozen and forgotten -/
local macro_rules | `(tactic| walk_at "nr2") => `(tactic| first | (dsimp only [En.start, En.put, En.add, En.cell, En.frz, En.frzD, En.clr, frzA_d, frzA_c, mapC, mapN, Option.map_some, Option.map_none, List.set_cons_zero, List.set_cons_succ, List.cons_append, List.nil_append, List.length_cons, List.length_nil, Nat.zero_add, Nat.reduceAdd, Nat.reduceSub, List.replicate_succ, List.replicate_zero, ↓reduceIte, Nat.reduceEqDiff, reduceCtorEq]) | skip)
section
variable {P : Program} {w : World} {K : PySem.W.Frag} {mg : Str → Option Value} {base : Heap}
/-! ### mapped, total -/
def wMapped (C1 C2 : Addr) : PW0 := fun xs cs post exc => ∃ d t, xs = [.dat d, .dat t] ∧ cs = [] ∧ pl d = true ∧ pl t = true ∧ (isEds d = false → exc C1) ∧ (isEds d = true → isMo t = false → exc C2) ∧
  ∀ es q, d = .lst (es.map eD) → t = fD q → (∀ e ∈ es, e.ok) → 0 ≤ q → LedOk es q ∧ post (.dat (oD (ledF es q))) []
theorem isMo_of {d : D} (h : isMo d = true) : ∃ q : Rat, 0 ≤ q ∧ d = fD q := by
  obtain ⟨q, rfl⟩ := isFr_of (d := d) (by
    unfold isMo at h
    split at h
    · rw [Bool.and_eq_true] at h; exact h.1
    · cases h)
  rw [isMo_fD] at h
  exact ⟨q, num_nonneg.mp (of_decide_eq_true h), rfl⟩
theorem ok_mapped (T : Txt K mg) : FnOk P w K mg base (L2.CX P w) 7 T.a_mapped T.d_mapped ["edits", "t"] (spG K (wMapped T.c_NoEdits T.c_NoMoment)) := by
  refine T.F_mapped.okX sc_mapped (fun vs H Q E h => spG_len h fun xs cs post exc ⟨a, b, e, _⟩ => by rw [e]; rfl) (fun cdv A outer s H vs Q E hr h => ⟨_, (pss_cons (ps_expr (pe_callFR (ok_refuse_no_edits T) (hr.mono (by decide)) (by rfl) T.g_refuse_no_edits T.F_refuse_no_edits.kp (passes_call (takes_of rfl rfl rfl rfl) (fun _ _ _ _ h => h)) (pa_cons (pv 0) pa_nil)))
      (pss_cons (ps_expr (pe_call (ok_refuse_no_moment T) (hr.mono (by decide)) (by rfl) T.g_refuse_no_moment T.F_refuse_no_moment.kp T.b_refuse_no_moment .nil (passes_call (takes_of rfl rfl rfl rfl) (fun _ _ _ _ h => h)) (pa_cons (pv 1) pa_nil)))
      (pss_one (ps_ret (pe_call (ok_led T) (hr.mono (by decide)) (by rfl) T.g_led T.F_led.kp T.b_led .nil pass0 (pa_cons (pv 0) (pa_cons (pv 1) pa_nil))))))), enter h fun F xs cs post hE hw => ?_⟩)
  obtain ⟨d, t, rfl, rfl, p1, p2, q1, q2, q3⟩ := hw
  subst hE
  walk_at "D"
  walk_at "cx"
  refine ⟨[d], rfl, rfl, Nat.le_of_ble_eq_true rfl, [d], rfl, rfl, by rw [pls, p1]; rfl, fun h => ⟨rfl, ?_⟩, fun h => q1 (by rw [List.all_cons, List.all_nil, Bool.and_true] at h; exact h)⟩
  rw [List.all_cons, List.all_nil, Bool.and_true] at h
  walk_at "D"
  walk_at "cx"
  refine ⟨t, rfl, rfl, p2, fun h2 => ⟨rfl, ?_⟩, q2 h⟩
  obtain ⟨es, hes, rfl⟩ := isEds_of h
  obtain ⟨q, q0, rfl⟩ := isMo_of h2
  obtain ⟨l1, l2⟩ := q3 es q rfl rfl hes q0
  walk_at "D"
  walk_at "c"
  exact ⟨es, q, rfl, rfl, l1, rfl, fin_dat rfl l2⟩
def wSpans : PW0 := fun xs cs post _ => ∃ es : List Ed, xs = [.dat (.lst (es.map eD))] ∧ cs = [] ∧ SumOk es 0 ∧ post (.dat (fD (sumF es 0))) []
theorem ok_summed_spans (T : Txt K mg) : FnOk P w K mg base CX0 4 T.a_summed_spans T.d_summed_spans ["edits"] (spG K wSpans) := by
  refine T.F_summed_spans.ok sc_summed_spans (fun vs H Q E h => spG_len h fun xs cs post exc ⟨a, e, _⟩ => by rw [e]; rfl) (fun cdv A outer s H vs Q E hr h => ⟨_, (pss_cons (ps_set (i := 1) sc_summed_spans.nd rfl (Or.inl rfl) (pe_glob (v := .ref T.ca_NOUGHT) (by rfl) T.g_NOUGHT rfl))
      (pss_cons (ps_for PassesOwn.never rfl (pi_list (pv 0)) (pg_name (i := 2) sc_summed_spans.nd rfl (Or.inl rfl))
        (pss_one (ps_set (i := 1) sc_summed_spans.nd rfl (Or.inl rfl) (pe_call (ok_plus T) (hr.mono (by decide)) (by rfl) T.g_plus T.F_plus.kp T.b_plus .nil pass0 (pa_cons (pv 1) (pa_cons (pe_ix ix_tup (pv 2) pe_int (fun _ _ => rfl)) pa_nil))))))
      (pss_one (ps_ret (pv 1))))), enter h fun F xs cs post hE hw => ?_⟩)
  obtain ⟨es0, rfl, rfl, ok, q⟩ := hw
  walk_at "D"
  refine we_cr (rep_NOUGHT T) ?_
  walk_at "D"
  refine loop_by (fun ds ρ => ∃ (es : List Ed) (a : Rat) (x : Option AV), ds = es.map eD ∧ ρ = ⟨[some (.dat (.lst (es0.map eD))), some (.dat (fD a)), x], []⟩ ∧ SumOk es a ∧ post (.dat (fD (sumF es a))) []) ⟨es0, 0, _, rfl, rfl, ok, q⟩ ?_ ?_
  · rintro ρ ⟨es, a, x, ee, rfl, ok, q⟩
    have : es = [] := List.map_eq_nil_iff.mp ee.symm
    subst this
    refine ⟨.dat _, ?_⟩
    walk_at "D"
    exact fin_dat rfl q
  · rintro d ds ρ ⟨es, a, x, ee, rfl, ok, q⟩
    cases es with
    | nil => cases ee
    | cons e es =>
      cases ee
      obtain ⟨s1, s2, s3⟩ := ok
      refine ⟨.dat _, ?_⟩
      walk_at "D"
      walk_at "c"
      refine ⟨a, e.span, rfl, rfl, s1, s2, rfl, ?_⟩
      walk_at "D"
      exact now ⟨es, a + e.span, _, rfl, rfl, s3, q⟩
def wTotal (C : Addr) : PW0 := fun xs cs post exc => ∃ d, xs = [.dat d] ∧ cs = [] ∧ pl d = true ∧ (isEds d = false → exc C) ∧ ∀ es, d = .lst (es.map eD) → (∀ e ∈ es, e.ok) → SumOk es 0 ∧ post (.dat (fD (sumF es 0))) []
theorem ok_total (T : Txt K mg) : FnOk P w K mg base (L2.CX P w) 7 T.a_total T.d_total ["edits"] (spG K (wTotal T.c_NoEdits)) := by
  refine T.F_total.okX sc_total (fun vs H Q E h => spG_len h fun xs cs post exc ⟨a, e, _⟩ => by rw [e]; rfl) (fun cdv A outer s H vs Q E hr h => ⟨_, (pss_cons (ps_expr (pe_callFR (ok_refuse_no_edits T) (hr.mono (by decide)) (by rfl) T.g_refuse_no_edits T.F_refuse_no_edits.kp (passes_call (takes_of rfl rfl rfl rfl) (fun _ _ _ _ h => h)) (pa_cons (pv 0) pa_nil)))
      (pss_one (ps_ret (pe_call (ok_summed_spans T) (hr.mono (by decide)) (by rfl) T.g_summed_spans T.F_summed_spans.kp T.b_summed_spans .nil pass0 (pa_cons (pv 0) pa_nil))))), enter h fun F xs cs post hE hw => ?_⟩)
  obtain ⟨d, rfl, rfl, p1, q1, q3⟩ := hw
  subst hE
  walk_at "D"
  walk_at "cx"
  refine ⟨[d], rfl, rfl, Nat.le_of_ble_eq_true rfl, [d], rfl, rfl, by rw [pls, p1]; rfl, fun h => ⟨rfl, ?_⟩, fun h => q1 (by rw [List.all_cons, List.all_nil, Bool.and_true] at h; exact h)⟩
  rw [List.all_cons, List.all_nil, Bool.and_true] at h
  obtain ⟨es, hes, rfl⟩ := isEds_of h
  obtain ⟨l1, l2⟩ := q3 es rfl hes
  walk_at "D"
  walk_at "c"
  exact ⟨es, rfl, rfl, l1, rfl, fin_dat rfl l2⟩
theorem wc_intB {F : Fx} {ρ : En} {k : AV → En → Prop} {b : Bool} (hk : k (.dat (.int (if b = true then 1 else 0))) ρ) : WpC K F (fun xs H Q => (∃ i, xs = [V.int i] ∧ Q (V.int i) H) ∨ ∃ k, xs = [V.bl k] ∧ Q (V.int (if k = true then 1 else 0)) H) [.dat (.bl b)] ρ k := fun as σ H G vs e r Q q => by
  cases r with
  | cons r1 c =>
    cases c
    cases (show Rep K G (.bl b) _ from r1)
    exact .inr ⟨b, rfl, q _ ρ _ as H G hk e .refl (Rep.int _)⟩
/-- what is not run to its end here is not told of -/
def spNo : Sp := fun _ _ _ _ => False
theorem ok_count_alike (T : Txt K mg) : FnOk P w K mg base CX0 1 T.a_count_alike T.d_count_alike ["one", "other"] spNo := T.F_count_alike.ok sc_count_alike (fun vs H Q E h => h.elim) (fun cdv A outer s H vs Q E hr h => h.elim)
theorem ok_first_unlike (T : Txt K mg) : FnOk P w K mg base CX0 5 T.a_first_unlike T.d_first_unlike ["one", "other"] spNo := T.F_first_unlike.ok sc_first_unlike (fun vs H Q E h => h.elim) (fun cdv A outer s H vs Q E hr h => h.elim)
theorem ok_window (T : Txt K mg) : FnOk P w K mg base CX0 4 T.a_window T.d_window ["edits", "low", "high"] spNo := T.F_window.ok sc_window (fun vs H Q E h => h.elim) (fun cdv A outer s H vs Q E hr h => h.elim)
theorem ok_laid_over (T : Txt K mg) : FnOk P w K mg base CX0 5 T.a_laid_over T.d_laid_over ["edit", "inner"] spNo := T.F_laid_over.ok sc_laid_over (fun vs H Q E h => h.elim) (fun cdv A outer s H vs Q E hr h => h.elim)
theorem ok_stretch_of (T : Txt K mg) : FnOk P w K mg base CX0 4 T.a_stretch_of T.d_stretch_of ["edit", "begin", "low", "high"] spNo := T.F_stretch_of.ok sc_stretch_of (fun vs H Q E h => h.elim) (fun cdv A outer s H vs Q E hr h => h.elim)
theorem nEds {d : D} (h : isEds d = false) {es : List Ed} (e : d = .lst (es.map eD)) (ok : ∀ e ∈ es, e.ok) {p : Prop} : p := by
  subst e
  rw [isEds_eD ok] at h
  cases h
def wRef2 (C : Addr) : PW0 := fun xs cs post exc => ∃ d e, xs = [.dat d, .dat e] ∧ cs = [] ∧ pl d = true ∧ pl e = true ∧ (isEds d && isEds e) = false ∧ exc C
theorem ok_parted (T : Txt K mg) : FnOk P w K mg base (L2.CX P w) 7 T.a_parted T.d_parted ["one", "other"] (spG K (wRef2 T.c_NoEdits)) := by
  refine T.F_parted.okX sc_parted (fun vs H Q E h => spG_len h fun xs cs post exc ⟨a, b, e, _⟩ => by rw [e]; rfl) (fun cdv A outer s H vs Q E hr h => ⟨_, (pss_cons (ps_expr (pe_callFR (ok_refuse_no_edits T) (hr.mono (by decide)) (by rfl) T.g_refuse_no_edits T.F_refuse_no_edits.kp (passes_call (takes_of rfl rfl rfl rfl) (fun _ _ _ _ h => h)) (pa_cons (pv 0) (pa_cons (pv 1) pa_nil))))
      (pss_cons (ps_set (i := 2) sc_parted.nd rfl (Or.inl rfl) (pe_call (ok_tidied T) (hr.mono (by decide)) (by rfl) T.g_tidied T.F_tidied.kp T.b_tidied .nil pass0 (pa_cons (pv 0) pa_nil)))
      (pss_cons (ps_set (i := 3) sc_parted.nd rfl (Or.inl rfl) (pe_call (ok_tidied T) (hr.mono (by decide)) (by rfl) T.g_tidied T.F_tidied.kp T.b_tidied .nil pass0 (pa_cons (pv 1) pa_nil)))
      (pss_cons (ps_set (i := 4) sc_parted.nd rfl (Or.inl rfl) (pe_call (ok_count_alike T) (hr.mono (by decide)) (by rfl) T.g_count_alike T.F_count_alike.kp T.b_count_alike .nil pass0 (pa_cons (pv 2) (pa_cons (pv 3) pa_nil))))
      (pss_cons (ps_set (i := 5) sc_parted.nd rfl (Or.inl rfl) (pe_call (ok_first_unlike T) (hr.mono (by decide)) (by rfl) T.g_first_unlike T.F_first_unlike.kp T.b_first_unlike .nil pass0 (pa_cons (pe_slice sl_list (pv 2) (po_some (pv 4)) po_none) (pa_cons (pe_slice sl_list (pv 3) (po_some (pv 4)) po_none) pa_nil))))
      (pss_one (ps_ret (pe_ifExp (pt_cmpR op_isN (pv 5) pe_non (nomark _)) pe_non (pe_call (ok_plus T) (hr.mono (by decide)) (by rfl) T.g_plus T.F_plus.kp T.b_plus .nil pass0 (pa_cons (pe_call (ok_summed_spans T) (hr.mono (by decide)) (by rfl) T.g_summed_spans T.F_summed_spans.kp T.b_summed_spans .nil pass0 (pa_cons (pe_slice sl_list (pv 2) po_none (po_some (pv 4))) pa_nil)) (pa_cons (pv 5) pa_nil))))))))))), enter h fun F xs cs post hE hw => ?_⟩)
  obtain ⟨d, e, rfl, rfl, p1, p2, z, q⟩ := hw
  subst hE
  walk_at "D"
  walk_at "cx"
  exact ⟨[d, e], rfl, rfl, Nat.le_of_ble_eq_true rfl, [d, e], rfl, rfl, by rw [pls, pls, p1, p2]; rfl, (fun h => by rw [List.all_cons, List.all_cons, List.all_nil, Bool.and_true, z] at h; cases h), fun _ => q⟩
theorem ok_over (T : Txt K mg) : FnOk P w K mg base (L2.CX P w) 7 T.a_over T.d_over ["outer", "inner"] (spG K (wRef2 T.c_NoEdits)) := by
  refine T.F_over.okX sc_over (fun vs H Q E h => spG_len h fun xs cs post exc ⟨a, b, e, _⟩ => by rw [e]; rfl) (fun cdv A outer s H vs Q E hr h => ⟨_, (pss_cons (ps_expr (pe_callFR (ok_refuse_no_edits T) (hr.mono (by decide)) (by rfl) T.g_refuse_no_edits T.F_refuse_no_edits.kp (passes_call (takes_of rfl rfl rfl rfl) (fun _ _ _ _ h => h)) (pa_cons (pv 0) (pa_cons (pv 1) pa_nil))))
      (pss_cons (ps_set (i := 2) sc_over.nd rfl (Or.inl rfl) (pe_lst pa_nil))
      (pss_cons (ps_for (passes_of rfl) rfl (pi_list (pv 0)) (pg_name (i := 3) sc_over.nd rfl (Or.inl rfl))
        (pss_one (ps_expr (pe_bm PySem.F.plainAttrs_list PySem.F.slot_list_extend PySem.F.type_list_extend mt_extend (pv 2) (pa_cons (pe_call (ok_laid_over T) (hr.mono (by decide)) (by rfl) T.g_laid_over T.F_laid_over.kp T.b_laid_over .nil pass0 (pa_cons (pv 3) (pa_cons (pv 1) pa_nil))) pa_nil)))))
      (pss_one (ps_ret (pe_call (ok_tidied T) (hr.mono (by decide)) (by rfl) T.g_tidied T.F_tidied.kp T.b_tidied .nil pass0 (pa_cons (pv 2) pa_nil))))))), enter h fun F xs cs post hE hw => ?_⟩)
  obtain ⟨d, e, rfl, rfl, p1, p2, z, q⟩ := hw
  subst hE
  walk_at "D"
  walk_at "cx"
  exact ⟨[d, e], rfl, rfl, Nat.le_of_ble_eq_true rfl, [d, e], rfl, rfl, by rw [pls, pls, p1, p2]; rfl, (fun h => by rw [List.all_cons, List.all_cons, List.all_nil, Bool.and_true, z] at h; cases h), fun _ => q⟩
theorem ok_after (T : Txt K mg) : FnOk P w K mg base (L2.CX P w) 7 T.a_after T.d_after ["one", "other"] (spG K (wRef2 T.c_NoEdits)) := by
  refine T.F_after.okX sc_after (fun vs H Q E h => spG_len h fun xs cs post exc ⟨a, b, e, _⟩ => by rw [e]; rfl) (fun cdv A outer s H vs Q E hr h => ⟨_, (pss_cons (ps_expr (pe_callFR (ok_refuse_no_edits T) (hr.mono (by decide)) (by rfl) T.g_refuse_no_edits T.F_refuse_no_edits.kp (passes_call (takes_of rfl rfl rfl rfl) (fun _ _ _ _ h => h)) (pa_cons (pv 0) (pa_cons (pv 1) pa_nil))))
      (pss_one (ps_ret (pe_call (ok_tidied T) (hr.mono (by decide)) (by rfl) T.g_tidied T.F_tidied.kp T.b_tidied .nil pass0 (pa_cons (pe_op op_catF (pv 0) (pv 1)) pa_nil))))), enter h fun F xs cs post hE hw => ?_⟩)
  obtain ⟨d, e, rfl, rfl, p1, p2, z, q⟩ := hw
  subst hE
  walk_at "D"
  walk_at "cx"
  exact ⟨[d, e], rfl, rfl, Nat.le_of_ble_eq_true rfl, [d, e], rfl, rfl, by rw [pls, pls, p1, p2]; rfl, (fun h => by rw [List.all_cons, List.all_cons, List.all_nil, Bool.and_true, z] at h; cases h), fun _ => q⟩
/-- what is no stretch, whatever its parts are -/
def badStretch (a b : D) : Prop := ∀ lo hi : Rat, a = fD lo → b = fD hi → 0 ≤ lo → 0 ≤ hi → Sz 4000 lo ∧ Sz 4000 hi ∧ ¬ lo < hi
def wNoStretch (C : Addr) : PW0 := fun xs cs post exc => ∃ a b, xs = [.dat a, .dat b] ∧ cs = [] ∧ pl a = true ∧ pl b = true ∧ badStretch a b ∧ exc C
theorem ok_refuse_no_stretch (T : Txt K mg) : FnOk P w K mg base (L2.CX P w) 5 T.a_refuse_no_stretch T.d_refuse_no_stretch ["low", "high"] (spG K (wNoStretch T.c_NoMoment)) := by
  refine T.F_refuse_no_stretch.okX sc_refuse_no_stretch (fun vs H Q E h => spG_len h fun xs cs post exc ⟨a, b, e, _⟩ => by rw [e]; rfl) (fun cdv A outer s H vs Q E hr h => ⟨_, (pss_cons (ps_expr (pe_call (ok_refuse_no_moment T) (hr.mono (by decide)) (by rfl) T.g_refuse_no_moment T.F_refuse_no_moment.kp T.b_refuse_no_moment .nil (passes_call (takes_of rfl rfl rfl rfl) (fun _ _ _ _ h => h)) (pa_cons (pv 0) pa_nil)))
      (pss_cons (ps_expr (pe_call (ok_refuse_no_moment T) (hr.mono (by decide)) (by rfl) T.g_refuse_no_moment T.F_refuse_no_moment.kp T.b_refuse_no_moment .nil (passes_call (takes_of rfl rfl rfl rfl) (fun _ _ _ _ h => h)) (pa_cons (pv 1) pa_nil)))
      (pss_one (ps_if (pt_not (pt_val (pe_call (ok_less T) (hr.mono (by decide)) (by rfl) T.g_less T.F_less.kp T.b_less .nil pass0 (pa_cons (pv 0) (pa_cons (pv 1) pa_nil))))) (pss_one (ps_raise rfl (takes_of rfl rfl rfl rfl) (pmk_own PySem.F.excBase_ValueError T.x_NoMoment T.g_NoMoment T.k_NoMoment (raises_own T.bb_NoMoment T.t_NoMoment) rfl))) pss_nil)))), enter h fun F xs cs post hE hw => ?_⟩)
  obtain ⟨a, b, rfl, rfl, p1, p2, bad, q⟩ := hw
  subst hE
  walk_at "D"
  walk_at "cx"
  refine ⟨a, rfl, rfl, p1, fun h1 => ⟨rfl, ?_⟩, fun _ => q⟩
  walk_at "D"
  walk_at "cx"
  refine ⟨b, rfl, rfl, p2, fun h2 => ⟨rfl, ?_⟩, fun _ => q⟩
  obtain ⟨lo, lo0, rfl⟩ := isMo_of h1
  obtain ⟨hi, hi0, rfl⟩ := isMo_of h2
  obtain ⟨s1, s2, n⟩ := bad lo hi rfl rfl lo0 hi0
  walk_at "D"
  walk_at "c"
  refine ⟨lo, hi, rfl, rfl, s1.mono (by decide), s2.mono (by decide), rfl, ?_⟩
  rw [decide_eq_false n]
  walk_at "D"
  exact ws_exc fun as σ H G D en => F.hE _ H q en.fh
def wRef3 (C1 C2 : Addr) : PW0 := fun xs cs post exc => ∃ d a b, xs = [.dat d, .dat a, .dat b] ∧ cs = [] ∧ pl d = true ∧ pl a = true ∧ pl b = true ∧ (isEds d = false → exc C1) ∧ (isEds d = true → badStretch a b ∧ exc C2)
theorem ok_part (T : Txt K mg) : FnOk P w K mg base (L2.CX P w) 7 T.a_part T.d_part ["edits", "low", "high"] (spG K (wRef3 T.c_NoEdits T.c_NoMoment)) := by
  refine T.F_part.okX sc_part (fun vs H Q E h => spG_len h fun xs cs post exc ⟨d, a, b, e, _⟩ => by rw [e]; rfl) (fun cdv A outer s H vs Q E hr h => ⟨_, (pss_cons (ps_expr (pe_callFR (ok_refuse_no_edits T) (hr.mono (by decide)) (by rfl) T.g_refuse_no_edits T.F_refuse_no_edits.kp (passes_call (takes_of rfl rfl rfl rfl) (fun _ _ _ _ h => h)) (pa_cons (pv 0) pa_nil)))
      (pss_cons (ps_expr (pe_call (ok_refuse_no_stretch T) (hr.mono (by decide)) (by rfl) T.g_refuse_no_stretch T.F_refuse_no_stretch.kp T.b_refuse_no_stretch .nil (passes_call (takes_of rfl rfl rfl rfl) (fun _ _ _ _ h => h)) (pa_cons (pv 1) (pa_cons (pv 2) pa_nil))))
      (pss_one (ps_ret (pe_call (ok_tidied T) (hr.mono (by decide)) (by rfl) T.g_tidied T.F_tidied.kp T.b_tidied .nil pass0 (pa_cons (pe_call (ok_window T) (hr.mono (by decide)) (by rfl) T.g_window T.F_window.kp T.b_window .nil pass0 (pa_cons (pv 0) (pa_cons (pv 1) (pa_cons (pv 2) pa_nil)))) pa_nil)))))), enter h fun F xs cs post hE hw => ?_⟩)
  obtain ⟨d, a, b, rfl, rfl, p1, p2, p3, q1, q2⟩ := hw
  subst hE
  walk_at "D"
  walk_at "cx"
  refine ⟨[d], rfl, rfl, Nat.le_of_ble_eq_true rfl, [d], rfl, rfl, by rw [pls, p1]; rfl, fun h => ⟨rfl, ?_⟩, fun h => q1 (by rw [List.all_cons, List.all_nil, Bool.and_true] at h; exact h)⟩
  rw [List.all_cons, List.all_nil, Bool.and_true] at h
  walk_at "D"
  walk_at "cx"
  exact ⟨a, b, rfl, rfl, p2, p3, (q2 h).1, (q2 h).2⟩
theorem ok_stretches (T : Txt K mg) : FnOk P w K mg base (L2.CX P w) 7 T.a_stretches T.d_stretches ["edits", "low", "high"] (spG K (wRef3 T.c_NoEdits T.c_NoMoment)) := by
  refine T.F_stretches.okX sc_stretches (fun vs H Q E h => spG_len h fun xs cs post exc ⟨d, a, b, e, _⟩ => by rw [e]; rfl) (fun cdv A outer s H vs Q E hr h => ⟨_, (pss_cons (ps_expr (pe_callFR (ok_refuse_no_edits T) (hr.mono (by decide)) (by rfl) T.g_refuse_no_edits T.F_refuse_no_edits.kp (passes_call (takes_of rfl rfl rfl rfl) (fun _ _ _ _ h => h)) (pa_cons (pv 0) pa_nil)))
      (pss_cons (ps_expr (pe_call (ok_refuse_no_stretch T) (hr.mono (by decide)) (by rfl) T.g_refuse_no_stretch T.F_refuse_no_stretch.kp T.b_refuse_no_stretch .nil (passes_call (takes_of rfl rfl rfl rfl) (fun _ _ _ _ h => h)) (pa_cons (pv 1) (pa_cons (pv 2) pa_nil))))
      (pss_cons (ps_set (i := 3) sc_stretches.nd rfl (Or.inl rfl) (pe_lst pa_nil))
      (pss_cons (ps_set (i := 4) sc_stretches.nd rfl (Or.inl rfl) (pe_glob (v := .ref T.ca_NOUGHT) (by rfl) T.g_NOUGHT rfl))
      (pss_cons (ps_for (passes_of rfl) rfl (pi_list (pv 0)) (pg_name (i := 5) sc_stretches.nd rfl (Or.inl rfl))
        (pss_cons (ps_set (i := 6) sc_stretches.nd rfl (Or.inl rfl) (pe_call (ok_stretch_of T) (hr.mono (by decide)) (by rfl) T.g_stretch_of T.F_stretch_of.kp T.b_stretch_of .nil pass0 (pa_cons (pv 5) (pa_cons (pv 4) (pa_cons (pv 1) (pa_cons (pv 2) pa_nil))))))
      (pss_cons (ps_set (i := 4) sc_stretches.nd rfl (Or.inl rfl) (pe_call (ok_plus T) (hr.mono (by decide)) (by rfl) T.g_plus T.F_plus.kp T.b_plus .nil pass0 (pa_cons (pv 4) (pa_cons (pe_ix ix_tup (pv 5) pe_int (fun _ _ => rfl)) pa_nil))))
      (pss_cons (ps_if (pt_cmpR op_isN (pv 6) pe_non (nomark _)) (pss_one ps_continue) pss_nil)
      (pss_one (ps_if (PW.pt (pw_and (pt_tru (K := K) rfl (pv 3) (fun _ => rfl)) (pw_and1 (pt_cmpR op_eq (pe_ix ix_tup (pe_ix ix_list (pv 3) (pe_un un_neg pe_int) (fun _ _ => rfl)) pe_int (fun _ _ => rfl)) (pe_ix ix_tup (pv 6) pe_int (fun _ _ => rfl)) (nomark _))))) (pss_one (ps_asg (pe_tup (pa_cons (pe_ix ix_tup (pe_ix ix_list (pv 3) (pe_un un_neg pe_int) (fun _ _ => rfl)) pe_int (fun _ _ => rfl)) (pa_cons (pe_ix ix_tup (pv 6) pe_int (fun _ _ => rfl)) pa_nil))) (pg_sub (pv 3) (pe_un un_neg pe_int) set_list))) (pss_one (ps_expr (pe_bm PySem.F.plainAttrs_list PySem.F.slot_list_append PySem.F.type_list_append mt_append (pv 3) (pa_cons (pv 6) pa_nil))))))))))
      (pss_one (ps_ret (pv 3)))))))), enter h fun F xs cs post hE hw => ?_⟩)
  obtain ⟨d, a, b, rfl, rfl, p1, p2, p3, q1, q2⟩ := hw
  subst hE
  walk_at "D"
  walk_at "cx"
  refine ⟨[d], rfl, rfl, Nat.le_of_ble_eq_true rfl, [d], rfl, rfl, by rw [pls, p1]; rfl, fun h => ⟨rfl, ?_⟩, fun h => q1 (by rw [List.all_cons, List.all_nil, Bool.and_true] at h; exact h)⟩
  rw [List.all_cons, List.all_nil, Bool.and_true] at h
  walk_at "D"
  walk_at "cx"
  exact ⟨a, b, rfl, rfl, p2, p3, (q2 h).1, (q2 h).2⟩
end
/-- arguments as data -/
local macro_rules | `(tactic| walk_at "as") => `(tactic| first
  | exact AsD.nil
  | (apply AsD.dat; walk_at "as")
  | (apply AsD.cel rfl; walk_at "as")
  | fail)
local macro_rules | `(tactic| walk_at "fz") => `(tactic| first
  | exact Frz.nil
  | (apply Frz.dat; walk_at "fz")
  | (apply Frz.cel rfl; walk_at "fz")
  | (apply Frz.ins rfl; walk_at "fz")
  | fail)
local macro_rules | `(tactic| walk_at "il") => `(tactic| first
  | exact IsL.dat _
  | exact IsL.cel rfl
  | exact IsL.scr _
  | fail)
local macro_rules | `(tactic| walk_at "od") => `(tactic| first
  | exact OfD.dat _
  | exact OfD.cel rfl
  | fail)
local macro_rules | `(tactic| walk_at "on") => `(tactic| first
  | exact only_name (by simp)
  | (refine only_tup ?_; repeat first | exact onlys_nil | refine onlys_cons (by simp) ?_)
  | fail)
/-- a call: its arguments as data -/
local macro_rules | `(tactic| walk_at "c") => `(tactic| (refine' wspE ?q1 ?z9; (case q1 => walk_at "as")))
local macro_rules | `(tactic| walk_at "cx") => `(tactic| (refine' wspX ?q1 ?z9; (case q1 => walk_at "as")))
local macro_rules | `(tactic| walk_at "al") => `(tactic| first
  | exact AsL.nil
  | (apply AsL.dat; walk_at "al")
  | (apply AsL.own; walk_at "al")
  | (apply AsL.cel (Nat.ne_of_beq_eq_false rfl) rfl; walk_at "al")
  | fail)
/-- a call that is lent a cell -/
local macro_rules | `(tactic| walk_at "c1") => `(tactic| (refine' wsp1 ?q1 ?q2 ?q3 ?z9; (case q1 => rfl); (case q2 => rfl); (case q3 => rfl)))
local macro_rules | `(tactic| walk_at "c2") => `(tactic| (refine' wsp2 ?q1 ?q2 ?q3 ?z9; (case q1 => rfl); (case q2 => rfl); (case q3 => walk_at "al")))
local macro_rules | `(tactic| walk_at "cd") => `(tactic| (refine' wspD ?q1 ?q2 ?z9; (case q2 => walk_at "al"); (case q1 => rfl)))
/-- one step by data -/
local macro_rules | `(tactic| walk_at "d") => `(tactic| first
  | with_reducible refine ws_seq ?_
  | with_reducible refine ws_asg ?_
  | with_reducible refine ws_ret ?_
  | with_reducible refine ws_if ?_
  | with_reducible refine ws_drop ?_
  | with_reducible refine ws_par ?_
  | with_reducible refine ws_next ?_
  | with_reducible refine ws_retN ?_
  | with_reducible refine ws_break ?_
  | with_reducible refine ws_cont ?_
  | with_reducible refine ws_for ?_
  | ((with_reducible refine' we_var ?v1 ?z9); (case v1 => exact rfl))
  | with_reducible refine we_ci ?_
  | with_reducible refine we_cs ?_
  | with_reducible refine we_cn ?_
  | with_reducible refine we_cb ?_
  | with_reducible refine we_ct ?_
  | with_reducible refine we_op ?_
  | with_reducible refine we_un ?_
  | with_reducible refine we_tCB ?_
  | with_reducible refine wa_nil ?_
  | with_reducible refine wa_cons ?_
  | with_reducible refine we_andV ?_
  | with_reducible refine we_orV ?_
  | with_reducible refine we_notV ?_
  | with_reducible refine we_if ?_
  | with_reducible refine wt_test ?_
  | with_reducible refine wt_B ?_
  | with_reducible refine wt_and ?_
  | with_reducible refine wt_or ?_
  | with_reducible refine wt_not ?_
  | with_reducible refine wt_yes ?_
  | with_reducible refine wt_tru ?_
  | with_reducible refine we_tup ?_
  | with_reducible refine we_lst ?_
  | with_reducible refine we_call ?_
  | with_reducible refine we_callS ?_
  | with_reducible refine wo_none ?_
  | with_reducible refine wo_some ?_
  | with_reducible refine wi_rng1 ?_
  | with_reducible refine wi_rng2 ?_
  | with_reducible refine wg_name ?_
  | with_reducible refine wg_sub ?_
  | with_reducible refine wgs_nil ?_
  | with_reducible refine wgs_cons ?_
  | with_reducible refine wgs_consM ?_
  | with_reducible refine wgs_nilM ?_
  | with_reducible refine wr_I0i ?_
  | with_reducible refine wr_I0b ?_
  | with_reducible refine wr_isN ?_
  | with_reducible refine wr_notN ?_
  | with_reducible refine wr_isB ?_
  | with_reducible refine wr_isnotB ?_
  | (with_reducible refine wu_neg ?_)
  | with_reducible refine wc_abs ?_
  | ((with_reducible refine' wr_eq ?v1 ?z9); (case v1 => exact rfl))
  | ((with_reducible refine' wr_ne ?v1 ?z9); (case v1 => exact rfl))
  | ((with_reducible refine' we_lc ?v0 ?z9); (case v0 => walk_at "on"))
  | ((with_reducible refine' wm_append ?v0 ?v1 ?v2 ?z9); (case v0 => walk_at "fz"); (case v1 => exact rfl))
  | refine we_bm ?_
  | refine we_bm0 ?_
  | refine we_slL ?_
  | refine wi_list ?_
  | refine wi_tup ?_
  | ((refine' wg_tup ?v1 ?z9); (case v1 => exact rfl))
  | ((refine' wr_ixT ?v1 ?z9); (case v1 => exact rfl))
  | ((refine' wr_ixL ?v0 ?v1 ?z9); (case v0 => walk_at "il"); (case v1 => exact rfl))
  | refine wc_lenT ?_
  | ((refine' wc_lenL ?v0 ?z9); (case v0 => walk_at "il"))
  | ((refine' wc_isi ?v0 ?v1 ?z9); (case v0 => simp); (case v1 => exact rfl))
  | ((refine' wc_isiC ?v0 ?v1 ?z9); (case v0 => simp); (case v1 => exact rfl))
  | ((refine' wc_list ?v0 ?z9); (case v0 => walk_at "il"))
  | refine wc_listT ?_
  | ((refine' wc_tuple ?v0 ?z9); (case v0 => walk_at "il"))
  | (first | refine ⟨⟨_, _, rfl, rfl, rfl⟩, ?_⟩ | refine ⟨⟨_, _, rfl, rfl, fun z => by cases z⟩, ?_⟩ | fail)
  | ((with_reducible refine' frz_in ?v0 ?v1 ?z9); (case v0 => walk_at "fz"); (case v1 => exact rfl))
  | ((with_reducible refine' il_in ?v0 ?z9); (case v0 => walk_at "il"))
  | ((with_reducible refine' lc_in ?v0 ?v1 ?v2 ?z9); (case v0 => walk_at "fz"); (case v1 => exact rfl))
  | (refine ⟨_, rfl, ?_⟩)
  | (refine ⟨_, _, rfl, ?_⟩)
  | fail)
/-- steps, and ifs whose test is told -/
local macro_rules | `(tactic| walk_at "D") => `(tactic| repeat (first
  | walk_at "d"
  | refine ifT rfl ?_
  | refine ifF rfl ?_))
/-- the environment written out -/
local macro_rules | `(tactic| walk_at "nrm") => `(tactic| first | (dsimp only [En.put, En.add, En.cell, List.set_cons_zero, List.set_cons_succ, List.cons_append, List.nil_append, List.length_cons, List.length_nil, Nat.zero_add, Nat.reduceAdd]) | skip)

/-- .. with what was frozen and forgotten -/
local macro_rules | `(tactic| walk_at "nr2") => `(tactic| first | (dsimp only [En.start, En.put, En.add, En.cell, En.frz, En.frzD, En.clr, frzA_d, frzA_c, mapC, mapN, Option.map_some, Option.map_none, List.set_cons_zero, List.set_cons_succ, List.cons_append, List.nil_append, List.length_cons, List.length_nil, Nat.zero_add, Nat.reduceAdd, Nat.reduceSub, List.replicate_succ, List.replicate_zero, ↓reduceIte, Nat.reduceEqDiff, reduceCtorEq]) | skip)
local macro_rules | `(tactic| walk_at "cat") => `(tactic| refine wr_cat (by walk_at "il") (by walk_at "il") (by simp only [List.length_append, List.length_map, List.length_cons, List.length_nil]; omega) ?_)
local macro_rules | `(tactic| walk_at "E") => `(tactic| repeat (first
  | (with_reducible refine ws_seq ?_; walk_at "nr2")
  | walk_at "d"
  | refine we_dnew ?_
  | refine ifT rfl ?_
  | refine ifF rfl ?_))
section
variable {P : Program} {w : World} {K : PySem.W.Frag} {mg : Str → Option Value} {base : Heap}
/-- plain data that is no edit -/
def Odd (d : D) : Prop := pl d = true ∧ isEd d = false
theorem odd_span {x y z : D} (hx : isMo x = false ∨ isZero x = true) (p : pl (.tup [x, y, z]) = true) : Odd (.tup [x, y, z]) := by
  refine ⟨p, ?_⟩
  show (isMo x && !isZero x && (if isNon (.dat y) = true then isZero z else isMo y && isMo z)) = false
  rcases hx with h | h <;> simp [h]
theorem odd_start {x y z : D} (hn : isNon (.dat y) = false) (hy : isMo y = false ∨ isMo z = false) (p : pl (.tup [x, y, z]) = true) : Odd (.tup [x, y, z]) := by
  refine ⟨p, ?_⟩
  show (isMo x && !isZero x && (if isNon (.dat y) = true then isZero z else isMo y && isMo z)) = false
  rcases hy with h | h <;> simp [h, hn]
theorem odd_blank {x z : D} (hz : isZero z = false) (p : pl (.tup [x, .non, z]) = true) : Odd (.tup [x, .non, z]) := by
  refine ⟨p, ?_⟩
  show (isMo x && !isZero x && (if isNon (.dat .non) = true then isZero z else isMo .non && isMo z)) = false
  simp [hz, isNon]
theorem all_cons {p : D → Prop} {a : D} {l : List D} (h : p a) (k : ∀ d ∈ l, p d) : ∀ d ∈ a :: l, p d := fun d m => by
  rcases List.mem_cons.mp m with rfl | m
  · exact h
  · exact k d m
theorem all_nil {p : D → Prop} : ∀ d ∈ ([] : List D), p d := fun _ m => nomatch m
theorem pl3 {x y z : D} (h1 : pl x = true) (h2 : pl y = true) (h3 : pl z = true) : pl (.tup [x, y, z]) = true := by
  show (pl x && (pl y && (pl z && true))) = true
  rw [h1, h2, h3]; rfl
theorem odd_all {s st r g : D} {a b : D} (ps : pl s = true) (pst : pl st = true) (pr : pl r = true) (pg : pl g = true) (pa : pl a = true) (pb : pl b = true) (ng : isNon (.dat g) = false) : ∀ d ∈
  [D.non, .int 5, .tup [], .tup [s, st], .tup [s, st, r, r], .lst [s, st, r], .str "edit", .bl true, .dic] ++
  [.tup [.tup [.int 0, .int 1], st, r], .tup [.tup [.int (-1), .int 2], st, r], .tup [.tup [.int 2, .int 2], st, r], .tup [.int 1, st, r]] ++
  [.tup [.tup [.bl true, .int 1], st, r], .tup [.non, st, r], .tup [s, .tup [.int (-1), .int 1], .tup [.int 1, .int 1]], .tup [s, .tup [.int 2, .int 4], .tup [.int 1, .int 1]]] ++
  [.tup [s, .int 0, .tup [.int 1, .int 1]], .tup [s, .bl false, .tup [.int 0, .int 1]], .tup [s, .str "0", .tup [.int 1, .int 1]], .tup [s, g, .tup [.int (-1), .int 2]]] ++
  [.tup [s, g, .non], .tup [s, g, .tup [.int 0, .int 2]], .tup [s, g, .int 1], .tup [s, .non, .tup [.int 1, .int 1]], .tup [s, .non, .non]] ++
  [.tup [s, g, .tup [.int 1, .int 0]], .tup [s, .tup [.int 1, .int (-1)], .tup [.int 1, .int 1]], .tup [s, .non, .int 0], .tup [.lst [a, b], g, .tup [.int 1, .int 1]]], Odd d := by
  exact all_cons (⟨rfl, rfl⟩) (all_cons (⟨rfl, rfl⟩) (all_cons (⟨rfl, rfl⟩) (all_cons (⟨by show (pl s && (pl st && true)) = true; rw [ps, pst]; rfl, rfl⟩) (all_cons (⟨by show (pl s && (pl st && (pl r && (pl r && true)))) = true; rw [ps, pst, pr]; rfl, rfl⟩) (all_cons (⟨by show (pl s && (pl st && (pl r && true))) = true; rw [ps, pst, pr]; rfl, rfl⟩) (all_cons (⟨rfl, rfl⟩) (all_cons (⟨rfl, rfl⟩) (all_cons (⟨rfl, rfl⟩) (all_cons (odd_span (.inr rfl) (pl3 rfl pst pr)) (all_cons (odd_span (.inl rfl) (pl3 rfl pst pr)) (all_cons (odd_span (.inl rfl) (pl3 rfl pst pr)) (all_cons (odd_span (.inl rfl) (pl3 rfl pst pr)) (all_cons (odd_span (.inl rfl) (pl3 rfl pst pr)) (all_cons (odd_span (.inl rfl) (pl3 rfl pst pr)) (all_cons (odd_start rfl (.inl rfl) (pl3 ps rfl rfl)) (all_cons (odd_start rfl (.inl rfl) (pl3 ps rfl rfl)) (all_cons (odd_start rfl (.inl rfl) (pl3 ps rfl rfl)) (all_cons (odd_start rfl (.inl rfl) (pl3 ps rfl rfl)) (all_cons (odd_start rfl (.inl rfl) (pl3 ps rfl rfl)) (all_cons (odd_start ng (.inr rfl) (pl3 ps pg rfl)) (all_cons (odd_start ng (.inr rfl) (pl3 ps pg rfl)) (all_cons (odd_start ng (.inr rfl) (pl3 ps pg rfl)) (all_cons (odd_start ng (.inr rfl) (pl3 ps pg rfl)) (all_cons (odd_blank rfl (pl3 ps rfl rfl)) (all_cons (odd_blank rfl (pl3 ps rfl rfl)) (all_cons (odd_start ng (.inr rfl) (pl3 ps pg rfl)) (all_cons (odd_start rfl (.inl rfl) (pl3 ps rfl rfl)) (all_cons (odd_blank rfl (pl3 ps rfl rfl)) (all_cons (odd_span (.inl rfl) (pl3 (by show (pl a && (pl b && true)) = true; rw [pa, pb]; rfl) pg rfl)) (all_nil))))))))))))))))))))))))))))))
def wOddEdit : PW0 := fun xs cs post _ => ∃ e : Ed, xs = [.cel 0, .dat (eD e)] ∧ cs = [.drw] ∧ ∀ d, Odd d → post (.dat d) [.drw]
theorem ok_l_odd_edit (T : Txt K mg) : FnOk P w K mg base CX0 2 T.a_l_odd_edit T.d_l_odd_edit ["_law_state", "_law_edit_here"] (spG K wOddEdit) := by
  refine T.F_l_odd_edit.ok sc_l_odd_edit (fun vs H Q E h => spG_len h fun xs cs post exc ⟨a, e, _⟩ => by rw [e]; rfl) (fun cdv A outer s H vs Q E hr h => ⟨_, (pss_cons (ps_asg (pv 1) (pg_tup rfl (pgs_cons (pg_name (i := 2) sc_l_odd_edit.nd rfl (Or.inl rfl)) (pgs_cons (pg_name (i := 3) sc_l_odd_edit.nd rfl (Or.inl rfl)) (pgs_cons (pg_name (i := 4) sc_l_odd_edit.nd rfl (Or.inl rfl)) pgs_nil)))))
      (pss_cons (ps_set (i := 5) sc_l_odd_edit.nd rfl (Or.inl rfl) (pe_ix ix_list (pe_lst (pa_cons (pv 3) (pa_cons (pe_tup (pa_cons pe_int (pa_cons pe_int pa_nil))) pa_nil))) (pe_callTy call_int1 (by rfl) T.m_int (by decide +kernel) (pa_cons (pe_cmpR op_isN (pv 3) pe_non (nomark _)) pa_nil)) (fun _ _ => rfl)))
      (pss_cons (ps_set (i := 6) sc_l_odd_edit.nd rfl (Or.inl rfl) (pe_lst (pa_cons pe_non (pa_cons pe_int (pa_cons (pe_tup pa_nil) (pa_cons (pe_tup (pa_cons (pv 2) (pa_cons (pv 3) pa_nil))) (pa_cons (pe_tup (pa_cons (pv 2) (pa_cons (pv 3) (pa_cons (pv 4) (pa_cons (pv 4) pa_nil))))) (pa_cons (pe_lst (pa_cons (pv 2) (pa_cons (pv 3) (pa_cons (pv 4) pa_nil)))) (pa_cons pe_str (pa_cons pe_bl (pa_cons pe_dnewK pa_nil)))))))))))
      (pss_cons (ps_set (i := 6) sc_l_odd_edit.nd rfl (Or.inl rfl) (pe_op op_catF (pv 6) (pe_lst (pa_cons (pe_tup (pa_cons (pe_tup (pa_cons pe_int (pa_cons pe_int pa_nil))) (pa_cons (pv 3) (pa_cons (pv 4) pa_nil)))) (pa_cons (pe_tup (pa_cons (pe_tup (pa_cons (pe_un un_neg pe_int) (pa_cons pe_int pa_nil))) (pa_cons (pv 3) (pa_cons (pv 4) pa_nil)))) (pa_cons (pe_tup (pa_cons (pe_tup (pa_cons pe_int (pa_cons pe_int pa_nil))) (pa_cons (pv 3) (pa_cons (pv 4) pa_nil)))) (pa_cons (pe_tup (pa_cons pe_int (pa_cons (pv 3) (pa_cons (pv 4) pa_nil)))) pa_nil)))))))
      (pss_cons (ps_set (i := 6) sc_l_odd_edit.nd rfl (Or.inl rfl) (pe_op op_catF (pv 6) (pe_lst (pa_cons (pe_tup (pa_cons (pe_tup (pa_cons pe_bl (pa_cons pe_int pa_nil))) (pa_cons (pv 3) (pa_cons (pv 4) pa_nil)))) (pa_cons (pe_tup (pa_cons pe_non (pa_cons (pv 3) (pa_cons (pv 4) pa_nil)))) (pa_cons (pe_tup (pa_cons (pv 2) (pa_cons (pe_tup (pa_cons (pe_un un_neg pe_int) (pa_cons pe_int pa_nil))) (pa_cons (pe_tup (pa_cons pe_int (pa_cons pe_int pa_nil))) pa_nil)))) (pa_cons (pe_tup (pa_cons (pv 2) (pa_cons (pe_tup (pa_cons pe_int (pa_cons pe_int pa_nil))) (pa_cons (pe_tup (pa_cons pe_int (pa_cons pe_int pa_nil))) pa_nil)))) pa_nil)))))))
      (pss_cons (ps_set (i := 6) sc_l_odd_edit.nd rfl (Or.inl rfl) (pe_op op_catF (pv 6) (pe_lst (pa_cons (pe_tup (pa_cons (pv 2) (pa_cons pe_int (pa_cons (pe_tup (pa_cons pe_int (pa_cons pe_int pa_nil))) pa_nil)))) (pa_cons (pe_tup (pa_cons (pv 2) (pa_cons pe_bl (pa_cons (pe_tup (pa_cons pe_int (pa_cons pe_int pa_nil))) pa_nil)))) (pa_cons (pe_tup (pa_cons (pv 2) (pa_cons pe_str (pa_cons (pe_tup (pa_cons pe_int (pa_cons pe_int pa_nil))) pa_nil)))) (pa_cons (pe_tup (pa_cons (pv 2) (pa_cons (pv 5) (pa_cons (pe_tup (pa_cons (pe_un un_neg pe_int) (pa_cons pe_int pa_nil))) pa_nil)))) pa_nil)))))))
      (pss_cons (ps_set (i := 6) sc_l_odd_edit.nd rfl (Or.inl rfl) (pe_op op_catF (pv 6) (pe_lst (pa_cons (pe_tup (pa_cons (pv 2) (pa_cons (pv 5) (pa_cons pe_non pa_nil)))) (pa_cons (pe_tup (pa_cons (pv 2) (pa_cons (pv 5) (pa_cons (pe_tup (pa_cons pe_int (pa_cons pe_int pa_nil))) pa_nil)))) (pa_cons (pe_tup (pa_cons (pv 2) (pa_cons (pv 5) (pa_cons pe_int pa_nil)))) (pa_cons (pe_tup (pa_cons (pv 2) (pa_cons pe_non (pa_cons (pe_tup (pa_cons pe_int (pa_cons pe_int pa_nil))) pa_nil)))) (pa_cons (pe_tup (pa_cons (pv 2) (pa_cons pe_non (pa_cons pe_non pa_nil)))) pa_nil))))))))
      (pss_cons (ps_set (i := 6) sc_l_odd_edit.nd rfl (Or.inl rfl) (pe_op op_catF (pv 6) (pe_lst (pa_cons (pe_tup (pa_cons (pv 2) (pa_cons (pv 5) (pa_cons (pe_tup (pa_cons pe_int (pa_cons pe_int pa_nil))) pa_nil)))) (pa_cons (pe_tup (pa_cons (pv 2) (pa_cons (pe_tup (pa_cons pe_int (pa_cons (pe_un un_neg pe_int) pa_nil))) (pa_cons (pe_tup (pa_cons pe_int (pa_cons pe_int pa_nil))) pa_nil)))) (pa_cons (pe_tup (pa_cons (pv 2) (pa_cons pe_non (pa_cons pe_int pa_nil)))) (pa_cons (pe_tup (pa_cons (pe_callTy call_list_of (by rfl) T.m_list (by decide +kernel) (pa_cons (pv 2) pa_nil)) (pa_cons (pv 5) (pa_cons (pe_tup (pa_cons pe_int (pa_cons pe_int pa_nil))) pa_nil)))) pa_nil)))))))
      (pss_one (ps_ret (pe_ix ix_list (pv 6) (pe_call (ok_l_digit T) (hr.mono (by decide)) (by rfl) T.g_l_digit T.F_l_digit.kp T.b_l_digit .nil pass0 (pa_cons (pv 0) (pa_cons (pe_callB call_len_seq (by rfl) T.m_len (by decide +kernel) (pa_cons (pv 6) pa_nil)) pa_nil))) (fun _ _ => rfl)))))))))))), enter h fun F xs cs post hE hw => ?_⟩)
  obtain ⟨e, rfl, rfl, q⟩ := hw
  walk_at "D"
  refine wc_intB ?_
  obtain ⟨g, pg, ng, hg⟩ : ∃ g : D, pl g = true ∧ isNon (.dat g) = false ∧ atI [oD e.start, D.tup [.int 1, .int 1]] (if isNon (.dat (oD e.start)) = true then 1 else 0) = some g := by
    cases e.start with
    | none => exact ⟨_, rfl, rfl, rfl⟩
    | some q => exact ⟨fD q, rfl, rfl, rfl⟩
  refine wr_ixL (.cel rfl) hg ?_
  have pst := pl_oD e.start
  generalize oD e.start = st at *
  walk_at "E"
  walk_at "nr2"
  walk_at "cat"
  walk_at "E"
  walk_at "nr2"
  walk_at "cat"
  walk_at "E"
  walk_at "nr2"
  walk_at "cat"
  walk_at "E"
  walk_at "nr2"
  walk_at "cat"
  walk_at "E"
  walk_at "nr2"
  walk_at "cat"
  walk_at "E"
  walk_at "nr2"
  refine wsp_digit rfl (by decide) (by decide) fun d d0 d1 => ?_
  walk_at "E"
  refine wr_ixA (.cel rfl) d0 (show d < 30 from d1) fun x m => ?_
  exact fin_dat rfl (q x (odd_all (pl_fD _) pst (pl_fD _) pg rfl rfl ng x m))
end
/-- arguments as data -/
local macro_rules | `(tactic| walk_at "as") => `(tactic| first
  | exact AsD.nil
  | (apply AsD.dat; walk_at "as")
  | (apply AsD.cel rfl; walk_at "as")
  | fail)
local macro_rules | `(tactic| walk_at "fz") => `(tactic| first
  | exact Frz.nil
  | (apply Frz.dat; walk_at "fz")
  | (apply Frz.cel rfl; walk_at "fz")
  | (apply Frz.ins rfl; walk_at "fz")
  | fail)
local macro_rules | `(tactic| walk_at "il") => `(tactic| first
  | exact IsL.dat _
  | exact IsL.cel rfl
  | exact IsL.scr _
  | fail)
local macro_rules | `(tactic| walk_at "od") => `(tactic| first
  | exact OfD.dat _
  | exact OfD.cel rfl
  | fail)
local macro_rules | `(tactic| walk_at "on") => `(tactic| first
  | exact only_name (by simp)
  | (refine only_tup ?_; repeat first | exact onlys_nil | refine onlys_cons (by simp) ?_)
  | fail)
/-- a call: its arguments as data -/
local macro_rules | `(tactic| walk_at "c") => `(tactic| (refine' wspE ?q1 ?z9; (case q1 => walk_at "as")))
local macro_rules | `(tactic| walk_at "cx") => `(tactic| (refine' wspX ?q1 ?z9; (case q1 => walk_at "as")))
local macro_rules | `(tactic| walk_at "al") => `(tactic| first
  | exact AsL.nil
  | (apply AsL.dat; walk_at "al")
  | (apply AsL.own; walk_at "al")
  | (apply AsL.cel (Nat.ne_of_beq_eq_false rfl) rfl; walk_at "al")
  | fail)
/-- a call that is lent a cell -/
local macro_rules | `(tactic| walk_at "c1") => `(tactic| (refine' wsp1 ?q1 ?q2 ?q3 ?z9; (case q1 => rfl); (case q2 => rfl); (case q3 => rfl)))
local macro_rules | `(tactic| walk_at "c2") => `(tactic| (refine' wsp2 ?q1 ?q2 ?q3 ?z9; (case q1 => rfl); (case q2 => rfl); (case q3 => walk_at "al")))
local macro_rules | `(tactic| walk_at "cd") => `(tactic| (refine' wspD ?q1 ?q2 ?z9; (case q2 => walk_at "al"); (case q1 => rfl)))
/-- one step by data -/
local macro_rules | `(tactic| walk_at "d") => `(tactic| first
  | with_reducible refine ws_seq ?_
  | with_reducible refine ws_asg ?_
  | with_reducible refine ws_ret ?_
  | with_reducible refine ws_if ?_
  | with_reducible refine ws_drop ?_
  | with_reducible refine ws_par ?_
  | with_reducible refine ws_next ?_
  | with_reducible refine ws_retN ?_
  | with_reducible refine ws_break ?_
  | with_reducible refine ws_cont ?_
  | with_reducible refine ws_for ?_
  | ((with_reducible refine' we_var ?v1 ?z9); (case v1 => exact rfl))
  | with_reducible refine we_ci ?_
  | with_reducible refine we_cs ?_
  | with_reducible refine we_cn ?_
  | with_reducible refine we_cb ?_
  | with_reducible refine we_ct ?_
  | with_reducible refine we_op ?_
  | with_reducible refine we_un ?_
  | with_reducible refine we_tCB ?_
  | with_reducible refine wa_nil ?_
  | with_reducible refine wa_cons ?_
  | with_reducible refine we_andV ?_
  | with_reducible refine we_orV ?_
  | with_reducible refine we_notV ?_
  | with_reducible refine we_if ?_
  | with_reducible refine wt_test ?_
  | with_reducible refine wt_B ?_
  | with_reducible refine wt_and ?_
  | with_reducible refine wt_or ?_
  | with_reducible refine wt_not ?_
  | with_reducible refine wt_yes ?_
  | with_reducible refine wt_tru ?_
  | with_reducible refine we_tup ?_
  | with_reducible refine we_lst ?_
  | with_reducible refine we_call ?_
  | with_reducible refine we_callS ?_
  | with_reducible refine wo_none ?_
  | with_reducible refine wo_some ?_
  | with_reducible refine wi_rng1 ?_
  | with_reducible refine wi_rng2 ?_
  | with_reducible refine wg_name ?_
  | with_reducible refine wg_sub ?_
  | with_reducible refine wgs_nil ?_
  | with_reducible refine wgs_cons ?_
  | with_reducible refine wgs_consM ?_
  | with_reducible refine wgs_nilM ?_
  | with_reducible refine wr_I0i ?_
  | with_reducible refine wr_I0b ?_
  | with_reducible refine wr_isN ?_
  | with_reducible refine wr_notN ?_
  | with_reducible refine wr_isB ?_
  | with_reducible refine wr_isnotB ?_
  | (with_reducible refine wu_neg ?_)
  | with_reducible refine wc_abs ?_
  | ((with_reducible refine' wr_eq ?v1 ?z9); (case v1 => exact rfl))
  | ((with_reducible refine' wr_ne ?v1 ?z9); (case v1 => exact rfl))
  | ((with_reducible refine' we_lc ?v0 ?z9); (case v0 => walk_at "on"))
  | ((with_reducible refine' wm_append ?v0 ?v1 ?v2 ?z9); (case v0 => walk_at "fz"); (case v1 => exact rfl))
  | refine we_bm ?_
  | refine we_bm0 ?_
  | refine we_slL ?_
  | refine wi_list ?_
  | refine wi_tup ?_
  | ((refine' wg_tup ?v1 ?z9); (case v1 => exact rfl))
  | ((refine' wr_ixT ?v1 ?z9); (case v1 => exact rfl))
  | ((refine' wr_ixL ?v0 ?v1 ?z9); (case v0 => walk_at "il"); (case v1 => exact rfl))
  | refine wc_lenT ?_
  | ((refine' wc_lenL ?v0 ?z9); (case v0 => walk_at "il"))
  | ((refine' wc_isi ?v0 ?v1 ?z9); (case v0 => simp); (case v1 => exact rfl))
  | ((refine' wc_isiC ?v0 ?v1 ?z9); (case v0 => simp); (case v1 => exact rfl))
  | ((refine' wc_list ?v0 ?z9); (case v0 => walk_at "il"))
  | refine wc_listT ?_
  | ((refine' wc_tuple ?v0 ?z9); (case v0 => walk_at "il"))
  | (first | refine ⟨⟨_, _, rfl, rfl, rfl⟩, ?_⟩ | refine ⟨⟨_, _, rfl, rfl, fun z => by cases z⟩, ?_⟩ | fail)
  | ((with_reducible refine' frz_in ?v0 ?v1 ?z9); (case v0 => walk_at "fz"); (case v1 => exact rfl))
  | ((with_reducible refine' il_in ?v0 ?z9); (case v0 => walk_at "il"))
  | ((with_reducible refine' lc_in ?v0 ?v1 ?v2 ?z9); (case v0 => walk_at "fz"); (case v1 => exact rfl))
  | (refine ⟨_, rfl, ?_⟩)
  | (refine ⟨_, _, rfl, ?_⟩)
  | fail)
/-- steps, and ifs whose test is told -/
local macro_rules | `(tactic| walk_at "D") => `(tactic| repeat (first
  | walk_at "d"
  | refine ifT rfl ?_
  | refine ifF rfl ?_))
/-- the environment written out -/
local macro_rules | `(tactic| walk_at "nrm") => `(tactic| first | (dsimp only [En.put, En.add, En.cell, List.set_cons_zero, List.set_cons_succ, List.cons_append, List.nil_append, List.length_cons, List.length_nil, Nat.zero_add, Nat.reduceAdd]) | skip)

/-- .. with what was frozen and forgotten -/
local macro_rules | `(tactic| walk_at "nr2") => `(tactic| first | (dsimp only [En.start, En.put, En.add, En.cell, En.frz, En.frzD, En.clr, frzA_d, frzA_c, mapC, mapN, Option.map_some, Option.map_none, List.set_cons_zero, List.set_cons_succ, List.cons_append, List.nil_append, List.length_cons, List.length_nil, Nat.zero_add, Nat.reduceAdd, Nat.reduceSub, List.replicate_succ, List.replicate_zero, ↓reduceIte, Nat.reduceEqDiff, reduceCtorEq]) | skip)
/-! ### dict of a list of pairs -/
section
variable {K : PySem.W.Frag} {F : Fx} {ρ : En} {k : AV → En → Prop}
theorem Reps.pairs {G H : Hp} (s : Same G H) : ∀ {ds : List D} {vs : List V}, (∀ d ∈ ds, ∃ i e, d = D.tup [.int i, e]) → Reps K G ds vs → ∃ (ps : List Addr) (kvs : List (Key × V)), vs = ps.map V.ref ∧ Paired (fun p (kv : Key × V) => SqT K H p [kV kv.1, kv.2]) ps kvs
  | [], _, _, h => by cases h; exact ⟨[], [], rfl, .nil⟩
  | d :: ds, _, hd, h => by
    cases h with
    | cons a b =>
      obtain ⟨ps, kvs, rfl, pr⟩ := Reps.pairs s (fun x m => hd x (List.mem_cons_of_mem _ m)) b
      obtain ⟨i, e, rfl⟩ := hd d List.mem_cons_self
      obtain ⟨p, ws, rfl, hs, hr⟩ := Rep.tupE a
      cases hr with
      | cons x y =>
        cases y with
        | cons y z =>
          cases z
          cases x
          exact ⟨p :: ps, (.inl i, _) :: kvs, rfl, .cons (Same.seqT s hs) pr⟩
theorem wc_dict {x : AV} {ds : List D} (hx : IsL ρ x ds) (hd : ∀ d ∈ ds, ∃ i e, d = D.tup [.int i, e]) (hk : k (.dat .dic) ρ) : WpC K F (fun xs H Q => ∃ (a : Addr) (ps : List Addr) (kvs : List (Key × V)), xs = [.ref a] ∧ SqL K H a (ps.map V.ref) ∧ Paired (fun p (kv : Key × V) => SqT K H p [kV kv.1, kv.2]) ps kvs ∧ ∀ p, H p = none → Q (.ref p) (upd H p (.dK (mergeK [] kvs)))) [x] ρ k := fun as σ H G vs e r Q q => by
  cases r with
  | cons r c =>
    cases c
    obtain ⟨a, vs, rfl, hs, hr⟩ := hx.rep e r
    obtain ⟨ps, kvs, rfl, pr⟩ := Reps.pairs e.gh hd hr
    refine ⟨a, ps, kvs, rfl, hs, pr, fun p hp => ?_⟩
    obtain ⟨e3, g3⟩ := e.newG (o := .dK (mergeK [] kvs)) hp
    exact q _ _ _ _ _ _ hk e3 g3 (Rep.dic upd_same)
end
local macro_rules | `(tactic| walk_at "cat") => `(tactic| refine wr_cat (by walk_at "il") (by walk_at "il") (by simp only [List.length_append, List.length_map, List.length_cons, List.length_nil]; omega) ?_)
local macro_rules | `(tactic| walk_at "E") => `(tactic| repeat (first
  | (with_reducible refine ws_seq ?_; walk_at "nr2")
  | walk_at "d"
  | refine we_dnew ?_
  | refine ifT rfl ?_
  | refine ifF rfl ?_))
section
variable {P : Program} {w : World} {K : PySem.W.Frag} {mg : Str → Option Value} {base : Heap}
theorem pls_app {a b : List D} (h : pls a = true) (k : pls b = true) : pls (a ++ b) = true := by
  induction a with
  | nil => exact k
  | cons x a ih =>
    obtain ⟨h1, h2⟩ := pls_cons h
    show (pl x && pls (a ++ b)) = true
    rw [h1, ih h2]; rfl
theorem bad_mid {a b : List D} {d : D} (h : isEd d = false) : isEds (.lst (a ++ [d] ++ b)) = false := by
  show (a ++ [d] ++ b).all isEd = false
  rw [List.all_append, List.all_append, List.all_cons, h]
  simp
def Bad (d : D) : Prop := pl d = true ∧ isEds d = false
def wBadEdits : PW0 := fun xs cs post _ => ∃ es : List Ed, xs = [.cel 0, .dat (.lst (es.map eD))] ∧ cs = [.drw] ∧ es.length ≤ 7 ∧ (∀ d, Bad d → post (.dat d) [.drw]) ∧ (∀ ds, Bad (.lst ds) → post (.new ds) [.drw])
theorem cut_pl {bs : List D} (h : pls bs = true) (lo hi : Option Int) : pls (cutD bs lo hi) = true ∧ (cutD bs lo hi).length ≤ bs.length := by
  refine ⟨?_, ?_⟩
  · have main : ∀ (l : List D), (∀ d ∈ l, pl d = true) → pls l = true := by
      intro l
      induction l with
      | nil => intro _; rfl
      | cons x l ih =>
        intro h
        show (pl x && pls l) = true
        rw [h x List.mem_cons_self, ih fun d m => h d (List.mem_cons_of_mem _ m)]; rfl
    exact main _ fun d m => pls_mem h d (List.mem_of_mem_drop (List.mem_of_mem_take (show d ∈ (bs.drop _).take _ from m)))
  · unfold cutD
    rw [List.length_take, List.length_drop]
    omega
theorem ok_l_bad_edits (T : Txt K mg) : FnOk P w K mg base CX0 3 T.a_l_bad_edits T.d_l_bad_edits ["_law_state", "_law_edits_here"] (spG K wBadEdits) := by
  refine T.F_l_bad_edits.ok sc_l_bad_edits (fun vs H Q E h => spG_len h fun xs cs post exc ⟨a, e, _⟩ => by rw [e]; rfl) (fun cdv A outer s H vs Q E hr h => ⟨_, (pss_cons (ps_set (i := 2) sc_l_bad_edits.nd rfl (Or.inl rfl) (pe_call (ok_l_digit T) (hr.mono (by decide)) (by rfl) T.g_l_digit T.F_l_digit.kp T.b_l_digit .nil pass0 (pa_cons (pv 0) (pa_cons pe_int pa_nil))))
      (pss_cons (ps_set (i := 3) sc_l_bad_edits.nd rfl (Or.inl rfl) (pe_call (ok_l_digit T) (hr.mono (by decide)) (by rfl) T.g_l_digit T.F_l_digit.kp T.b_l_digit .nil pass0 (pa_cons (pv 0) (pa_cons (pe_op op_add (pe_callB call_len_seq (by rfl) T.m_len (by decide +kernel) (pa_cons (pv 1) pa_nil)) pe_int) pa_nil))))
      (pss_cons (ps_set (i := 4) sc_l_bad_edits.nd rfl (Or.inl rfl) (pe_call (ok_l_odd_edit T) (hr.mono (by decide)) (by rfl) T.g_l_odd_edit T.F_l_odd_edit.kp T.b_l_odd_edit .nil pass0 (pa_cons (pv 0) (pa_cons (pe_ix ix_list (pe_op op_catF (pv 1) (pe_lst (pa_cons (pe_tup (pa_cons (pe_tup (pa_cons pe_int (pa_cons pe_int pa_nil))) (pa_cons (pe_tup (pa_cons pe_int (pa_cons pe_int pa_nil))) (pa_cons (pe_tup (pa_cons pe_int (pa_cons pe_int pa_nil))) pa_nil)))) pa_nil))) (pv 3) (fun _ _ => rfl)) pa_nil))))
      (pss_cons (ps_if (pt_cmpR op_eq (pv 2) pe_int (nomark _)) (pss_cons (ps_set (i := 5) sc_l_bad_edits.nd rfl (Or.inl rfl) (pe_lst (pa_cons pe_non (pa_cons pe_int (pa_cons pe_bl (pa_cons pe_str (pa_cons pe_str (pa_cons (pe_callTy call_tuple_of (by rfl) T.m_tuple (by decide +kernel) (pa_cons (pv 1) pa_nil)) (pa_cons pe_dnewK (pa_cons (pe_tup (pa_cons pe_int (pa_cons pe_int pa_nil))) (pa_cons (pe_callTy (call_dictP rfl) (by rfl) T.m_dict (by decide +kernel) (pa_cons (pe_lc (own := [("_law_k", 6)]) (g := gName 6) (tt := tYes) (by rfl) sc_l_bad_edits.nd (pi_range1 (by rfl) T.m_range (pa_cons pe_int pa_nil)) (blkOk_by (own := [("_law_k", 6)]) (N := N_l_bad_edits) (sc := defScope s_l_bad_edits) (by decide +kernel)) (fun _ _ _ _ _ => (pg_name (i := 6) sc_l_bad_edits.nd rfl (Or.inl rfl))) (fun _ _ _ _ _ => pts_nil) (fun _ _ _ _ _ => (pe_tup (pa_cons (pv 6) (pa_cons (pv 6) pa_nil))))) pa_nil)) pa_nil)))))))))))
      (pss_one (ps_ret (pe_ix ix_list (pv 5) (pe_call (ok_l_digit T) (hr.mono (by decide)) (by rfl) T.g_l_digit T.F_l_digit.kp T.b_l_digit .nil pass0 (pa_cons (pv 0) (pa_cons pe_int pa_nil))) (fun _ _ => rfl))))) pss_nil)
      (pss_cons (ps_if (pt_cmpR op_eq (pv 2) pe_int (nomark _)) (pss_one (ps_ret (pe_op op_catF (pe_op op_catF (pe_slice sl_list (pv 1) po_none (po_some (pv 3))) (pe_lst (pa_cons (pv 4) pa_nil))) (pe_slice sl_list (pv 1) (po_some (pv 3)) po_none)))) pss_nil)
      (pss_one (ps_ret (pe_op op_catF (pe_op op_catF (pe_slice sl_list (pv 1) po_none (po_some (pv 3))) (pe_lst (pa_cons (pv 4) pa_nil))) (pe_slice sl_list (pv 1) (po_some (pe_op op_add (pv 3) pe_int)) po_none))))))))), enter h fun F xs cs post hE hw => ?_⟩)
  obtain ⟨es, rfl, rfl, ln, q1, q2⟩ := hw
  walk_at "E"
  refine wsp_digit rfl (by decide) (by decide) fun w w0 w1 => ?_
  walk_at "E"
  refine wsp_digit rfl (by rw [List.length_map]; omega) (by rw [List.length_map]; omega) fun a a0 a1 => ?_
  rw [List.length_map] at a1
  walk_at "E"
  walk_at "cat"
  walk_at "E"
  refine wr_ixA (by walk_at "il") a0 (by rw [List.length_append, List.length_map, List.length_singleton]; omega) fun x m => ?_
  obtain ⟨e, rfl⟩ : ∃ e : Ed, x = eD e := by
    rcases List.mem_append.mp m with m | m
    · obtain ⟨e, _, rfl⟩ := List.mem_map.mp m; exact ⟨e, rfl⟩
    · rw [List.mem_singleton] at m; exact ⟨⟨1, some 0, 1⟩, m⟩
  walk_at "E"
  walk_at "cd"
  refine ⟨e, rfl, rfl, fun d od => ⟨rfl, rfl, ?_⟩⟩
  walk_at "E"
  refine ifC (fun c => ?_) (fun c => ?_)
  · walk_at "E"
    refine ⟨by decide, ?_⟩
    walk_at "nr2"
    generalize hB : List.map eD es ++ [D.tup [D.tup [.int 1, .int 1], D.tup [.int 0, .int 1], D.tup [.int 1, .int 1]]] = B
    refine loopC_rng (fun i ρ => ∃ acc : List D, ρ = ⟨[some (.cel 0), some (.dat (.lst (es.map eD))), some (.dat (.int w)), some (.dat (.int a)), some (.dat d), none, none], [.drw, .lst [D.tup [D.tup [.int 1, .int 1], D.tup [.int 0, .int 1], D.tup [.int 1, .int 1]]], .lst B, .lst acc]⟩ ∧ acc.length = i ∧ ∀ x ∈ acc, ∃ i e, x = D.tup [.int i, e]) ⟨[], rfl, rfl, fun _ m => nomatch m⟩ ?_ ?_
    · rintro ρ ⟨acc, rfl, hl, hacc⟩
      refine ⟨trivial, ?_⟩
      walk_at "E"
      refine wc_dict (.cel rfl) hacc ?_
      walk_at "E"
      refine wsp_digit rfl (by decide) (by decide) fun k k0 k1 => ?_
      walk_at "E"
      refine wr_ixA (.cel rfl) k0 (show (k : Int) < 9 from k1) fun x m => ?_
      refine fin_dat rfl (q1 x ?_)
      have pt : Bad (.tup (es.map eD)) := ⟨by rw [pl]; exact pls_eD es, rfl⟩
      exact all_cons (p := Bad) ⟨rfl, rfl⟩ (all_cons ⟨rfl, rfl⟩ (all_cons ⟨rfl, rfl⟩ (all_cons ⟨rfl, rfl⟩ (all_cons ⟨rfl, rfl⟩ (all_cons pt (all_cons ⟨rfl, rfl⟩ (all_cons ⟨rfl, rfl⟩ (all_cons ⟨rfl, rfl⟩ all_nil)))))))) x m
    · rintro i ρ hi ⟨acc, rfl, hl, hacc⟩
      refine ⟨trivial, ?_⟩
      walk_at "E"
      · omega
      rw [Int.zero_add]
      exact now ⟨acc ++ [.tup [.int i, .int i]], rfl, by rw [List.length_append, hl]; rfl, fun x m => by
        rcases List.mem_append.mp m with m | m
        · exact hacc x m
        · exact ⟨_, _, List.mem_singleton.mp m⟩⟩
  · walk_at "E"
    refine ifC (fun c => ?_) (fun c => ?_)
    · walk_at "E"
      have hX := cut_pl (pls_eD es) none (some a)
      generalize cutD (es.map eD) none (some a) = X at *
      obtain ⟨pX, lX⟩ := hX
      rw [List.length_map] at lX
      walk_at "E"
      walk_at "cat"
      walk_at "E"
      have hY := cut_pl (pls_eD es) (some a) none
      generalize cutD (es.map eD) (some a) none = Y at *
      obtain ⟨pY, lY⟩ := hY
      rw [List.length_map] at lY
      walk_at "E"
      walk_at "cat"
      exact ⟨_, .cel (Nat.le_of_ble_eq_true rfl) rfl, rfl, q2 _ ⟨pls_app (pls_app pX (show (pl d && pls []) = true by rw [od.1]; rfl)) pY, bad_mid od.2⟩⟩
    · walk_at "E"
      have hX := cut_pl (pls_eD es) none (some a)
      generalize cutD (es.map eD) none (some a) = X at *
      obtain ⟨pX, lX⟩ := hX
      rw [List.length_map] at lX
      walk_at "E"
      walk_at "cat"
      walk_at "E"
      have hY := cut_pl (pls_eD es) (some (a + 1)) none
      generalize cutD (es.map eD) (some (a + 1)) none = Y at *
      obtain ⟨pY, lY⟩ := hY
      rw [List.length_map] at lY
      walk_at "E"
      walk_at "cat"
      exact ⟨_, .cel (Nat.le_of_ble_eq_true rfl) rfl, rfl, q2 _ ⟨pls_app (pls_app pX (show (pl d && pls []) = true by rw [od.1]; rfl)) pY, bad_mid od.2⟩⟩
end
/-- arguments as data -/
local macro_rules | `(tactic| walk_at "as") => `(tactic| first
  | exact AsD.nil
  | (apply AsD.dat; walk_at "as")
  | (apply AsD.cel rfl; walk_at "as")
  | fail)
local macro_rules | `(tactic| walk_at "fz") => `(tactic| first
  | exact Frz.nil
  | (apply Frz.dat; walk_at "fz")
  | (apply Frz.cel rfl; walk_at "fz")
  | (apply Frz.ins rfl; walk_at "fz")
  | fail)
local macro_rules | `(tactic| walk_at "il") => `(tactic| first
  | exact IsL.dat _
  | exact IsL.cel rfl
  | exact IsL.scr _
  | fail)
local macro_rules | `(tactic| walk_at "od") => `(tactic| first
  | exact OfD.dat _
  | exact OfD.cel rfl
  | fail)
local macro_rules | `(tactic| walk_at "on") => `(tactic| first
  | exact only_name (by simp)
  | (refine only_tup ?_; repeat first | exact onlys_nil | refine onlys_cons (by simp) ?_)
  | fail)
/-- a call: its arguments as data -/
local macro_rules | `(tactic| walk_at "c") => `(tactic| (refine' wspE ?q1 ?z9; (case q1 => walk_at "as")))
local macro_rules | `(tactic| walk_at "cx") => `(tactic| (refine' wspX ?q1 ?z9; (case q1 => walk_at "as")))
local macro_rules | `(tactic| walk_at "al") => `(tactic| first
  | exact AsL.nil
  | (apply AsL.dat; walk_at "al")
  | (apply AsL.own; walk_at "al")
  | (apply AsL.cel (Nat.ne_of_beq_eq_false rfl) rfl; walk_at "al")
  | fail)
/-- a call that is lent a cell -/
local macro_rules | `(tactic| walk_at "c1") => `(tactic| (refine' wsp1 ?q1 ?q2 ?q3 ?z9; (case q1 => rfl); (case q2 => rfl); (case q3 => rfl)))
local macro_rules | `(tactic| walk_at "c2") => `(tactic| (refine' wsp2 ?q1 ?q2 ?q3 ?z9; (case q1 => rfl); (case q2 => rfl); (case q3 => walk_at "al")))
local macro_rules | `(tactic| walk_at "cd") => `(tactic| (refine' wspD ?q1 ?q2 ?z9; (case q2 => walk_at "al"); (case q1 => rfl)))
/-- one step by data -/
local macro_rules | `(tactic| walk_at "d") => `(tactic| first
  | with_reducible refine ws_seq ?_
  | with_reducible refine ws_asg ?_
  | with_reducible refine ws_ret ?_
  | with_reducible refine ws_if ?_
  | with_reducible refine ws_drop ?_
  | with_reducible refine ws_par ?_
  | with_reducible refine ws_next ?_
  | with_reducible refine ws_retN ?_
  | with_reducible refine ws_break ?_
  | with_reducible refine ws_cont ?_
  | with_reducible refine ws_for ?_
  | ((with_reducible refine' we_var ?v1 ?z9); (case v1 => exact rfl))
  | with_reducible refine we_ci ?_
  | with_reducible refine we_cs ?_
  | with_reducible refine we_cn ?_
  | with_reducible refine we_cb ?_
  | with_reducible refine we_ct ?_
  | with_reducible refine we_op ?_
  | with_reducible refine we_un ?_
  | with_reducible refine we_tCB ?_
  | with_reducible refine wa_nil ?_
  | with_reducible refine wa_cons ?_
  | with_reducible refine we_andV ?_
  | with_reducible refine we_orV ?_
  | with_reducible refine we_notV ?_
  | with_reducible refine we_if ?_
  | with_reducible refine wt_test ?_
  | with_reducible refine wt_B ?_
  | with_reducible refine wt_and ?_
  | with_reducible refine wt_or ?_
  | with_reducible refine wt_not ?_
  | with_reducible refine wt_yes ?_
  | with_reducible refine wt_tru ?_
  | with_reducible refine we_tup ?_
  | with_reducible refine we_lst ?_
  | with_reducible refine we_call ?_
  | with_reducible refine we_callS ?_
  | with_reducible refine wo_none ?_
  | with_reducible refine wo_some ?_
  | with_reducible refine wi_rng1 ?_
  | with_reducible refine wi_rng2 ?_
  | with_reducible refine wg_name ?_
  | with_reducible refine wg_sub ?_
  | with_reducible refine wgs_nil ?_
  | with_reducible refine wgs_cons ?_
  | with_reducible refine wgs_consM ?_
  | with_reducible refine wgs_nilM ?_
  | with_reducible refine wr_I0i ?_
  | with_reducible refine wr_I0b ?_
  | with_reducible refine wr_isN ?_
  | with_reducible refine wr_notN ?_
  | with_reducible refine wr_isB ?_
  | with_reducible refine wr_isnotB ?_
  | (with_reducible refine wu_neg ?_)
  | with_reducible refine wc_abs ?_
  | ((with_reducible refine' wr_eq ?v1 ?z9); (case v1 => exact rfl))
  | ((with_reducible refine' wr_ne ?v1 ?z9); (case v1 => exact rfl))
  | ((with_reducible refine' we_lc ?v0 ?z9); (case v0 => walk_at "on"))
  | ((with_reducible refine' wm_append ?v0 ?v1 ?v2 ?z9); (case v0 => walk_at "fz"); (case v1 => exact rfl))
  | refine we_bm ?_
  | refine we_bm0 ?_
  | refine we_slL ?_
  | refine wi_list ?_
  | refine wi_tup ?_
  | ((refine' wg_tup ?v1 ?z9); (case v1 => exact rfl))
  | ((refine' wr_ixT ?v1 ?z9); (case v1 => exact rfl))
  | ((refine' wr_ixL ?v0 ?v1 ?z9); (case v0 => walk_at "il"); (case v1 => exact rfl))
  | refine wc_lenT ?_
  | ((refine' wc_lenL ?v0 ?z9); (case v0 => walk_at "il"))
  | ((refine' wc_isi ?v0 ?v1 ?z9); (case v0 => simp); (case v1 => exact rfl))
  | ((refine' wc_isiC ?v0 ?v1 ?z9); (case v0 => simp); (case v1 => exact rfl))
  | ((refine' wc_list ?v0 ?z9); (case v0 => walk_at "il"))
  | refine wc_listT ?_
  | ((refine' wc_tuple ?v0 ?z9); (case v0 => walk_at "il"))
  | (first | refine ⟨⟨_, _, rfl, rfl, rfl⟩, ?_⟩ | refine ⟨⟨_, _, rfl, rfl, fun z => by cases z⟩, ?_⟩ | fail)
  | ((with_reducible refine' frz_in ?v0 ?v1 ?z9); (case v0 => walk_at "fz"); (case v1 => exact rfl))
  | ((with_reducible refine' il_in ?v0 ?z9); (case v0 => walk_at "il"))
  | ((with_reducible refine' lc_in ?v0 ?v1 ?v2 ?z9); (case v0 => walk_at "fz"); (case v1 => exact rfl))
  | (refine ⟨_, rfl, ?_⟩)
  | (refine ⟨_, _, rfl, ?_⟩)
  | fail)
/-- steps, and ifs whose test is told -/
local macro_rules | `(tactic| walk_at "D") => `(tactic| repeat (first
  | walk_at "d"
  | refine ifT rfl ?_
  | refine ifF rfl ?_))
/-- the environment written out -/
local macro_rules | `(tactic| walk_at "nrm") => `(tactic| first | (dsimp only [En.put, En.add, En.cell, List.set_cons_zero, List.set_cons_succ, List.cons_append, List.nil_append, List.length_cons, List.length_nil, Nat.zero_add, Nat.reduceAdd]) | skip)

/-- .. with what was frozen and forgotten -/
local macro_rules | `(tactic| walk_at "nr2") => `(tactic| first | (dsimp only [En.start, En.put, En.add, En.cell, En.frz, En.frzD, En.clr, frzA_d, frzA_c, mapC, mapN, Option.map_some, Option.map_none, List.set_cons_zero, List.set_cons_succ, List.cons_append, List.nil_append, List.length_cons, List.length_nil, Nat.zero_add, Nat.reduceAdd, Nat.reduceSub, List.replicate_succ, List.replicate_zero, ↓reduceIte, Nat.reduceEqDiff, reduceCtorEq]) | skip)
/-! ### isinstance of a caught error, whatever its class -/
theorem call_isE2 {X : Cx} {K : PySem.W.Frag} {a : Addr} {oe : Obj} {cls : Value} {d : Option Addr} {pn : List (Addr × Obj)} (hK : X.K = K) (hz : Zc cls d oe) (hf : ∃ vs, oe.data = .fields vs) :
    CallR (X.suite a ((a, oe) :: pn)) (.builtin "isinstance") (fun xs H Q => ∃ D, cls = .ref D ∧ d = none ∧ ExcC K D ∧ rIsE K D a xs H Q) := by
  subst hK
  intro pins s σ H xs us Q I r h
  obtain ⟨D, rfl, rfl, C, h⟩ := h
  exact call_isE C hz hf pins s σ H xs us Q I r h
/-! ### a try as one word -/
def tTry (K : PySem.W.Frag) (tb : WX → TS) (Wo : WX) (l : List (Value × Option Nat × Suite)) : TS := fun D u G => tb (wMix K Wo D l) D u G
theorem ps_tryT {X : Cx} {body : List Stmt} {h1 : ExceptHandler} {hds : List ExceptHandler} {l : List (Value × Option Nat × Suite)} {pos : Pos} {tb : WX → TS} {Wo : WX} (hs : X.stack = X.env :: X.outer) (hf : X.env.frame = some X.env.locals) (tk : Takes X Wo)
    (hb : ∀ W pn xe, Takes (X.tr pn xe) W → PassesOwn (model X.prog X.w) X.A X.env xe → PSs (X.tr pn xe) body (tb W)) (hh : Clauses X (h1 :: hds) l) :
    PS X (.Try body (h1 :: hds) [] [] pos) (tTry X.K tb Wo l) := ps_try_mix hs hf tk hb hh
section
variable {K : PySem.W.Frag} {F : Fx} {ρ : En} {k : AV → En → Prop} {ks : KS}
theorem ws_tryT {tb : WX → TS} {l : List (Value × Option Nat × Suite)} (xk : Addr → En → Prop)
    (hb : ∀ (F1 : Fx) (W : WX), F1.fr = F.fr → (∀ C ρ' as σ H G, xk C ρ' → EnvOk K F1 ρ' as σ H G → W (.ref C) none σ H) → WpS K F1 (tb W) ρ ks)
    (hs : ∀ C ρ', xk C ρ' → Mix K F C False l ρ' ks) : WpS K F (tTry K tb (fun _ _ _ _ => False) l) ρ ks := ws_try0 xk hb hs
end
section
variable {P : Program} {w : World} {K : PySem.W.Frag} {mg : Str → Option Value} {base : Heap}
def wDeed (C1 C2 : Addr) : PW0 := fun xs cs post exc => ∃ (m : Int) (d g t : D), xs = [.dat (.int m), .dat d, .dat g, .dat t] ∧ cs = [] ∧ pl d = true ∧ pl g = true ∧ pl t = true ∧ ((isEds d = false ∧ exc C1) ∨ (isEds d = true ∧ isMo t = false ∧ m = 0 ∧ exc C2))
theorem and_f1 {a b : Bool} (h : a = false) : (a && b) = false := by rw [h]; rfl
theorem and_f2 {a b : Bool} (h : b = false) : (a && b) = false := by rw [h, Bool.and_false]
theorem ok_l_deed (T : Txt K mg) : FnOk P w K mg base (L2.CX P w) 8 T.a_l_deed T.d_l_deed ["_law_way", "_law_bad", "_law_good", "_law_t"] (spG K (wDeed T.c_NoEdits T.c_NoMoment)) := by
  refine T.F_l_deed.okX sc_l_deed (fun vs H Q E h => spG_len h fun xs cs post exc ⟨m, d, g, t, e, _⟩ => by rw [e]; rfl) (fun cdv A outer s H vs Q E hr h => ⟨_, (pss_cons (ps_if (pt_cmpR op_eq (pv 0) pe_int (nomark _)) (pss_one (ps_ret (pe_call (ok_mapped T) (hr.mono (by decide)) (by rfl) T.g_mapped T.F_mapped.kp T.b_mapped .nil (passes_call (takes_of rfl rfl rfl rfl) (fun _ _ _ _ h => h)) (pa_cons (pv 1) (pa_cons (pv 3) pa_nil))))) pss_nil)
      (pss_cons (ps_if (pt_cmpR op_eq (pv 0) pe_int (nomark _)) (pss_one (ps_ret (pe_call (ok_part T) (hr.mono (by decide)) (by rfl) T.g_part T.F_part.kp T.b_part .nil (passes_call (takes_of rfl rfl rfl rfl) (fun _ _ _ _ h => h)) (pa_cons (pv 1) (pa_cons (pv 3) (pa_cons (pv 3) pa_nil)))))) pss_nil)
      (pss_cons (ps_if (pt_cmpR op_eq (pv 0) pe_int (nomark _)) (pss_one (ps_ret (pe_call (ok_stretches T) (hr.mono (by decide)) (by rfl) T.g_stretches T.F_stretches.kp T.b_stretches .nil (passes_call (takes_of rfl rfl rfl rfl) (fun _ _ _ _ h => h)) (pa_cons (pv 1) (pa_cons (pv 3) (pa_cons (pv 3) pa_nil)))))) pss_nil)
      (pss_cons (ps_if (pt_cmpR op_eq (pv 0) pe_int (nomark _)) (pss_one (ps_ret (pe_call (ok_over T) (hr.mono (by decide)) (by rfl) T.g_over T.F_over.kp T.b_over .nil (passes_call (takes_of rfl rfl rfl rfl) (fun _ _ _ _ h => h)) (pa_cons (pv 1) (pa_cons (pv 2) pa_nil))))) pss_nil)
      (pss_cons (ps_if (pt_cmpR op_eq (pv 0) pe_int (nomark _)) (pss_one (ps_ret (pe_call (ok_over T) (hr.mono (by decide)) (by rfl) T.g_over T.F_over.kp T.b_over .nil (passes_call (takes_of rfl rfl rfl rfl) (fun _ _ _ _ h => h)) (pa_cons (pv 2) (pa_cons (pv 1) pa_nil))))) pss_nil)
      (pss_cons (ps_if (pt_cmpR op_eq (pv 0) pe_int (nomark _)) (pss_one (ps_ret (pe_call (ok_after T) (hr.mono (by decide)) (by rfl) T.g_after T.F_after.kp T.b_after .nil (passes_call (takes_of rfl rfl rfl rfl) (fun _ _ _ _ h => h)) (pa_cons (pv 1) (pa_cons (pv 2) pa_nil))))) pss_nil)
      (pss_cons (ps_if (pt_cmpR op_eq (pv 0) pe_int (nomark _)) (pss_one (ps_ret (pe_call (ok_after T) (hr.mono (by decide)) (by rfl) T.g_after T.F_after.kp T.b_after .nil (passes_call (takes_of rfl rfl rfl rfl) (fun _ _ _ _ h => h)) (pa_cons (pv 2) (pa_cons (pv 1) pa_nil))))) pss_nil)
      (pss_cons (ps_if (pt_cmpR op_eq (pv 0) pe_int (nomark _)) (pss_one (ps_ret (pe_call (ok_parted T) (hr.mono (by decide)) (by rfl) T.g_parted T.F_parted.kp T.b_parted .nil (passes_call (takes_of rfl rfl rfl rfl) (fun _ _ _ _ h => h)) (pa_cons (pv 1) (pa_cons (pv 2) pa_nil))))) pss_nil)
      (pss_cons (ps_if (pt_cmpR op_eq (pv 0) pe_int (nomark _)) (pss_one (ps_ret (pe_call (ok_parted T) (hr.mono (by decide)) (by rfl) T.g_parted T.F_parted.kp T.b_parted .nil (passes_call (takes_of rfl rfl rfl rfl) (fun _ _ _ _ h => h)) (pa_cons (pv 2) (pa_cons (pv 1) pa_nil))))) pss_nil)
      (pss_cons (ps_if (pt_cmpR op_eq (pv 0) pe_int (nomark _)) (pss_one (ps_ret (pe_call (ok_tidy T) (hr.mono (by decide)) (by rfl) T.g_tidy T.F_tidy.kp T.b_tidy .nil (passes_call (takes_of rfl rfl rfl rfl) (fun _ _ _ _ h => h)) (pa_cons (pv 1) pa_nil)))) pss_nil)
      (pss_one (ps_ret (pe_call (ok_total T) (hr.mono (by decide)) (by rfl) T.g_total T.F_total.kp T.b_total .nil (passes_call (takes_of rfl rfl rfl rfl) (fun _ _ _ _ h => h)) (pa_cons (pv 1) pa_nil)))))))))))))), enter h fun F xs cs post hE hw => ?_⟩)
  obtain ⟨m, d, g, t, rfl, rfl, p1, p2, p3, hq⟩ := hw
  subst hE
  rcases hq with ⟨bad, q⟩ | ⟨good, odd, rfl, q⟩
  · walk_at "D"
    refine ifC (fun c => ?_) (fun c => ?_)
    · walk_at "D"
      walk_at "cx"
      exact ⟨d, t, rfl, rfl, p1, p3, fun _ => q, (fun z => by rw [bad] at z; cases z), fun es r e1 _ ok _ => nEds bad e1 ok⟩
    walk_at "D"
    refine ifC (fun c => ?_) (fun c => ?_)
    · walk_at "D"
      walk_at "cx"
      exact ⟨d, t, t, rfl, rfl, p1, p3, p3, fun _ => q, (fun z => by rw [bad] at z; cases z)⟩
    walk_at "D"
    refine ifC (fun c => ?_) (fun c => ?_)
    · walk_at "D"
      walk_at "cx"
      exact ⟨d, t, t, rfl, rfl, p1, p3, p3, fun _ => q, (fun z => by rw [bad] at z; cases z)⟩
    walk_at "D"
    refine ifC (fun c => ?_) (fun c => ?_)
    · walk_at "D"
      walk_at "cx"
      exact ⟨d, g, rfl, rfl, p1, p2, and_f1 bad, q⟩
    walk_at "D"
    refine ifC (fun c => ?_) (fun c => ?_)
    · walk_at "D"
      walk_at "cx"
      exact ⟨g, d, rfl, rfl, p2, p1, and_f2 bad, q⟩
    walk_at "D"
    refine ifC (fun c => ?_) (fun c => ?_)
    · walk_at "D"
      walk_at "cx"
      exact ⟨d, g, rfl, rfl, p1, p2, and_f1 bad, q⟩
    walk_at "D"
    refine ifC (fun c => ?_) (fun c => ?_)
    · walk_at "D"
      walk_at "cx"
      exact ⟨g, d, rfl, rfl, p2, p1, and_f2 bad, q⟩
    walk_at "D"
    refine ifC (fun c => ?_) (fun c => ?_)
    · walk_at "D"
      walk_at "cx"
      exact ⟨d, g, rfl, rfl, p1, p2, and_f1 bad, q⟩
    walk_at "D"
    refine ifC (fun c => ?_) (fun c => ?_)
    · walk_at "D"
      walk_at "cx"
      exact ⟨g, d, rfl, rfl, p2, p1, and_f2 bad, q⟩
    walk_at "D"
    refine ifC (fun c => ?_) (fun c => ?_)
    · walk_at "D"
      walk_at "cx"
      exact ⟨d, rfl, rfl, p1, fun _ => q, fun es e1 ok => nEds bad e1 ok⟩
    walk_at "D"
    walk_at "cx"
    exact ⟨d, rfl, rfl, p1, fun _ => q, fun es e1 ok => nEds bad e1 ok⟩
  · walk_at "D"
    walk_at "cx"
    refine ⟨d, t, rfl, rfl, p1, p3, (fun z => by rw [good] at z; cases z), fun _ _ => q, fun es r _ e2 _ r0 => ?_⟩
    subst e2
    rw [isMo_fD, decide_eq_true (num_nonneg.mpr r0)] at odd
    cases odd
def wKind : PW0 := fun xs cs post _ => ∃ (m : Int) (d g t : D), xs = [.dat (.int m), .dat d, .dat g, .dat t] ∧ cs = [] ∧ pl d = true ∧ pl g = true ∧ pl t = true ∧ ((isEds d = false ∧ post (.dat (.str "edits")) []) ∨ (isEds d = true ∧ isMo t = false ∧ m = 0 ∧ post (.dat (.str "moment")) []))
theorem ok_l_kind (T : Txt K mg) : FnOk P w K mg base CX0 9 T.a_l_kind T.d_l_kind ["_law_way", "_law_bad", "_law_good", "_law_t"] (spG K wKind) := by
  refine T.F_l_kind.ok sc_l_kind (fun vs H Q E h => spG_len h fun xs cs post exc ⟨m, d, g, t, e, _⟩ => by rw [e]; rfl) (fun cdv A outer s H vs Q E hr h => ⟨_, (pss_cons (ps_set (i := 4) sc_l_kind.nd rfl (Or.inl rfl) pe_str)
      (pss_cons (ps_tryT rfl rfl takes0
        (fun W pn xe tk po => (pss_one (ps_expr (pe_callS (ok_l_deed T) (hr.mono (by decide)) (by rfl) T.g_l_deed T.F_l_deed.kp T.b_l_deed (fun σ => passAt tk σ) (pa_cons (pv 0) (pa_cons (pv 1) (pa_cons (pv 2) (pa_cons (pv 3) pa_nil))))))))
        (.named (i := 5) sc_l_kind.nd rfl rfl ⟨rfl, by decide, .inl T.g_ScrollError⟩ (fun a oe cls d pn hz hf => (pss_cons (ps_set (i := 4) sc_l_kind.nd rfl (Or.inl rfl) pe_str)
      (pss_cons (ps_if (PW.pt (pw_and (pt_val (pe_callB (call_isE2 (K := K) rfl hz hf) (by rfl) T.m_isinstance (by decide +kernel) (pa_cons (pv 5) (pa_cons (pe_glob (v := .ref T.c_NoEdits) (by rfl) T.g_NoEdits rfl) pa_nil)))) (pw_and (pt_val (pe_callB (call_isE2 (K := K) rfl hz hf) (by rfl) T.m_isinstance (by decide +kernel) (pa_cons (pv 5) (pa_cons (pe_bltn (v := .ty "ValueError") (by rfl) T.m_ValueError (by decide +kernel) rfl) pa_nil)))) (pw_and1 (pt_not (pt_val (pe_callB (call_isE2 (K := K) rfl hz hf) (by rfl) T.m_isinstance (by decide +kernel) (pa_cons (pv 5) (pa_cons (pe_glob (v := .ref T.c_NoMoment) (by rfl) T.g_NoMoment rfl) pa_nil))))))))) (pss_one (ps_set (i := 4) sc_l_kind.nd rfl (Or.inl rfl) pe_str)) pss_nil)
      (pss_one (ps_if (PW.pt (pw_and (pt_val (pe_callB (call_isE2 (K := K) rfl hz hf) (by rfl) T.m_isinstance (by decide +kernel) (pa_cons (pv 5) (pa_cons (pe_glob (v := .ref T.c_NoMoment) (by rfl) T.g_NoMoment rfl) pa_nil)))) (pw_and1 (pt_not (pt_val (pe_callB (call_isE2 (K := K) rfl hz hf) (by rfl) T.m_isinstance (by decide +kernel) (pa_cons (pv 5) (pa_cons (pe_glob (v := .ref T.c_NoEdits) (by rfl) T.g_NoEdits rfl) pa_nil)))))))) (pss_one (ps_set (i := 4) sc_l_kind.nd rfl (Or.inl rfl) pe_str)) pss_nil))))) .nil))
      (pss_one (ps_ret (pv 4))))), enter h fun F xs cs post hE hw => ?_⟩)
  obtain ⟨m, d, g, t, rfl, rfl, p1, p2, p3, hq⟩ := hw
  walk_at "D"
  walk_at "nr2"
  rcases hq with ⟨bad, q⟩ | ⟨good, odd, rfl, q⟩
  · refine ws_tryT (fun C ρ' => C = T.c_NoEdits ∧ ρ' = ⟨[some (.dat (.int m)), some (.dat d), some (.dat g), some (.dat t), some (.dat (.str "told")), none], []⟩) (fun F1 W _ hW => ?_) (fun C ρ' hx => ?_)
    · walk_at "D"
      refine wspT hW (by walk_at "as") ⟨m, d, g, t, rfl, rfl, p1, p2, p3, .inl ⟨bad, rfl, rfl⟩⟩
    · obtain ⟨rfl, rfl⟩ := hx
      refine ⟨true, T.em_NoEdits_ScrollError, fun e => ?_⟩
      walk_at "D"
      refine we_cr (fun _ => Rep.cls _) ?_
      walk_at "D"
      refine wc_isE T.xc_NoEdits T.io_NoEdits_NoEdits ?_
      walk_at "D"
      refine wc_isEB T.xc_NoEdits T.io_NoEdits_ValueError ?_
      walk_at "D"
      refine we_cr (fun _ => Rep.cls _) ?_
      walk_at "D"
      refine wc_isE T.xc_NoEdits T.io_NoEdits_NoMoment ?_
      walk_at "D"
      refine we_cr (fun _ => Rep.cls _) ?_
      walk_at "D"
      refine wc_isE T.xc_NoEdits T.io_NoEdits_NoMoment ?_
      walk_at "D"
      show WpS K F _ _ _
      walk_at "D"
      exact fin_dat rfl q
  · refine ws_tryT (fun C ρ' => C = T.c_NoMoment ∧ ρ' = ⟨[some (.dat (.int 0)), some (.dat d), some (.dat g), some (.dat t), some (.dat (.str "told")), none], []⟩) (fun F1 W _ hW => ?_) (fun C ρ' hx => ?_)
    · walk_at "D"
      refine wspT hW (by walk_at "as") ⟨0, d, g, t, rfl, rfl, p1, p2, p3, .inr ⟨good, odd, rfl, rfl, rfl⟩⟩
    · obtain ⟨rfl, rfl⟩ := hx
      refine ⟨true, T.em_NoMoment_ScrollError, fun e => ?_⟩
      walk_at "D"
      refine we_cr (fun _ => Rep.cls _) ?_
      walk_at "D"
      refine wc_isE T.xc_NoMoment T.io_NoMoment_NoEdits ?_
      walk_at "D"
      refine we_cr (fun _ => Rep.cls _) ?_
      walk_at "D"
      refine wc_isE T.xc_NoMoment T.io_NoMoment_NoMoment ?_
      walk_at "D"
      refine we_cr (fun _ => Rep.cls _) ?_
      walk_at "D"
      refine wc_isE T.xc_NoMoment T.io_NoMoment_NoEdits ?_
      walk_at "D"
      show WpS K F _ _ _
      walk_at "D"
      exact fin_dat rfl q
def wStKind : PW0 := fun xs cs post _ => ∃ (m : Int) (es : List Ed) (a b : D), xs = [.dat (.int m), .dat (.lst (es.map eD)), .dat a, .dat b] ∧ cs = [] ∧ (∀ e ∈ es, e.ok) ∧ pl a = true ∧ pl b = true ∧ badStretch a b ∧ post (.dat (.str "moment")) []
theorem ok_l_stretch_kind (T : Txt K mg) : FnOk P w K mg base CX0 8 T.a_l_stretch_kind T.d_l_stretch_kind ["_law_way", "_law_good", "_law_low", "_law_high"] (spG K wStKind) := by
  refine T.F_l_stretch_kind.ok sc_l_stretch_kind (fun vs H Q E h => spG_len h fun xs cs post exc ⟨m, d, g, t, e, _⟩ => by rw [e]; rfl) (fun cdv A outer s H vs Q E hr h => ⟨_, (pss_cons (ps_set (i := 4) sc_l_stretch_kind.nd rfl (Or.inl rfl) pe_str)
      (pss_cons (ps_tryT rfl rfl takes0
        (fun W pn xe tk po => (pss_one (ps_if (pt_cmpR op_eq (pv 0) pe_int (nomark _)) (pss_one (ps_expr (pe_callS (ok_part T) (hr.mono (by decide)) (by rfl) T.g_part T.F_part.kp T.b_part (fun σ => passAt tk σ) (pa_cons (pv 1) (pa_cons (pv 2) (pa_cons (pv 3) pa_nil)))))) (pss_one (ps_expr (pe_callS (ok_stretches T) (hr.mono (by decide)) (by rfl) T.g_stretches T.F_stretches.kp T.b_stretches (fun σ => passAt tk σ) (pa_cons (pv 1) (pa_cons (pv 2) (pa_cons (pv 3) pa_nil)))))))))
        (.named (i := 5) sc_l_stretch_kind.nd rfl rfl ⟨rfl, by decide, .inl T.g_ScrollError⟩ (fun a oe cls d pn hz hf => (pss_one (ps_set (i := 4) sc_l_stretch_kind.nd rfl (Or.inl rfl) (pe_ix (ix_listK (K := K) rfl) (pe_lst (pa_cons pe_str (pa_cons pe_str pa_nil))) (pe_callTy call_int1 (by rfl) T.m_int (by decide +kernel) (pa_cons (pe_callB (call_isE2 (K := K) rfl hz hf) (by rfl) T.m_isinstance (by decide +kernel) (pa_cons (pv 5) (pa_cons (pe_glob (v := .ref T.c_NoMoment) (by rfl) T.g_NoMoment rfl) pa_nil))) pa_nil)) (fun _ _ => rfl))))) .nil))
      (pss_one (ps_ret (pv 4))))), enter h fun F xs cs post hE hw => ?_⟩)
  obtain ⟨m, es, a, b, rfl, rfl, ok, p1, p2, bad, q⟩ := hw
  have good := isEds_eD ok
  have pe : pl (.lst (es.map eD)) = true := by rw [pl]; exact pls_eD es
  walk_at "D"
  walk_at "nr2"
  refine ws_tryT (fun C ρ' => C = T.c_NoMoment ∧ ρ' = ⟨[some (.dat (.int m)), some (.dat (.lst (es.map eD))), some (.dat a), some (.dat b), some (.dat (.str "told")), none], []⟩) (fun F1 W _ hW => ?_) (fun C ρ' hx => ?_)
  · walk_at "D"
    refine ifC (fun c => ?_) (fun c => ?_)
    · walk_at "D"
      refine wspT hW (by walk_at "as") ⟨_, a, b, rfl, rfl, pe, p1, p2, (fun z => by rw [good] at z; cases z), fun _ => ⟨bad, rfl, rfl⟩⟩
    · walk_at "D"
      refine wspT hW (by walk_at "as") ⟨_, a, b, rfl, rfl, pe, p1, p2, (fun z => by rw [good] at z; cases z), fun _ => ⟨bad, rfl, rfl⟩⟩
  · obtain ⟨rfl, rfl⟩ := hx
    refine ⟨true, T.em_NoMoment_ScrollError, fun e => ?_⟩
    walk_at "D"
    refine we_cr (fun _ => Rep.cls _) ?_
    walk_at "D"
    refine wc_isE T.xc_NoMoment T.io_NoMoment_NoMoment ?_
    walk_at "D"
    refine wc_intB ?_
    refine wr_ixL (.cel rfl) rfl ?_
    walk_at "D"
    show WpS K F _ _ _
    walk_at "D"
    exact fin_dat rfl q
end
/-- arguments as data -/
local macro_rules | `(tactic| walk_at "as") => `(tactic| first
  | exact AsD.nil
  | (apply AsD.dat; walk_at "as")
  | (apply AsD.cel rfl; walk_at "as")
  | fail)
local macro_rules | `(tactic| walk_at "fz") => `(tactic| first
  | exact Frz.nil
  | (apply Frz.dat; walk_at "fz")
  | (apply Frz.cel rfl; walk_at "fz")
  | (apply Frz.ins rfl; walk_at "fz")
  | fail)
local macro_rules | `(tactic| walk_at "il") => `(tactic| first
  | exact IsL.dat _
  | exact IsL.cel rfl
  | exact IsL.scr _
  | fail)
local macro_rules | `(tactic| walk_at "od") => `(tactic| first
  | exact OfD.dat _
  | exact OfD.cel rfl
  | fail)
local macro_rules | `(tactic| walk_at "on") => `(tactic| first
  | exact only_name (by simp)
  | (refine only_tup ?_; repeat first | exact onlys_nil | refine onlys_cons (by simp) ?_)
  | fail)
/-- a call: its arguments as data -/
local macro_rules | `(tactic| walk_at "c") => `(tactic| (refine' wspE ?q1 ?z9; (case q1 => walk_at "as")))
local macro_rules | `(tactic| walk_at "cx") => `(tactic| (refine' wspX ?q1 ?z9; (case q1 => walk_at "as")))
local macro_rules | `(tactic| walk_at "al") => `(tactic| first
  | exact AsL.nil
  | (apply AsL.dat; walk_at "al")
  | (apply AsL.own; walk_at "al")
  | (apply AsL.cel (Nat.ne_of_beq_eq_false rfl) rfl; walk_at "al")
  | fail)
/-- a call that is lent a cell -/
local macro_rules | `(tactic| walk_at "c1") => `(tactic| (refine' wsp1 ?q1 ?q2 ?q3 ?z9; (case q1 => rfl); (case q2 => rfl); (case q3 => rfl)))
local macro_rules | `(tactic| walk_at "c2") => `(tactic| (refine' wsp2 ?q1 ?q2 ?q3 ?z9; (case q1 => rfl); (case q2 => rfl); (case q3 => walk_at "al")))
local macro_rules | `(tactic| walk_at "cd") => `(tactic| (refine' wspD ?q1 ?q2 ?z9; (case q2 => walk_at "al"); (case q1 => rfl)))
/-- one step by data -/
local macro_rules | `(tactic| walk_at "d") => `(tactic| first
  | with_reducible refine ws_seq ?_
  | with_reducible refine ws_asg ?_
  | with_reducible refine ws_ret ?_
  | with_reducible refine ws_if ?_
  | with_reducible refine ws_drop ?_
  | with_reducible refine ws_par ?_
  | with_reducible refine ws_next ?_
  | with_reducible refine ws_retN ?_
  | with_reducible refine ws_break ?_
  | with_reducible refine ws_cont ?_
  | with_reducible refine ws_for ?_
  | ((with_reducible refine' we_var ?v1 ?z9); (case v1 => exact rfl))
  | with_reducible refine we_ci ?_
  | with_reducible refine we_cs ?_
  | with_reducible refine we_cn ?_
  | with_reducible refine we_cb ?_
  | with_reducible refine we_ct ?_
  | with_reducible refine we_op ?_
  | with_reducible refine we_un ?_
  | with_reducible refine we_tCB ?_
  | with_reducible refine wa_nil ?_
  | with_reducible refine wa_cons ?_
  | with_reducible refine we_andV ?_
  | with_reducible refine we_orV ?_
  | with_reducible refine we_notV ?_
  | with_reducible refine we_if ?_
  | with_reducible refine wt_test ?_
  | with_reducible refine wt_B ?_
  | with_reducible refine wt_and ?_
  | with_reducible refine wt_or ?_
  | with_reducible refine wt_not ?_
  | with_reducible refine wt_yes ?_
  | with_reducible refine wt_tru ?_
  | with_reducible refine we_tup ?_
  | with_reducible refine we_lst ?_
  | with_reducible refine we_call ?_
  | with_reducible refine we_callS ?_
  | with_reducible refine wo_none ?_
  | with_reducible refine wo_some ?_
  | with_reducible refine wi_rng1 ?_
  | with_reducible refine wi_rng2 ?_
  | with_reducible refine wg_name ?_
  | with_reducible refine wg_sub ?_
  | with_reducible refine wgs_nil ?_
  | with_reducible refine wgs_cons ?_
  | with_reducible refine wgs_consM ?_
  | with_reducible refine wgs_nilM ?_
  | with_reducible refine wr_I0i ?_
  | with_reducible refine wr_I0b ?_
  | with_reducible refine wr_isN ?_
  | with_reducible refine wr_notN ?_
  | with_reducible refine wr_isB ?_
  | with_reducible refine wr_isnotB ?_
  | (with_reducible refine wu_neg ?_)
  | with_reducible refine wc_abs ?_
  | ((with_reducible refine' wr_eq ?v1 ?z9); (case v1 => exact rfl))
  | ((with_reducible refine' wr_ne ?v1 ?z9); (case v1 => exact rfl))
  | ((with_reducible refine' we_lc ?v0 ?z9); (case v0 => walk_at "on"))
  | ((with_reducible refine' wm_append ?v0 ?v1 ?v2 ?z9); (case v0 => walk_at "fz"); (case v1 => exact rfl))
  | refine we_bm ?_
  | refine we_bm0 ?_
  | refine we_slL ?_
  | refine wi_list ?_
  | refine wi_tup ?_
  | ((refine' wg_tup ?v1 ?z9); (case v1 => exact rfl))
  | ((refine' wr_ixT ?v1 ?z9); (case v1 => exact rfl))
  | ((refine' wr_ixL ?v0 ?v1 ?z9); (case v0 => walk_at "il"); (case v1 => exact rfl))
  | refine wc_lenT ?_
  | ((refine' wc_lenL ?v0 ?z9); (case v0 => walk_at "il"))
  | ((refine' wc_isi ?v0 ?v1 ?z9); (case v0 => simp); (case v1 => exact rfl))
  | ((refine' wc_isiC ?v0 ?v1 ?z9); (case v0 => simp); (case v1 => exact rfl))
  | ((refine' wc_list ?v0 ?z9); (case v0 => walk_at "il"))
  | refine wc_listT ?_
  | ((refine' wc_tuple ?v0 ?z9); (case v0 => walk_at "il"))
  | (first | refine ⟨⟨_, _, rfl, rfl, rfl⟩, ?_⟩ | refine ⟨⟨_, _, rfl, rfl, fun z => by cases z⟩, ?_⟩ | fail)
  | ((with_reducible refine' frz_in ?v0 ?v1 ?z9); (case v0 => walk_at "fz"); (case v1 => exact rfl))
  | ((with_reducible refine' il_in ?v0 ?z9); (case v0 => walk_at "il"))
  | ((with_reducible refine' lc_in ?v0 ?v1 ?v2 ?z9); (case v0 => walk_at "fz"); (case v1 => exact rfl))
  | (refine ⟨_, rfl, ?_⟩)
  | (refine ⟨_, _, rfl, ?_⟩)
  | fail)
/-- steps, and ifs whose test is told -/
local macro_rules | `(tactic| walk_at "D") => `(tactic| repeat (first
  | walk_at "d"
  | refine ifT rfl ?_
  | refine ifF rfl ?_))
/-- the environment written out -/
local macro_rules | `(tactic| walk_at "nrm") => `(tactic| first | (dsimp only [En.put, En.add, En.cell, List.set_cons_zero, List.set_cons_succ, List.cons_append, List.nil_append, List.length_cons, List.length_nil, Nat.zero_add, Nat.reduceAdd]) | skip)

/-- .. with what was frozen and forgotten -/
local macro_rules | `(tactic| walk_at "nr2") => `(tactic| first | (dsimp only [En.start, En.put, En.add, En.cell, En.frz, En.frzD, En.clr, frzA_d, frzA_c, mapC, mapN, Option.map_some, Option.map_none, List.set_cons_zero, List.set_cons_succ, List.cons_append, List.nil_append, List.length_cons, List.length_nil, Nat.zero_add, Nat.reduceAdd, Nat.reduceSub, List.replicate_succ, List.replicate_zero, ↓reduceIte, Nat.reduceEqDiff, reduceCtorEq]) | skip)

local macro_rules | `(tactic| walk_at "nr4") => `(tactic| first | (simp only [En.start, En.put, En.add, En.cell, En.frz, En.frzD, En.clr, frzA_d, frzA_c, mapC, mapN, Option.map_some, Option.map_none, List.set_cons_zero, List.set_cons_succ, List.cons_append, List.nil_append, List.length_cons, List.length_nil, Nat.zero_add, Nat.reduceAdd, Nat.reduceSub, List.replicate_succ, List.replicate_zero, ↓reduceIte, Nat.reduceEqDiff, reduceCtorEq, Nat.succ_ne_self]) | skip)
/-! ### a call with keywords; a law's promise -/
theorem we_callN {K : PySem.W.Frag} {F : Fx} {ρ : En} {k : AV → En → Prop} {n m : Nat} {sp : Sp} {gV : List V → List V → List V} {E : XK} {t tk : TA} (h : WpA K F t ρ fun xs ρ1 => WpA K F tk ρ1 fun ys ρ2 => ∃ zs, xs.length = n ∧ ys.length = m ∧ (∀ G as vs ws, RepAs K G as xs vs → RepAs K G as ys ws → RepAs K G as zs (gV vs ws)) ∧ WpSp K F sp (fun _ => E) zs ρ2 k) : WpE K F (L2.tCallN n m sp gV E t tk) ρ k := fun as σ H G e Q q =>
  h as σ H G e _ fun xs ρ1 vs as1 H1 G1 h1 e1 g1 r1 => h1 as1 σ H1 G1 e1 _ fun ys ρ2 ws as2 H2 G2 ⟨zs, l1, l2, hg, h2⟩ e2 g2 r2 => ⟨by rw [r1.length]; exact l1, by rw [r2.length]; exact l2, h2 as2 σ H2 G2 _ e2 (hg _ _ _ _ (r1.mono g2) r2) Q (q.imp (g1.trans g2) fun _ _ z => z)⟩
def spLaw (K : PySem.W.Frag) : Sp := fun vs H Q _ => ∃ (a : Addr) (ns : List Int), vs = [.ref a] ∧ SqL K H a (ns.map V.int) ∧ ns.length ≤ 63 ∧ ∀ H', Q (.bl true) H'
def wLaw : PW0 := fun xs cs post _ => ∃ ns : List Int, xs = [.dat (.scr (ns.map D.int))] ∧ cs = [] ∧ ns.length ≤ 63 ∧ post (.dat (.bl true)) []
theorem law_of {K : PySem.W.Frag} {vs : List V} {H : Hp} {Q : VK} {E : XK} (h : spLaw K vs H Q E) : spG K wLaw vs H Q E := by
  obtain ⟨a, ns, rfl, hs, hl, q⟩ := h
  refine ⟨H, [], [.dat (.scr (ns.map D.int))], [], fun r _ => r = .dat (.bl true), fun _ => False, Same.refl _, ⟨rfl, List.nodup_nil, fun j c a hc => by simp at hc⟩, .cons (Rep.scr hs Reps.ofV) .nil, ⟨ns, rfl, rfl, hl, rfl⟩, ?_, fun _ _ z => z.elim⟩
  intro r cs v H' G' hp _ _ _ _ _ rr
  subst hp
  rw [Rep.blE rr]
  exact q H'
theorem cut_ints (ns : List Int) (lo hi : Option Int) : ∃ ms : List Int, cutD (ns.map D.int) lo hi = ms.map D.int ∧ ms.length ≤ ns.length := by
  refine ⟨(ns.drop (HT.sIx ns.length 0 lo)).take (HT.sIx ns.length ns.length hi - HT.sIx ns.length 0 lo), ?_, ?_⟩
  · unfold cutD
    rw [List.length_map, List.map_take, List.map_drop]
  · rw [List.length_take, List.length_drop]
    omega
/-! ### a list's insert -/
section
variable {K : PySem.W.Frag} {F : Fx} {ρ : En} {k : AV → En → Prop}
theorem wm_insert {j : Nat} {x : AV} {ds : List D} {d : D} {i : Int} {ρ2 : En} (fz : Frz [x] ρ [d] ρ2) (hc : ρ2.ce[j]? = some (.lst ds)) (hl : ds.length < 16000000) (i0 : 0 ≤ i) (i1 : i < 16000000) (hk : k (.dat .non) (ρ2.cell j (.lst (ds.take i.toNat ++ [d] ++ ds.drop i.toNat)))) : WpM K F (fun x vs H Q => ∃ (l : Addr) (xs : List V) (i : Int) (y : V), x = .ref l ∧ vs = [.int i, y] ∧ H l = some (.lst xs) ∧ xs.length < sizeLine ∧ 0 ≤ i ∧ i < 2 ^ 63 ∧ Q .non (upd H l (.lst (xs.take i.toNat ++ [y] ++ xs.drop i.toNat)))) (.cel j) [.dat (.int i), x] ρ k := fun as σ H G v vs e r1 r2 Q q => by
  cases r2 with
  | cons ri r2 =>
    have ri := Rep.intE ri
    subst ri
    obtain ⟨G2, e2, g2, r3⟩ := fz.run e r2
    obtain ⟨a, ha, rfl⟩ := r1
    cases r3 with
    | cons y z =>
      cases z
      obtain ⟨_, _, g, ws, hw, hr⟩ := e2.ce j _ a hc ha
      refine ⟨a, ws, i, _, rfl, rfl, hw, szbl (by rw [hr.length]; omega), i0, by omega, q _ _ _ as _ G2 hk (e2.setC hc ha g ⟨g, _, upd_same, ?_⟩) g2 Rep.non⟩
      exact ((hr.take _).append (.cons y .nil)).append (hr.drop _)
def frzK (k : AV → En → Prop) : AV → En → Prop := fun av ρ' => ∃ j ds, av = .cel j ∧ ρ'.ce[j]? = some (.lst ds) ∧ k (.dat (.lst ds)) (ρ'.frz j ds)
theorem got_frz {as : List Addr} {σ : L2.St} {G : Hp} {Q : VK} (q : Got K F ρ as σ G k Q) : Got K F ρ as σ G (frzK k) Q := fun av ρ' v as' H' G' ⟨j, ds, ea, hc, hk⟩ e' g' ra => by
  subst ea
  obtain ⟨a, ha, rfl⟩ := ra
  obtain ⟨vs, e2, g2, rr⟩ := e'.frz hc ha
  exact q _ _ _ as' H' _ hk e2 (g'.trans g2) rr
/-- a new list that nobody writes to is data at once -/
theorem wr_frz {r : R2} {x y : AV} (h : WpR K F r x y ρ (frzK k)) : WpR K F r x y ρ k := fun as σ H G vx vy e r1 r2 Q q => h as σ H G vx vy e r1 r2 Q (got_frz q)
/-- a cell that nobody writes to any more is data -/
theorem ws_frz {t : TS} {ks : KS} {j : Nat} {ds : List D} (hj : ρ.ce[j]? = some (.lst ds)) (h : WpS K F t (ρ.frz j ds) ks) : WpS K F t ρ ks := fun as σ H G e D q => by
  have hl : j < as.length := by rw [e.ln]; exact (List.getElem?_eq_some_iff.mp hj).1
  obtain ⟨vs, e2, g2, _⟩ := e.frz hj (List.getElem?_eq_getElem hl)
  exact h as σ H _ e2 D (EndsOk.grow K F q g2)
end
local macro_rules | `(tactic| walk_at "E") => `(tactic| repeat (first
  | (with_reducible refine ws_seq ?_; walk_at "nr2")
  | walk_at "d"
  | refine we_dnew ?_
  | refine ifT rfl ?_
  | refine ifF rfl ?_))
section
variable {P : Program} {w : World} {K : PySem.W.Frag} {mg : Str → Option Value} {base : Heap}
section
variable {F : Fx} {ρ : En} {k : AV → En → Prop} {E : L2.St → XK} {x : AV} {es : List Ed}
structure DrOk (es : List Ed) : Prop where
  ex : ∃ n L Q N, DrL n L Q N es ∧ n ≤ 7
  ln : es.length ≤ 7
theorem DrOk.gv {es : List Ed} (h : DrOk es) : ∃ L Q N, (∀ e ∈ es, Gv L Q N (2 ^ 106) (2 ^ 50) e) ∧ 0 < L ∧ L ≤ 2 ^ 434 ∧ GbOk L Q (es.length * 2 ^ 106) (2 ^ 50) := by
  obtain ⟨n, L, Q, N, dr, n7⟩ := h.ex
  have b : (n + 1) * 2 ^ 103 ≤ 2 ^ 106 := Nat.le_trans (Nat.mul_le_mul_right _ (show n + 1 ≤ 8 by omega)) (by decide)
  have lb : L ≤ 2 ^ 434 := Nat.le_trans dr.lb (Nat.pow_le_pow_right (by decide) (by omega))
  have qb : Q ≤ 2 ^ 140 := Nat.le_trans dr.qb (Nat.pow_le_pow_right (by decide) (by omega))
  have pb : es.length * 2 ^ 106 ≤ 2 ^ 109 := Nat.le_trans (Nat.mul_le_mul_right _ (show es.length ≤ 8 by have := h.ln; omega)) (by decide)
  exact ⟨L, Q, N, fun e m => (dr.all e m).1.to (Nat.dvd_refl _) dr.l0 (Nat.dvd_refl _) dr.q0 (Nat.dvd_refl _) b (Nat.le_refl _), dr.l0, lb, dr.l0, dr.q0, 434, 140, 109, 50, lb, qb, pb, Nat.le_refl _, by decide⟩
theorem DrOk.ok {es : List Ed} (h : DrOk es) : ∀ e ∈ es, e.ok := by
  obtain ⟨L, Q, N, g, _⟩ := h.gv
  exact fun e m => (g e m).ok
theorem wsp_tidy7 {C : Addr} (hx : OfD ρ x (.lst (es.map eD))) (h : DrOk es) (hk : k (.cel ρ.ce.length) (ρ.add ((tidyF es).map eD))) : WpSp K F (spG K (wTidy C)) E [x] ρ k := by
  refine wspE (hx.as .nil) ⟨_, rfl, rfl, by rw [pl]; exact pls_eD es, (fun z => ?_), fun es' e1 _ => ?_⟩
  · rw [isEds_eD h.ok] at z; cases z
  · have h1 := eDs_inj.mp (D.lst.inj e1)
    subst h1
    obtain ⟨L, Q, N, g, _, _, gb⟩ := h.gv
    exact ⟨L, Q, N, _, _, g, gb, by have := h.ln; omega, aft_hards (hards_eD _) hk⟩
theorem wsp_total7 {C : Addr} (hx : OfD ρ x (.lst (es.map eD))) (h : DrOk es) (hk : k (.dat (fD (sumF es 0))) ρ) : WpSp K F (spG K (wTotal C)) E [x] ρ k := by
  refine wspE (hx.as .nil) ⟨_, rfl, rfl, by rw [pl]; exact pls_eD es, (fun z => ?_), fun es' e1 _ => ?_⟩
  · rw [isEds_eD h.ok] at z; cases z
  · have h1 := eDs_inj.mp (D.lst.inj e1)
    subst h1
    obtain ⟨L, Q, N, g, l0, lb, gb⟩ := h.gv
    refine ⟨?_, aft_hard (hard_fD _) hk⟩
    exact sumOk_gr (k := 109) l0 lb (by decide) es 0 0 (Fit.zero l0) g (by rw [Nat.zero_add]; exact Nat.le_trans (Nat.mul_le_mul_right _ (show es.length ≤ 8 by have := h.ln; omega)) (by decide))
end
theorem ok_law (T : Txt K mg) : FnOk P w K mg base CX0 10 T.a_law T.d_law ["_law_script"] (spLaw K) := by
  refine FnOk.imp (sp := spG K wLaw) ?_ (fun vs H Q E h => law_of h)
  refine T.F_law.ok sc_law (fun vs H Q E h => spG_len h fun xs cs post exc ⟨a, e, _⟩ => by rw [e]; rfl) (fun cdv A outer s H vs Q E hr h => ⟨_, (pss_cons (ps_set (i := 1) sc_law.nd rfl (Or.inl rfl) (pe_call (ok_l_edits T) (hr.mono (by decide)) (by rfl) T.g_l_edits T.F_l_edits.kp T.b_l_edits .nil pass0 (pa_cons (pe_lst (pa_cons (pe_call (ok_l_cell_at T) (hr.mono (by decide)) (by rfl) T.g_l_cell_at T.F_l_cell_at.kp T.b_l_cell_at .nil pass0 (pa_cons (pv 0) (pa_cons pe_int pa_nil))) pa_nil)) (pa_cons pe_int pa_nil))))
      (pss_cons (ps_set (i := 2) sc_law.nd rfl (Or.inl rfl) (pe_lst (pa_cons (pe_call (ok_l_cell_at T) (hr.mono (by decide)) (by rfl) T.g_l_cell_at T.F_l_cell_at.kp T.b_l_cell_at .nil pass0 (pa_cons (pv 0) (pa_cons pe_int pa_nil))) pa_nil)))
      (pss_cons (ps_set (i := 3) sc_law.nd rfl (Or.inl rfl) (pe_tup (pa_cons (pe_call (ok_tidy T) (hr.mono (by decide)) (by rfl) T.g_tidy T.F_tidy.kp T.b_tidy .nil passL (pa_cons (pv 1) pa_nil)) (pa_cons (pe_call (ok_total T) (hr.mono (by decide)) (by rfl) T.g_total T.F_total.kp T.b_total .nil passL (pa_cons (pv 1) pa_nil)) pa_nil))))
      (pss_cons (ps_set (i := 4) sc_law.nd rfl (Or.inl rfl) (pe_ix ix_list (pe_lst (pa_cons pe_non (pa_cons pe_int (pa_cons pe_bl (pa_cons pe_str (pa_cons (pe_tup (pa_cons (pe_un un_neg pe_int) (pa_cons pe_int pa_nil))) (pa_cons (pe_tup (pa_cons pe_int (pa_cons pe_int pa_nil))) (pa_cons (pe_tup (pa_cons pe_int (pa_cons pe_int pa_nil))) (pa_cons (pe_tup (pa_cons pe_int (pa_cons (pe_un un_neg pe_int) pa_nil))) (pa_cons (pe_lst (pa_cons pe_int (pa_cons pe_int pa_nil))) (pa_cons (pe_tup (pa_cons pe_int pa_nil)) (pa_cons (pe_tup (pa_cons pe_bl (pa_cons pe_int pa_nil))) (pa_cons (pe_tup (pa_cons pe_int (pa_cons pe_int pa_nil))) pa_nil))))))))))))) (pe_call (ok_l_digit T) (hr.mono (by decide)) (by rfl) T.g_l_digit T.F_l_digit.kp T.b_l_digit .nil pass0 (pa_cons (pv 2) (pa_cons pe_int pa_nil))) (fun _ _ => rfl)))
      (pss_cons (ps_for PassesOwn.never rfl (pi_range1 (by rfl) T.m_range (pa_cons pe_int pa_nil)) (pg_name (i := 5) sc_law.nd rfl (Or.inl rfl))
        (pss_cons (ps_set (i := 6) sc_law.nd rfl (Or.inl rfl) (pe_call (ok_l_bad_edits T) (hr.mono (by decide)) (by rfl) T.g_l_bad_edits T.F_l_bad_edits.kp T.b_l_bad_edits .nil pass0 (pa_cons (pv 2) (pa_cons (pv 1) pa_nil))))
      (pss_cons (ps_if (PW.pt (pw_or (pt_cmpR op_isnot_bl (pe_call (ok_is_edits T) (hr.mono (by decide)) (by rfl) T.g_is_edits T.F_is_edits.kp T.b_is_edits .nil pass0 (pa_cons (pv 6) pa_nil)) pe_bl (nomark _)) (pw_or1 (pt_cmpR op_isnot_bl (pe_call (ok_is_edits T) (hr.mono (by decide)) (by rfl) T.g_is_edits T.F_is_edits.kp T.b_is_edits .nil pass0 (pa_cons (pv 1) pa_nil)) pe_bl (nomark _))))) (pss_one (ps_ret pe_bl)) pss_nil)
      (pss_one (ps_for PassesOwn.never rfl (pi_range1 (by rfl) T.m_range (pa_cons pe_int pa_nil)) (pg_name (i := 7) sc_law.nd rfl (Or.inl rfl))
        (pss_one (ps_if (pt_cmpR op_ne (pe_call (ok_l_kind T) (hr.mono (by decide)) (by rfl) T.g_l_kind T.F_l_kind.kp T.b_l_kind .nil pass0 (pa_cons (pv 7) (pa_cons (pv 6) (pa_cons (pv 1) (pa_cons (pe_ix ix_list (pe_lst (pa_cons (pv 4) (pa_cons (pe_tup (pa_cons pe_int (pa_cons pe_int pa_nil))) pa_nil))) (pe_call (ok_l_digit T) (hr.mono (by decide)) (by rfl) T.g_l_digit T.F_l_digit.kp T.b_l_digit .nil pass0 (pa_cons (pv 2) (pa_cons pe_int pa_nil))) (fun _ _ => rfl)) pa_nil))))) pe_str (nomark _)) (pss_one (ps_ret pe_bl)) pss_nil)))))))
      (pss_cons (ps_if (pt_cmpR op_ne (pe_call (ok_l_kind T) (hr.mono (by decide)) (by rfl) T.g_l_kind T.F_l_kind.kp T.b_l_kind .nil pass0 (pa_cons pe_int (pa_cons (pv 1) (pa_cons (pv 1) (pa_cons (pv 4) pa_nil))))) pe_str (nomark _)) (pss_one (ps_ret pe_bl)) pss_nil)
      (pss_cons (ps_set (i := 8) sc_law.nd rfl (Or.inl rfl) (pe_call (ok_l_amount T) (hr.mono (by decide)) (by rfl) T.g_l_amount T.F_l_amount.kp T.b_l_amount .nil pass0 (pa_cons (pv 2) pa_nil)))
      (pss_cons (ps_set (i := 9) sc_law.nd rfl (Or.inl rfl) (pe_call (ok_l_plus T) (hr.mono (by decide)) (by rfl) T.g_l_plus T.F_l_plus.kp T.b_l_plus .nil pass0 (pa_cons (pv 8) (pa_cons (pe_call (ok_l_amount T) (hr.mono (by decide)) (by rfl) T.g_l_amount T.F_l_amount.kp T.b_l_amount .nil pass0 (pa_cons (pv 2) pa_nil)) pa_nil))))
      (pss_cons (ps_for PassesOwn.never rfl (pi_range1 (by rfl) T.m_range (pa_cons pe_int pa_nil)) (pg_name (i := 7) sc_law.nd rfl (Or.inl rfl))
        (pss_one (ps_for PassesOwn.never rfl (pi_list (pe_lst (pa_cons (pe_tup (pa_cons (pv 4) (pa_cons (pv 9) pa_nil))) (pa_cons (pe_tup (pa_cons (pv 8) (pa_cons (pv 4) pa_nil))) (pa_cons (pe_tup (pa_cons (pv 4) (pa_cons (pv 4) pa_nil))) (pa_cons (pe_tup (pa_cons (pv 9) (pa_cons (pv 8) pa_nil))) (pa_cons (pe_tup (pa_cons (pv 8) (pa_cons (pv 8) pa_nil))) pa_nil))))))) (pg_tup rfl (pgs_cons (pg_name (i := 10) sc_law.nd rfl (Or.inl rfl)) (pgs_cons (pg_name (i := 11) sc_law.nd rfl (Or.inl rfl)) pgs_nil)))
        (pss_one (ps_if (pt_cmpR op_ne (pe_call (ok_l_stretch_kind T) (hr.mono (by decide)) (by rfl) T.g_l_stretch_kind T.F_l_stretch_kind.kp T.b_l_stretch_kind .nil pass0 (pa_cons (pv 7) (pa_cons (pv 1) (pa_cons (pv 10) (pa_cons (pv 11) pa_nil))))) pe_str (nomark _)) (pss_one (ps_ret pe_bl)) pss_nil)))))
      (pss_one (ps_ret (pe_cmpR (op_eqD hr.units) (pe_tup (pa_cons (pe_call (ok_tidy T) (hr.mono (by decide)) (by rfl) T.g_tidy T.F_tidy.kp T.b_tidy .nil passL (pa_cons (pv 1) pa_nil)) (pa_cons (pe_call (ok_total T) (hr.mono (by decide)) (by rfl) T.g_total T.F_total.kp T.b_total .nil passL (pa_cons (pv 1) pa_nil)) pa_nil))) (pv 3) (nomark _))))))))))))), enter h fun F xs cs post hE hw => ?_⟩)
  obtain ⟨ns, rfl, rfl, hn, q⟩ := hw
  walk_at "E"
  walk_at "c"
  refine ⟨ns, 0, rfl, rfl, by decide, fun c0 => ⟨rfl, ?_⟩⟩
  walk_at "E"
  refine wsp_drw (j := 0) rfl ?_
  walk_at "cd"
  refine ⟨7, rfl, rfl, by decide, by decide, fun es n L Q0 N hln hn7 dr => ⟨rfl, rfl, ?_⟩⟩
  have ds : DrOk es := ⟨⟨n, L, Q0, N, dr, by omega⟩, by omega⟩
  clear hln hn7 dr
  refine wg_name ?_
  refine ws_frz (j := 1) rfl ?_
  walk_at "nr2"
  walk_at "E"
  walk_at "c"
  refine ⟨ns, 1, rfl, rfl, by decide, fun c1 => ⟨rfl, ?_⟩⟩
  walk_at "E"
  refine wsp_tidy7 (.dat _) ds ?_
  walk_at "E"
  refine wsp_total7 (.dat _) ds ?_
  walk_at "E"
  refine wsp_drw (j := 2) rfl ?_
  refine wsp_digit rfl (by decide) (by decide) fun d d0 d1 => ?_
  walk_at "nr4"
  refine wr_ixA (.cel rfl) d0 (show d < 12 from d1) fun odd m => ?_
  have ho : pl odd = true ∧ isMo odd = false := by
    clear d0 d1
    exact all_cons (p := fun d => pl d = true ∧ isMo d = false) ⟨rfl, rfl⟩ (all_cons ⟨rfl, rfl⟩ (all_cons ⟨rfl, rfl⟩ (all_cons ⟨rfl, rfl⟩ (all_cons ⟨rfl, rfl⟩ (all_cons ⟨rfl, rfl⟩ (all_cons ⟨rfl, rfl⟩ (all_cons ⟨rfl, rfl⟩ (all_cons ⟨rfl, rfl⟩ (all_cons ⟨rfl, rfl⟩ (all_cons ⟨rfl, rfl⟩ (all_cons ⟨rfl, rfl⟩ all_nil))))))))))) odd m
  clear m
  have pe : pl (.lst (es.map eD)) = true := by rw [pl]; exact pls_eD es
  have ge := isEds_eD ds.ok
  walk_at "E"
  refine ⟨by decide, ?_⟩
  walk_at "nr4"
  refine loop_rng (fun i ρ => ∃ x5 x6 x7 x8 x9 x10 x11 : Option AV, ρ = ⟨[some (.dat (.scr (ns.map D.int))), some (.dat (.lst (es.map eD))), some (.cel 2), some (.dat (.tup [.lst ((tidyF es).map eD), fD (sumF es 0)])), some (.dat odd), x5, x6, x7, x8, x9, x10, x11], _⟩) ⟨_, _, _, _, _, _, _, rfl⟩ ?_ ?_
  · rintro ρ ⟨x5, x6, x7, x8, x9, x10, x11, rfl⟩
    refine ⟨trivial, ?_⟩
    walk_at "E"
    walk_at "c"
    refine ⟨0, _, _, odd, rfl, rfl, pe, pe, ho.1, .inr ⟨ge, ho.2, rfl, aft_hard rfl ?_⟩⟩
    walk_at "E"
    walk_at "cd"
    refine ⟨rfl, rfl, fun lo hlo => ⟨rfl, rfl, ?_⟩⟩
    walk_at "E"
    walk_at "cd"
    refine ⟨rfl, rfl, fun am ham => ⟨rfl, rfl, ?_⟩⟩
    walk_at "E"
    walk_at "c"
    refine ⟨lo, am, rfl, rfl, hlo.sz.mono (by decide), ham.sz.mono (by decide), aft_hard (hard_fD _) ?_⟩
    have s1 : Sz 4000 lo := hlo.sz.mono (by decide)
    have s2 : Sz 4000 (lo + am) := (hlo.sz.add ham.sz).mono (by decide)
    have le : lo ≤ lo + am := by have := ham.1; grind
    have lo0 : 0 ≤ lo := hlo.1
    generalize lo + am = hi at *
    have bo : ∀ y : D, badStretch odd y := fun y a b e1 _ a0 _ => by
      exfalso
      have z := ho.2
      rw [e1, isMo_fD, decide_eq_true (num_nonneg.mpr a0)] at z
      cases z
    have bo2 : ∀ y : D, badStretch y odd := fun y a b _ e2 _ b0 => by
      exfalso
      have z := ho.2
      rw [e2, isMo_fD, decide_eq_true (num_nonneg.mpr b0)] at z
      cases z
    have bb : ∀ {x y : Rat}, Sz 4000 x → Sz 4000 y → ¬ x < y → badStretch (fD x) (fD y) := fun {x y} h1 h2 n a b e1 e2 _ _ => by
      have := fD_inj.mp e1
      have := fD_inj.mp e2
      subst a b
      exact ⟨h1, h2, n⟩
    have po := ho.1
    walk_at "E"
    refine ⟨by decide, ?_⟩
    walk_at "nr4"
    refine loop_rng (fun i ρ => ∃ x5 x6 x7 x10 x11 : Option AV, ρ = ⟨[some (.dat (.scr (ns.map D.int))), some (.dat (.lst (es.map eD))), some (.cel 2), some (.dat (.tup [.lst ((tidyF es).map eD), fD (sumF es 0)])), some (.dat odd), x5, x6, x7, some (.dat (fD lo)), some (.dat (fD hi)), x10, x11], _⟩) ⟨_, _, _, _, _, rfl⟩ ?_ ?_
    · rintro ρ ⟨x5, x6, x7, x10, x11, rfl⟩
      refine ⟨trivial, ?_⟩
      walk_at "E"
      refine wsp_tidy7 (.dat _) ds ?_
      walk_at "E"
      refine wsp_total7 (.dat _) ds ?_
      walk_at "E"
      have nb : noB (.tup [.lst ((tidyF es).map eD), fD (sumF es 0)]) = true := by
        show (noB (.lst ((tidyF es).map eD)) && (noB (fD (sumF es 0)) && true)) = true
        rw [noB, noBs_eD, noB_fD]; rfl
      have fn : fine 4 (.tup [.lst ((tidyF es).map eD), fD (sumF es 0)]) = true := by
        show (fines 2 ((tidyF es).map eD) && (fine 3 (fD (sumF es 0)) && true)) = true
        rw [fines_eD]; rfl
      refine wr_eqD 4 (by walk_at "od") (by walk_at "od") fn fn (by decide) ?_
      rw [(eqD_iff _ _ nb nb).mpr rfl]
      exact fin_dat rfl q
    · rintro i ρ hki ⟨x5, x6, x7, x10, x11, rfl⟩
      refine ⟨trivial, ?_⟩
      walk_at "E"
      refine loop_cut (fun dd ρ => ∃ x5 x6 x10 x11 : Option AV, ρ = ⟨[some (.dat (.scr (ns.map D.int))), some (.dat (.lst (es.map eD))), some (.cel 2), some (.dat (.tup [.lst ((tidyF es).map eD), fD (sumF es 0)])), some (.dat odd), x5, x6, some (.dat (.int (0 + i))), some (.dat (fD lo)), some (.dat (fD hi)), x10, x11], _⟩ ∧ ∀ d ∈ dd, ∃ a b, d = D.tup [a, b] ∧ pl a = true ∧ pl b = true ∧ badStretch a b) ⟨_, _, _, _, rfl, ?_⟩ ?_ ?_
      · exact all_cons (p := fun d => ∃ a b, d = D.tup [a, b] ∧ pl a = true ∧ pl b = true ∧ badStretch a b) ⟨_, _, rfl, po, rfl, bo _⟩ (all_cons ⟨_, _, rfl, rfl, po, bo2 _⟩ (all_cons ⟨_, _, rfl, po, po, bo _⟩ (all_cons ⟨_, _, rfl, rfl, rfl, bb s2 s1 (by grind)⟩ (all_cons ⟨_, _, rfl, rfl, rfl, bb s1 s1 (by grind)⟩ all_nil))))
      · rintro ρ ⟨x5, x6, x10, x11, rfl, _⟩
        refine ⟨.cel rfl, ?_⟩
        walk_at "E"
        exact now ⟨_, _, _, _, _, rfl⟩
      · rintro d dd ρ ⟨x5, x6, x10, x11, rfl, hd⟩
        obtain ⟨a, b, rfl, pa, pb, bad⟩ := hd d List.mem_cons_self
        have hd2 := fun d m => hd d (List.mem_cons_of_mem _ m)
        refine ⟨.cel rfl, ?_⟩
        walk_at "E"
        walk_at "c"
        refine ⟨_, es, a, b, rfl, rfl, ds.ok, pa, pb, bad, aft_hard rfl ?_⟩
        walk_at "E"
        exact now ⟨_, _, _, _, rfl, hd2⟩
  · rintro i ρ hi ⟨x5, x6, x7, x8, x9, x10, x11, rfl⟩
    refine ⟨trivial, ?_⟩
    walk_at "E"
    walk_at "cd"
    refine ⟨es, rfl, rfl, ds.ln, fun d bd => ⟨rfl, rfl, ?_⟩, fun dd bd => ⟨rfl, rfl, ?_⟩⟩
    · refine wg_name ?_
      walk_at "E"
      walk_at "c"
      refine ⟨_, rfl, rfl, bd.1, ?_⟩
      rw [bd.2]
      refine aft_hard rfl ?_
      walk_at "E"
      walk_at "c"
      refine ⟨_, rfl, rfl, pe, ?_⟩
      rw [ge]
      refine aft_hard rfl ?_
      walk_at "E"
      refine ⟨by decide, ?_⟩
      walk_at "nr4"
      refine loop_rng (fun j ρ => ∃ x7 x8 x9 x10 x11 : Option AV, ρ = ⟨[some (.dat (.scr (ns.map D.int))), some (.dat (.lst (es.map eD))), some (.cel 2), some (.dat (.tup [.lst ((tidyF es).map eD), fD (sumF es 0)])), some (.dat odd), some (.dat (.int (0 + i))), some (.dat d), x7, x8, x9, x10, x11], _⟩) ⟨_, _, _, _, _, rfl⟩ ?_ ?_
      · rintro ρ ⟨x7, x8, x9, x10, x11, rfl⟩
        refine ⟨trivial, ?_⟩
        walk_at "E"
        exact now ⟨_, _, _, _, _, _, _, rfl⟩
      · rintro j ρ hj ⟨x7, x8, x9, x10, x11, rfl⟩
        refine ⟨trivial, ?_⟩
        walk_at "E"
        refine wsp_digit rfl (by decide) (by decide) fun u u0 u1 => ?_
        walk_at "nr4"
        refine wr_ixA (.cel rfl) u0 (show u < 2 from u1) fun t m => ?_
        have pt : pl t = true := all_cons (p := fun d => pl d = true) ho.1 (all_cons rfl all_nil) t m
        walk_at "E"
        walk_at "c"
        refine ⟨_, d, _, t, rfl, rfl, bd.1, pe, pt, .inl ⟨bd.2, aft_hard rfl ?_⟩⟩
        walk_at "E"
        exact now ⟨_, _, _, _, _, rfl⟩
    · refine wg_name ?_
      refine ws_frz (j := 6) rfl ?_
      walk_at "nr4"
      walk_at "E"
      walk_at "c"
      refine ⟨_, rfl, rfl, bd.1, ?_⟩
      rw [bd.2]
      refine aft_hard rfl ?_
      walk_at "E"
      walk_at "c"
      refine ⟨_, rfl, rfl, pe, ?_⟩
      rw [ge]
      refine aft_hard rfl ?_
      walk_at "E"
      refine ⟨by decide, ?_⟩
      walk_at "nr4"
      refine loop_rng (fun j ρ => ∃ x7 x8 x9 x10 x11 : Option AV, ρ = ⟨[some (.dat (.scr (ns.map D.int))), some (.dat (.lst (es.map eD))), some (.cel 2), some (.dat (.tup [.lst ((tidyF es).map eD), fD (sumF es 0)])), some (.dat odd), some (.dat (.int (0 + i))), some (.dat (.lst dd)), x7, x8, x9, x10, x11], _⟩) ⟨_, _, _, _, _, rfl⟩ ?_ ?_
      · rintro ρ ⟨x7, x8, x9, x10, x11, rfl⟩
        refine ⟨trivial, ?_⟩
        walk_at "E"
        exact now ⟨_, _, _, _, _, _, _, rfl⟩
      · rintro j ρ hj ⟨x7, x8, x9, x10, x11, rfl⟩
        refine ⟨trivial, ?_⟩
        walk_at "E"
        refine wsp_digit rfl (by decide) (by decide) fun u u0 u1 => ?_
        walk_at "nr4"
        refine wr_ixA (.cel rfl) u0 (show u < 2 from u1) fun t m => ?_
        have pt : pl t = true := all_cons (p := fun d => pl d = true) ho.1 (all_cons rfl all_nil) t m
        walk_at "E"
        walk_at "c"
        refine ⟨_, .lst dd, _, t, rfl, rfl, bd.1, pe, pt, .inl ⟨bd.2, aft_hard rfl ?_⟩⟩
        walk_at "E"
        exact now ⟨_, _, _, _, _, rfl⟩
end
theorem all_mk {l : PySem.W.OpenLaw} {w : World} {K : PySem.W.Frag} {h : Heap} {mg : Str → Option Value} {fa : Addr} (X : K.In h) (G : h.Ns mainGlobals mg) (hfa : mg "law" = some (.ref fa))
    {f0 : Addr} {od0 an0 : Option Addr} {sl0 : Array (Option Value)} {oc0 kV0 dc0 pm0 cd0 ct0 : Value}
    (a0 : PySem.W.nsIn K mainGlobals "is_number" = some (some (.ref f0)))
    (l0 : K.lookup f0 = some ⟨oc0, od0, .func (PySem.W.fnOf "is_number" "is_number" (defArgs s_is_number) (defBody s_is_number) (defScope s_is_number) .none kV0 dc0 pm0 an0 cd0 ct0), sl0⟩) (c0 : PySem.W.codeIn K cd0 "is_number" = true) (k0 : PySem.W.keepIn K (.ref f0) = true)
    {f1 : Addr} {od1 an1 : Option Addr} {sl1 : Array (Option Value)} {oc1 kV1 dc1 pm1 cd1 ct1 : Value}
    (a1 : PySem.W.nsIn K mainGlobals "common_divisor" = some (some (.ref f1)))
    (l1 : K.lookup f1 = some ⟨oc1, od1, .func (PySem.W.fnOf "common_divisor" "common_divisor" (defArgs s_common_divisor) (defBody s_common_divisor) (defScope s_common_divisor) .none kV1 dc1 pm1 an1 cd1 ct1), sl1⟩) (c1 : PySem.W.codeIn K cd1 "common_divisor" = true) (k1 : PySem.W.keepIn K (.ref f1) = true)
    {f2 : Addr} {od2 an2 : Option Addr} {sl2 : Array (Option Value)} {oc2 kV2 dc2 pm2 cd2 ct2 : Value}
    (a2 : PySem.W.nsIn K mainGlobals "is_fraction" = some (some (.ref f2)))
    (l2 : K.lookup f2 = some ⟨oc2, od2, .func (PySem.W.fnOf "is_fraction" "is_fraction" (defArgs s_is_fraction) (defBody s_is_fraction) (defScope s_is_fraction) .none kV2 dc2 pm2 an2 cd2 ct2), sl2⟩) (c2 : PySem.W.codeIn K cd2 "is_fraction" = true) (k2 : PySem.W.keepIn K (.ref f2) = true)
    {f3 : Addr} {od3 an3 : Option Addr} {sl3 : Array (Option Value)} {oc3 kV3 dc3 pm3 cd3 ct3 : Value}
    (a3 : PySem.W.nsIn K mainGlobals "is_moment" = some (some (.ref f3)))
    (l3 : K.lookup f3 = some ⟨oc3, od3, .func (PySem.W.fnOf "is_moment" "is_moment" (defArgs s_is_moment) (defBody s_is_moment) (defScope s_is_moment) .none kV3 dc3 pm3 an3 cd3 ct3), sl3⟩) (c3 : PySem.W.codeIn K cd3 "is_moment" = true) (k3 : PySem.W.keepIn K (.ref f3) = true)
    {f4 : Addr} {od4 an4 : Option Addr} {sl4 : Array (Option Value)} {oc4 kV4 dc4 pm4 cd4 ct4 : Value}
    (a4 : PySem.W.nsIn K mainGlobals "summed" = some (some (.ref f4)))
    (l4 : K.lookup f4 = some ⟨oc4, od4, .func (PySem.W.fnOf "summed" "summed" (defArgs s_summed) (defBody s_summed) (defScope s_summed) .none kV4 dc4 pm4 an4 cd4 ct4), sl4⟩) (c4 : PySem.W.codeIn K cd4 "summed" = true) (k4 : PySem.W.keepIn K (.ref f4) = true)
    {f5 : Addr} {od5 an5 : Option Addr} {sl5 : Array (Option Value)} {oc5 kV5 dc5 pm5 cd5 ct5 : Value}
    (a5 : PySem.W.nsIn K mainGlobals "plus" = some (some (.ref f5)))
    (l5 : K.lookup f5 = some ⟨oc5, od5, .func (PySem.W.fnOf "plus" "plus" (defArgs s_plus) (defBody s_plus) (defScope s_plus) .none kV5 dc5 pm5 an5 cd5 ct5), sl5⟩) (c5 : PySem.W.codeIn K cd5 "plus" = true) (k5 : PySem.W.keepIn K (.ref f5) = true)
    {f6 : Addr} {od6 an6 : Option Addr} {sl6 : Array (Option Value)} {oc6 kV6 dc6 pm6 cd6 ct6 : Value}
    (a6 : PySem.W.nsIn K mainGlobals "minus" = some (some (.ref f6)))
    (l6 : K.lookup f6 = some ⟨oc6, od6, .func (PySem.W.fnOf "minus" "minus" (defArgs s_minus) (defBody s_minus) (defScope s_minus) .none kV6 dc6 pm6 an6 cd6 ct6), sl6⟩) (c6 : PySem.W.codeIn K cd6 "minus" = true) (k6 : PySem.W.keepIn K (.ref f6) = true)
    {f7 : Addr} {od7 an7 : Option Addr} {sl7 : Array (Option Value)} {oc7 kV7 dc7 pm7 cd7 ct7 : Value}
    (a7 : PySem.W.nsIn K mainGlobals "times" = some (some (.ref f7)))
    (l7 : K.lookup f7 = some ⟨oc7, od7, .func (PySem.W.fnOf "times" "times" (defArgs s_times) (defBody s_times) (defScope s_times) .none kV7 dc7 pm7 an7 cd7 ct7), sl7⟩) (c7 : PySem.W.codeIn K cd7 "times" = true) (k7 : PySem.W.keepIn K (.ref f7) = true)
    {f8 : Addr} {od8 an8 : Option Addr} {sl8 : Array (Option Value)} {oc8 kV8 dc8 pm8 cd8 ct8 : Value}
    (a8 : PySem.W.nsIn K mainGlobals "shared" = some (some (.ref f8)))
    (l8 : K.lookup f8 = some ⟨oc8, od8, .func (PySem.W.fnOf "shared" "shared" (defArgs s_shared) (defBody s_shared) (defScope s_shared) .none kV8 dc8 pm8 an8 cd8 ct8), sl8⟩) (c8 : PySem.W.codeIn K cd8 "shared" = true) (k8 : PySem.W.keepIn K (.ref f8) = true)
    {f9 : Addr} {od9 an9 : Option Addr} {sl9 : Array (Option Value)} {oc9 kV9 dc9 pm9 cd9 ct9 : Value}
    (a9 : PySem.W.nsIn K mainGlobals "less" = some (some (.ref f9)))
    (l9 : K.lookup f9 = some ⟨oc9, od9, .func (PySem.W.fnOf "less" "less" (defArgs s_less) (defBody s_less) (defScope s_less) .none kV9 dc9 pm9 an9 cd9 ct9), sl9⟩) (c9 : PySem.W.codeIn K cd9 "less" = true) (k9 : PySem.W.keepIn K (.ref f9) = true)
    {f10 : Addr} {od10 an10 : Option Addr} {sl10 : Array (Option Value)} {oc10 kV10 dc10 pm10 cd10 ct10 : Value}
    (a10 : PySem.W.nsIn K mainGlobals "is_edit" = some (some (.ref f10)))
    (l10 : K.lookup f10 = some ⟨oc10, od10, .func (PySem.W.fnOf "is_edit" "is_edit" (defArgs s_is_edit) (defBody s_is_edit) (defScope s_is_edit) .none kV10 dc10 pm10 an10 cd10 ct10), sl10⟩) (c10 : PySem.W.codeIn K cd10 "is_edit" = true) (k10 : PySem.W.keepIn K (.ref f10) = true)
    {f11 : Addr} {od11 an11 : Option Addr} {sl11 : Array (Option Value)} {oc11 kV11 dc11 pm11 cd11 ct11 : Value}
    (a11 : PySem.W.nsIn K mainGlobals "is_edits" = some (some (.ref f11)))
    (l11 : K.lookup f11 = some ⟨oc11, od11, .func (PySem.W.fnOf "is_edits" "is_edits" (defArgs s_is_edits) (defBody s_is_edits) (defScope s_is_edits) .none kV11 dc11 pm11 an11 cd11 ct11), sl11⟩) (c11 : PySem.W.codeIn K cd11 "is_edits" = true) (k11 : PySem.W.keepIn K (.ref f11) = true)
    {f12 : Addr} {od12 an12 : Option Addr} {sl12 : Array (Option Value)} {oc12 kV12 dc12 pm12 cd12 ct12 : Value}
    (a12 : PySem.W.nsIn K mainGlobals "refuse_no_edits" = some (some (.ref f12)))
    (l12 : K.lookup f12 = some ⟨oc12, od12, .func (PySem.W.fnOf "refuse_no_edits" "refuse_no_edits" (defArgs s_refuse_no_edits) (defBody s_refuse_no_edits) (defScope s_refuse_no_edits) .none kV12 dc12 pm12 an12 cd12 ct12), sl12⟩) (c12 : PySem.W.codeIn K cd12 "refuse_no_edits" = true) (k12 : PySem.W.keepIn K (.ref f12) = true)
    {f13 : Addr} {od13 an13 : Option Addr} {sl13 : Array (Option Value)} {oc13 kV13 dc13 pm13 cd13 ct13 : Value}
    (a13 : PySem.W.nsIn K mainGlobals "refuse_no_moment" = some (some (.ref f13)))
    (l13 : K.lookup f13 = some ⟨oc13, od13, .func (PySem.W.fnOf "refuse_no_moment" "refuse_no_moment" (defArgs s_refuse_no_moment) (defBody s_refuse_no_moment) (defScope s_refuse_no_moment) .none kV13 dc13 pm13 an13 cd13 ct13), sl13⟩) (c13 : PySem.W.codeIn K cd13 "refuse_no_moment" = true) (k13 : PySem.W.keepIn K (.ref f13) = true)
    {f14 : Addr} {od14 an14 : Option Addr} {sl14 : Array (Option Value)} {oc14 kV14 dc14 pm14 cd14 ct14 : Value}
    (a14 : PySem.W.nsIn K mainGlobals "refuse_no_stretch" = some (some (.ref f14)))
    (l14 : K.lookup f14 = some ⟨oc14, od14, .func (PySem.W.fnOf "refuse_no_stretch" "refuse_no_stretch" (defArgs s_refuse_no_stretch) (defBody s_refuse_no_stretch) (defScope s_refuse_no_stretch) .none kV14 dc14 pm14 an14 cd14 ct14), sl14⟩) (c14 : PySem.W.codeIn K cd14 "refuse_no_stretch" = true) (k14 : PySem.W.keepIn K (.ref f14) = true)
    {f15 : Addr} {od15 an15 : Option Addr} {sl15 : Array (Option Value)} {oc15 kV15 dc15 pm15 cd15 ct15 : Value}
    (a15 : PySem.W.nsIn K mainGlobals "led" = some (some (.ref f15)))
    (l15 : K.lookup f15 = some ⟨oc15, od15, .func (PySem.W.fnOf "led" "led" (defArgs s_led) (defBody s_led) (defScope s_led) .none kV15 dc15 pm15 an15 cd15 ct15), sl15⟩) (c15 : PySem.W.codeIn K cd15 "led" = true) (k15 : PySem.W.keepIn K (.ref f15) = true)
    {f16 : Addr} {od16 an16 : Option Addr} {sl16 : Array (Option Value)} {oc16 kV16 dc16 pm16 cd16 ct16 : Value}
    (a16 : PySem.W.nsIn K mainGlobals "mapped" = some (some (.ref f16)))
    (l16 : K.lookup f16 = some ⟨oc16, od16, .func (PySem.W.fnOf "mapped" "mapped" (defArgs s_mapped) (defBody s_mapped) (defScope s_mapped) .none kV16 dc16 pm16 an16 cd16 ct16), sl16⟩) (c16 : PySem.W.codeIn K cd16 "mapped" = true) (k16 : PySem.W.keepIn K (.ref f16) = true)
    {f17 : Addr} {od17 an17 : Option Addr} {sl17 : Array (Option Value)} {oc17 kV17 dc17 pm17 cd17 ct17 : Value}
    (a17 : PySem.W.nsIn K mainGlobals "summed_spans" = some (some (.ref f17)))
    (l17 : K.lookup f17 = some ⟨oc17, od17, .func (PySem.W.fnOf "summed_spans" "summed_spans" (defArgs s_summed_spans) (defBody s_summed_spans) (defScope s_summed_spans) .none kV17 dc17 pm17 an17 cd17 ct17), sl17⟩) (c17 : PySem.W.codeIn K cd17 "summed_spans" = true) (k17 : PySem.W.keepIn K (.ref f17) = true)
    {f18 : Addr} {od18 an18 : Option Addr} {sl18 : Array (Option Value)} {oc18 kV18 dc18 pm18 cd18 ct18 : Value}
    (a18 : PySem.W.nsIn K mainGlobals "total" = some (some (.ref f18)))
    (l18 : K.lookup f18 = some ⟨oc18, od18, .func (PySem.W.fnOf "total" "total" (defArgs s_total) (defBody s_total) (defScope s_total) .none kV18 dc18 pm18 an18 cd18 ct18), sl18⟩) (c18 : PySem.W.codeIn K cd18 "total" = true) (k18 : PySem.W.keepIn K (.ref f18) = true)
    {f19 : Addr} {od19 an19 : Option Addr} {sl19 : Array (Option Value)} {oc19 kV19 dc19 pm19 cd19 ct19 : Value}
    (a19 : PySem.W.nsIn K mainGlobals "goes_on" = some (some (.ref f19)))
    (l19 : K.lookup f19 = some ⟨oc19, od19, .func (PySem.W.fnOf "goes_on" "goes_on" (defArgs s_goes_on) (defBody s_goes_on) (defScope s_goes_on) .none kV19 dc19 pm19 an19 cd19 ct19), sl19⟩) (c19 : PySem.W.codeIn K cd19 "goes_on" = true) (k19 : PySem.W.keepIn K (.ref f19) = true)
    {f20 : Addr} {od20 an20 : Option Addr} {sl20 : Array (Option Value)} {oc20 kV20 dc20 pm20 cd20 ct20 : Value}
    (a20 : PySem.W.nsIn K mainGlobals "tidied" = some (some (.ref f20)))
    (l20 : K.lookup f20 = some ⟨oc20, od20, .func (PySem.W.fnOf "tidied" "tidied" (defArgs s_tidied) (defBody s_tidied) (defScope s_tidied) .none kV20 dc20 pm20 an20 cd20 ct20), sl20⟩) (c20 : PySem.W.codeIn K cd20 "tidied" = true) (k20 : PySem.W.keepIn K (.ref f20) = true)
    {f21 : Addr} {od21 an21 : Option Addr} {sl21 : Array (Option Value)} {oc21 kV21 dc21 pm21 cd21 ct21 : Value}
    (a21 : PySem.W.nsIn K mainGlobals "tidy" = some (some (.ref f21)))
    (l21 : K.lookup f21 = some ⟨oc21, od21, .func (PySem.W.fnOf "tidy" "tidy" (defArgs s_tidy) (defBody s_tidy) (defScope s_tidy) .none kV21 dc21 pm21 an21 cd21 ct21), sl21⟩) (c21 : PySem.W.codeIn K cd21 "tidy" = true) (k21 : PySem.W.keepIn K (.ref f21) = true)
    {f22 : Addr} {od22 an22 : Option Addr} {sl22 : Array (Option Value)} {oc22 kV22 dc22 pm22 cd22 ct22 : Value}
    (a22 : PySem.W.nsIn K mainGlobals "count_alike" = some (some (.ref f22)))
    (l22 : K.lookup f22 = some ⟨oc22, od22, .func (PySem.W.fnOf "count_alike" "count_alike" (defArgs s_count_alike) (defBody s_count_alike) (defScope s_count_alike) .none kV22 dc22 pm22 an22 cd22 ct22), sl22⟩) (c22 : PySem.W.codeIn K cd22 "count_alike" = true) (k22 : PySem.W.keepIn K (.ref f22) = true)
    {f23 : Addr} {od23 an23 : Option Addr} {sl23 : Array (Option Value)} {oc23 kV23 dc23 pm23 cd23 ct23 : Value}
    (a23 : PySem.W.nsIn K mainGlobals "borders" = some (some (.ref f23)))
    (l23 : K.lookup f23 = some ⟨oc23, od23, .func (PySem.W.fnOf "borders" "borders" (defArgs s_borders) (defBody s_borders) (defScope s_borders) .none kV23 dc23 pm23 an23 cd23 ct23), sl23⟩) (c23 : PySem.W.codeIn K cd23 "borders" = true) (k23 : PySem.W.keepIn K (.ref f23) = true)
    {f24 : Addr} {od24 an24 : Option Addr} {sl24 : Array (Option Value)} {oc24 kV24 dc24 pm24 cd24 ct24 : Value}
    (a24 : PySem.W.nsIn K mainGlobals "merged" = some (some (.ref f24)))
    (l24 : K.lookup f24 = some ⟨oc24, od24, .func (PySem.W.fnOf "merged" "merged" (defArgs s_merged) (defBody s_merged) (defScope s_merged) .none kV24 dc24 pm24 an24 cd24 ct24), sl24⟩) (c24 : PySem.W.codeIn K cd24 "merged" = true) (k24 : PySem.W.keepIn K (.ref f24) = true)
    {f25 : Addr} {od25 an25 : Option Addr} {sl25 : Array (Option Value)} {oc25 kV25 dc25 pm25 cd25 ct25 : Value}
    (a25 : PySem.W.nsIn K mainGlobals "first_unlike" = some (some (.ref f25)))
    (l25 : K.lookup f25 = some ⟨oc25, od25, .func (PySem.W.fnOf "first_unlike" "first_unlike" (defArgs s_first_unlike) (defBody s_first_unlike) (defScope s_first_unlike) .none kV25 dc25 pm25 an25 cd25 ct25), sl25⟩) (c25 : PySem.W.codeIn K cd25 "first_unlike" = true) (k25 : PySem.W.keepIn K (.ref f25) = true)
    {f26 : Addr} {od26 an26 : Option Addr} {sl26 : Array (Option Value)} {oc26 kV26 dc26 pm26 cd26 ct26 : Value}
    (a26 : PySem.W.nsIn K mainGlobals "parted" = some (some (.ref f26)))
    (l26 : K.lookup f26 = some ⟨oc26, od26, .func (PySem.W.fnOf "parted" "parted" (defArgs s_parted) (defBody s_parted) (defScope s_parted) .none kV26 dc26 pm26 an26 cd26 ct26), sl26⟩) (c26 : PySem.W.codeIn K cd26 "parted" = true) (k26 : PySem.W.keepIn K (.ref f26) = true)
    {f27 : Addr} {od27 an27 : Option Addr} {sl27 : Array (Option Value)} {oc27 kV27 dc27 pm27 cd27 ct27 : Value}
    (a27 : PySem.W.nsIn K mainGlobals "window" = some (some (.ref f27)))
    (l27 : K.lookup f27 = some ⟨oc27, od27, .func (PySem.W.fnOf "window" "window" (defArgs s_window) (defBody s_window) (defScope s_window) .none kV27 dc27 pm27 an27 cd27 ct27), sl27⟩) (c27 : PySem.W.codeIn K cd27 "window" = true) (k27 : PySem.W.keepIn K (.ref f27) = true)
    {f28 : Addr} {od28 an28 : Option Addr} {sl28 : Array (Option Value)} {oc28 kV28 dc28 pm28 cd28 ct28 : Value}
    (a28 : PySem.W.nsIn K mainGlobals "laid_over" = some (some (.ref f28)))
    (l28 : K.lookup f28 = some ⟨oc28, od28, .func (PySem.W.fnOf "laid_over" "laid_over" (defArgs s_laid_over) (defBody s_laid_over) (defScope s_laid_over) .none kV28 dc28 pm28 an28 cd28 ct28), sl28⟩) (c28 : PySem.W.codeIn K cd28 "laid_over" = true) (k28 : PySem.W.keepIn K (.ref f28) = true)
    {f29 : Addr} {od29 an29 : Option Addr} {sl29 : Array (Option Value)} {oc29 kV29 dc29 pm29 cd29 ct29 : Value}
    (a29 : PySem.W.nsIn K mainGlobals "over" = some (some (.ref f29)))
    (l29 : K.lookup f29 = some ⟨oc29, od29, .func (PySem.W.fnOf "over" "over" (defArgs s_over) (defBody s_over) (defScope s_over) .none kV29 dc29 pm29 an29 cd29 ct29), sl29⟩) (c29 : PySem.W.codeIn K cd29 "over" = true) (k29 : PySem.W.keepIn K (.ref f29) = true)
    {f30 : Addr} {od30 an30 : Option Addr} {sl30 : Array (Option Value)} {oc30 kV30 dc30 pm30 cd30 ct30 : Value}
    (a30 : PySem.W.nsIn K mainGlobals "part" = some (some (.ref f30)))
    (l30 : K.lookup f30 = some ⟨oc30, od30, .func (PySem.W.fnOf "part" "part" (defArgs s_part) (defBody s_part) (defScope s_part) .none kV30 dc30 pm30 an30 cd30 ct30), sl30⟩) (c30 : PySem.W.codeIn K cd30 "part" = true) (k30 : PySem.W.keepIn K (.ref f30) = true)
    {f31 : Addr} {od31 an31 : Option Addr} {sl31 : Array (Option Value)} {oc31 kV31 dc31 pm31 cd31 ct31 : Value}
    (a31 : PySem.W.nsIn K mainGlobals "after" = some (some (.ref f31)))
    (l31 : K.lookup f31 = some ⟨oc31, od31, .func (PySem.W.fnOf "after" "after" (defArgs s_after) (defBody s_after) (defScope s_after) .none kV31 dc31 pm31 an31 cd31 ct31), sl31⟩) (c31 : PySem.W.codeIn K cd31 "after" = true) (k31 : PySem.W.keepIn K (.ref f31) = true)
    {f32 : Addr} {od32 an32 : Option Addr} {sl32 : Array (Option Value)} {oc32 kV32 dc32 pm32 cd32 ct32 : Value}
    (a32 : PySem.W.nsIn K mainGlobals "stretch_of" = some (some (.ref f32)))
    (l32 : K.lookup f32 = some ⟨oc32, od32, .func (PySem.W.fnOf "stretch_of" "stretch_of" (defArgs s_stretch_of) (defBody s_stretch_of) (defScope s_stretch_of) .none kV32 dc32 pm32 an32 cd32 ct32), sl32⟩) (c32 : PySem.W.codeIn K cd32 "stretch_of" = true) (k32 : PySem.W.keepIn K (.ref f32) = true)
    {f33 : Addr} {od33 an33 : Option Addr} {sl33 : Array (Option Value)} {oc33 kV33 dc33 pm33 cd33 ct33 : Value}
    (a33 : PySem.W.nsIn K mainGlobals "stretches" = some (some (.ref f33)))
    (l33 : K.lookup f33 = some ⟨oc33, od33, .func (PySem.W.fnOf "stretches" "stretches" (defArgs s_stretches) (defBody s_stretches) (defScope s_stretches) .none kV33 dc33 pm33 an33 cd33 ct33), sl33⟩) (c33 : PySem.W.codeIn K cd33 "stretches" = true) (k33 : PySem.W.keepIn K (.ref f33) = true)
    {f34 : Addr} {od34 an34 : Option Addr} {sl34 : Array (Option Value)} {oc34 kV34 dc34 pm34 cd34 ct34 : Value}
    (a34 : PySem.W.nsIn K mainGlobals "_law_cell_at" = some (some (.ref f34)))
    (l34 : K.lookup f34 = some ⟨oc34, od34, .func (PySem.W.fnOf "_law_cell_at" "_law_cell_at" (defArgs s_l_cell_at) (defBody s_l_cell_at) (defScope s_l_cell_at) .none kV34 dc34 pm34 an34 cd34 ct34), sl34⟩) (c34 : PySem.W.codeIn K cd34 "_law_cell_at" = true) (k34 : PySem.W.keepIn K (.ref f34) = true)
    {f35 : Addr} {od35 an35 : Option Addr} {sl35 : Array (Option Value)} {oc35 kV35 dc35 pm35 cd35 ct35 : Value}
    (a35 : PySem.W.nsIn K mainGlobals "_law_digit" = some (some (.ref f35)))
    (l35 : K.lookup f35 = some ⟨oc35, od35, .func (PySem.W.fnOf "_law_digit" "_law_digit" (defArgs s_l_digit) (defBody s_l_digit) (defScope s_l_digit) .none kV35 dc35 pm35 an35 cd35 ct35), sl35⟩) (c35 : PySem.W.codeIn K cd35 "_law_digit" = true) (k35 : PySem.W.keepIn K (.ref f35) = true)
    {f36 : Addr} {od36 an36 : Option Addr} {sl36 : Array (Option Value)} {oc36 kV36 dc36 pm36 cd36 ct36 : Value}
    (a36 : PySem.W.nsIn K mainGlobals "_law_shared" = some (some (.ref f36)))
    (l36 : K.lookup f36 = some ⟨oc36, od36, .func (PySem.W.fnOf "_law_shared" "_law_shared" (defArgs s_l_shared) (defBody s_l_shared) (defScope s_l_shared) .none kV36 dc36 pm36 an36 cd36 ct36), sl36⟩) (c36 : PySem.W.codeIn K cd36 "_law_shared" = true) (k36 : PySem.W.keepIn K (.ref f36) = true)
    {f37 : Addr} {od37 an37 : Option Addr} {sl37 : Array (Option Value)} {oc37 kV37 dc37 pm37 cd37 ct37 : Value}
    (a37 : PySem.W.nsIn K mainGlobals "_law_lowest" = some (some (.ref f37)))
    (l37 : K.lookup f37 = some ⟨oc37, od37, .func (PySem.W.fnOf "_law_lowest" "_law_lowest" (defArgs s_l_lowest) (defBody s_l_lowest) (defScope s_l_lowest) .none kV37 dc37 pm37 an37 cd37 ct37), sl37⟩) (c37 : PySem.W.codeIn K cd37 "_law_lowest" = true) (k37 : PySem.W.keepIn K (.ref f37) = true)
    {f38 : Addr} {od38 an38 : Option Addr} {sl38 : Array (Option Value)} {oc38 kV38 dc38 pm38 cd38 ct38 : Value}
    (a38 : PySem.W.nsIn K mainGlobals "_law_plus" = some (some (.ref f38)))
    (l38 : K.lookup f38 = some ⟨oc38, od38, .func (PySem.W.fnOf "_law_plus" "_law_plus" (defArgs s_l_plus) (defBody s_l_plus) (defScope s_l_plus) .none kV38 dc38 pm38 an38 cd38 ct38), sl38⟩) (c38 : PySem.W.codeIn K cd38 "_law_plus" = true) (k38 : PySem.W.keepIn K (.ref f38) = true)
    {f39 : Addr} {od39 an39 : Option Addr} {sl39 : Array (Option Value)} {oc39 kV39 dc39 pm39 cd39 ct39 : Value}
    (a39 : PySem.W.nsIn K mainGlobals "_law_times" = some (some (.ref f39)))
    (l39 : K.lookup f39 = some ⟨oc39, od39, .func (PySem.W.fnOf "_law_times" "_law_times" (defArgs s_l_times) (defBody s_l_times) (defScope s_l_times) .none kV39 dc39 pm39 an39 cd39 ct39), sl39⟩) (c39 : PySem.W.codeIn K cd39 "_law_times" = true) (k39 : PySem.W.keepIn K (.ref f39) = true)
    {f40 : Addr} {od40 an40 : Option Addr} {sl40 : Array (Option Value)} {oc40 kV40 dc40 pm40 cd40 ct40 : Value}
    (a40 : PySem.W.nsIn K mainGlobals "_law_amount" = some (some (.ref f40)))
    (l40 : K.lookup f40 = some ⟨oc40, od40, .func (PySem.W.fnOf "_law_amount" "_law_amount" (defArgs s_l_amount) (defBody s_l_amount) (defScope s_l_amount) .none kV40 dc40 pm40 an40 cd40 ct40), sl40⟩) (c40 : PySem.W.codeIn K cd40 "_law_amount" = true) (k40 : PySem.W.keepIn K (.ref f40) = true)
    {f41 : Addr} {od41 an41 : Option Addr} {sl41 : Array (Option Value)} {oc41 kV41 dc41 pm41 cd41 ct41 : Value}
    (a41 : PySem.W.nsIn K mainGlobals "_law_edit" = some (some (.ref f41)))
    (l41 : K.lookup f41 = some ⟨oc41, od41, .func (PySem.W.fnOf "_law_edit" "_law_edit" (defArgs s_l_edit) (defBody s_l_edit) (defScope s_l_edit) .none kV41 dc41 pm41 an41 cd41 ct41), sl41⟩) (c41 : PySem.W.codeIn K cd41 "_law_edit" = true) (k41 : PySem.W.keepIn K (.ref f41) = true)
    {f42 : Addr} {od42 an42 : Option Addr} {sl42 : Array (Option Value)} {oc42 kV42 dc42 pm42 cd42 ct42 : Value}
    (a42 : PySem.W.nsIn K mainGlobals "_law_edits" = some (some (.ref f42)))
    (l42 : K.lookup f42 = some ⟨oc42, od42, .func (PySem.W.fnOf "_law_edits" "_law_edits" (defArgs s_l_edits) (defBody s_l_edits) (defScope s_l_edits) .none kV42 dc42 pm42 an42 cd42 ct42), sl42⟩) (c42 : PySem.W.codeIn K cd42 "_law_edits" = true) (k42 : PySem.W.keepIn K (.ref f42) = true)
    {f43 : Addr} {od43 an43 : Option Addr} {sl43 : Array (Option Value)} {oc43 kV43 dc43 pm43 cd43 ct43 : Value}
    (a43 : PySem.W.nsIn K mainGlobals "_law_odd_edit" = some (some (.ref f43)))
    (l43 : K.lookup f43 = some ⟨oc43, od43, .func (PySem.W.fnOf "_law_odd_edit" "_law_odd_edit" (defArgs s_l_odd_edit) (defBody s_l_odd_edit) (defScope s_l_odd_edit) .none kV43 dc43 pm43 an43 cd43 ct43), sl43⟩) (c43 : PySem.W.codeIn K cd43 "_law_odd_edit" = true) (k43 : PySem.W.keepIn K (.ref f43) = true)
    {f44 : Addr} {od44 an44 : Option Addr} {sl44 : Array (Option Value)} {oc44 kV44 dc44 pm44 cd44 ct44 : Value}
    (a44 : PySem.W.nsIn K mainGlobals "_law_bad_edits" = some (some (.ref f44)))
    (l44 : K.lookup f44 = some ⟨oc44, od44, .func (PySem.W.fnOf "_law_bad_edits" "_law_bad_edits" (defArgs s_l_bad_edits) (defBody s_l_bad_edits) (defScope s_l_bad_edits) .none kV44 dc44 pm44 an44 cd44 ct44), sl44⟩) (c44 : PySem.W.codeIn K cd44 "_law_bad_edits" = true) (k44 : PySem.W.keepIn K (.ref f44) = true)
    {f45 : Addr} {od45 an45 : Option Addr} {sl45 : Array (Option Value)} {oc45 kV45 dc45 pm45 cd45 ct45 : Value}
    (a45 : PySem.W.nsIn K mainGlobals "_law_deed" = some (some (.ref f45)))
    (l45 : K.lookup f45 = some ⟨oc45, od45, .func (PySem.W.fnOf "_law_deed" "_law_deed" (defArgs s_l_deed) (defBody s_l_deed) (defScope s_l_deed) .none kV45 dc45 pm45 an45 cd45 ct45), sl45⟩) (c45 : PySem.W.codeIn K cd45 "_law_deed" = true) (k45 : PySem.W.keepIn K (.ref f45) = true)
    {f46 : Addr} {od46 an46 : Option Addr} {sl46 : Array (Option Value)} {oc46 kV46 dc46 pm46 cd46 ct46 : Value}
    (a46 : PySem.W.nsIn K mainGlobals "_law_kind" = some (some (.ref f46)))
    (l46 : K.lookup f46 = some ⟨oc46, od46, .func (PySem.W.fnOf "_law_kind" "_law_kind" (defArgs s_l_kind) (defBody s_l_kind) (defScope s_l_kind) .none kV46 dc46 pm46 an46 cd46 ct46), sl46⟩) (c46 : PySem.W.codeIn K cd46 "_law_kind" = true) (k46 : PySem.W.keepIn K (.ref f46) = true)
    {f47 : Addr} {od47 an47 : Option Addr} {sl47 : Array (Option Value)} {oc47 kV47 dc47 pm47 cd47 ct47 : Value}
    (a47 : PySem.W.nsIn K mainGlobals "_law_stretch_kind" = some (some (.ref f47)))
    (l47 : K.lookup f47 = some ⟨oc47, od47, .func (PySem.W.fnOf "_law_stretch_kind" "_law_stretch_kind" (defArgs s_l_stretch_kind) (defBody s_l_stretch_kind) (defScope s_l_stretch_kind) .none kV47 dc47 pm47 an47 cd47 ct47), sl47⟩) (c47 : PySem.W.codeIn K cd47 "_law_stretch_kind" = true) (k47 : PySem.W.keepIn K (.ref f47) = true)
    {f48 : Addr} {od48 an48 : Option Addr} {sl48 : Array (Option Value)} {oc48 kV48 dc48 pm48 cd48 ct48 : Value}
    (a48 : PySem.W.nsIn K mainGlobals "law" = some (some (.ref f48)))
    (l48 : K.lookup f48 = some ⟨oc48, od48, .func (PySem.W.fnOf "law" "law" (defArgs s_law) (defBody s_law) (defScope s_law) .none kV48 dc48 pm48 an48 cd48 ct48), sl48⟩) (c48 : PySem.W.codeIn K cd48 "law" = true) (k48 : PySem.W.keepIn K (.ref f48) = true)
    (z_ValueError : PySem.W.nsIn K mainGlobals "ValueError" = some none)
    (z_abs : PySem.W.nsIn K mainGlobals "abs" = some none)
    (z_bool : PySem.W.nsIn K mainGlobals "bool" = some none)
    (z_dict : PySem.W.nsIn K mainGlobals "dict" = some none)
    (z_int : PySem.W.nsIn K mainGlobals "int" = some none)
    (z_isinstance : PySem.W.nsIn K mainGlobals "isinstance" = some none)
    (z_len : PySem.W.nsIn K mainGlobals "len" = some none)
    (z_list : PySem.W.nsIn K mainGlobals "list" = some none)
    (z_min : PySem.W.nsIn K mainGlobals "min" = some none)
    (z_range : PySem.W.nsIn K mainGlobals "range" = some none)
    (z_tuple : PySem.W.nsIn K mainGlobals "tuple" = some none)
    (z_zip : PySem.W.nsIn K mainGlobals "zip" = some none)
    {ca_NOUGHT : Addr} {co_NOUGHT : Obj} {cn_NOUGHT : Nat} {cx_NOUGHT_0 cx_NOUGHT_1 : Tok}
    (g_NOUGHT : PySem.W.nsIn K mainGlobals "NOUGHT" = some (some (.ref ca_NOUGHT))) (e_NOUGHT : K.lookup ca_NOUGHT = some co_NOUGHT) (qc_NOUGHT : co_NOUGHT.cls = .type "tuple") (q_NOUGHT : co_NOUGHT.data = .seq #[.int 0 cx_NOUGHT_0, .int 1 cx_NOUGHT_1] cn_NOUGHT)
    {ca_HALF : Addr} {co_HALF : Obj} {cn_HALF : Nat} {cx_HALF_0 cx_HALF_1 : Tok}
    (g_HALF : PySem.W.nsIn K mainGlobals "HALF" = some (some (.ref ca_HALF))) (e_HALF : K.lookup ca_HALF = some co_HALF) (qc_HALF : co_HALF.cls = .type "tuple") (q_HALF : co_HALF.data = .seq #[.int 1 cx_HALF_0, .int 2 cx_HALF_1] cn_HALF)
    {C_ScrollError : Addr} (g_ScrollError : PySem.W.nsIn K mainGlobals "ScrollError" = some (some (.ref C_ScrollError)))
    {C_NoFraction : Addr} (g_NoFraction : PySem.W.nsIn K mainGlobals "NoFraction" = some (some (.ref C_NoFraction)))
    (x_NoFraction : PySem.W.excIn K C_NoFraction [.type "ValueError", .type "Exception", .type "BaseException", .type "object"] "ValueError.__new__" = true) (kc_NoFraction : PySem.W.keepIn K (.ref C_NoFraction) = true) (bb_NoFraction : PySem.W.subIn K (.ref C_NoFraction) (.type "BaseException") = some true) (t_NoFraction : PySem.W.typeIn K (.ref C_NoFraction) = some (.type "type"))
    (xa_NoFraction : PySem.W.findIn K (.ref C_NoFraction) "__getattribute__" = some (some (.builtin "BaseException.__getattribute__"))) (xb_NoFraction : PySem.W.findIn K (.ref C_NoFraction) "__getattr__" = some none) (xc_NoFraction : PySem.W.hasDictIn K C_NoFraction = true) (xd_NoFraction : PySem.W.findIn K (.ref C_NoFraction) "__class__" = some (some (.builtin "object.__class__")))
    (xe_NoFraction : PySem.W.specialIn K (.builtin "object.__class__") "__get__" = some (some (.builtin "getset_descriptor.__get__"))) (xf_NoFraction : PySem.W.takesIn K (.builtin "object.__class__") = some true) (xg_NoFraction : PySem.W.mroIn K C_NoFraction (.type "object") = some true)
    {C_NoMoment : Addr} (g_NoMoment : PySem.W.nsIn K mainGlobals "NoMoment" = some (some (.ref C_NoMoment)))
    (x_NoMoment : PySem.W.excIn K C_NoMoment [.type "ValueError", .type "Exception", .type "BaseException", .type "object"] "ValueError.__new__" = true) (kc_NoMoment : PySem.W.keepIn K (.ref C_NoMoment) = true) (bb_NoMoment : PySem.W.subIn K (.ref C_NoMoment) (.type "BaseException") = some true) (t_NoMoment : PySem.W.typeIn K (.ref C_NoMoment) = some (.type "type"))
    (xa_NoMoment : PySem.W.findIn K (.ref C_NoMoment) "__getattribute__" = some (some (.builtin "BaseException.__getattribute__"))) (xb_NoMoment : PySem.W.findIn K (.ref C_NoMoment) "__getattr__" = some none) (xc_NoMoment : PySem.W.hasDictIn K C_NoMoment = true) (xd_NoMoment : PySem.W.findIn K (.ref C_NoMoment) "__class__" = some (some (.builtin "object.__class__")))
    (xe_NoMoment : PySem.W.specialIn K (.builtin "object.__class__") "__get__" = some (some (.builtin "getset_descriptor.__get__"))) (xf_NoMoment : PySem.W.takesIn K (.builtin "object.__class__") = some true) (xg_NoMoment : PySem.W.mroIn K C_NoMoment (.type "object") = some true)
    {C_NoEdits : Addr} (g_NoEdits : PySem.W.nsIn K mainGlobals "NoEdits" = some (some (.ref C_NoEdits)))
    (x_NoEdits : PySem.W.excIn K C_NoEdits [.type "ValueError", .type "Exception", .type "BaseException", .type "object"] "ValueError.__new__" = true) (kc_NoEdits : PySem.W.keepIn K (.ref C_NoEdits) = true) (bb_NoEdits : PySem.W.subIn K (.ref C_NoEdits) (.type "BaseException") = some true) (t_NoEdits : PySem.W.typeIn K (.ref C_NoEdits) = some (.type "type"))
    (xa_NoEdits : PySem.W.findIn K (.ref C_NoEdits) "__getattribute__" = some (some (.builtin "BaseException.__getattribute__"))) (xb_NoEdits : PySem.W.findIn K (.ref C_NoEdits) "__getattr__" = some none) (xc_NoEdits : PySem.W.hasDictIn K C_NoEdits = true) (xd_NoEdits : PySem.W.findIn K (.ref C_NoEdits) "__class__" = some (some (.builtin "object.__class__")))
    (xe_NoEdits : PySem.W.specialIn K (.builtin "object.__class__") "__get__" = some (some (.builtin "getset_descriptor.__get__"))) (xf_NoEdits : PySem.W.takesIn K (.builtin "object.__class__") = some true) (xg_NoEdits : PySem.W.mroIn K C_NoEdits (.type "object") = some true)
    (sb_NoEdits_ScrollError : PySem.W.subIn K (.ref C_NoEdits) (.ref C_ScrollError) = some true) (bs_NoEdits_ScrollError : PySem.W.subIn K (.ref C_ScrollError) (.type "BaseException") = some true) (ts_NoEdits_ScrollError : PySem.W.typeIn K (.ref C_ScrollError) = some (.type "type")) (is_NoEdits_ScrollError : PySem.W.isClsIn K C_ScrollError = true)
    (sb_NoFraction_ScrollError : PySem.W.subIn K (.ref C_NoFraction) (.ref C_ScrollError) = some true) (bs_NoFraction_ScrollError : PySem.W.subIn K (.ref C_ScrollError) (.type "BaseException") = some true) (ts_NoFraction_ScrollError : PySem.W.typeIn K (.ref C_ScrollError) = some (.type "type")) (is_NoFraction_ScrollError : PySem.W.isClsIn K C_ScrollError = true)
    (sb_NoMoment_ScrollError : PySem.W.subIn K (.ref C_NoMoment) (.ref C_ScrollError) = some true) (bs_NoMoment_ScrollError : PySem.W.subIn K (.ref C_ScrollError) (.type "BaseException") = some true) (ts_NoMoment_ScrollError : PySem.W.typeIn K (.ref C_ScrollError) = some (.type "type")) (is_NoMoment_ScrollError : PySem.W.isClsIn K C_ScrollError = true)
    (io_NoEdits_NoEdits : PySem.W.kitOne K (.ref C_NoEdits) (.ref C_NoEdits) = some true)
    (io_NoFraction_NoEdits : PySem.W.kitOne K (.ref C_NoFraction) (.ref C_NoEdits) = some false)
    (io_NoMoment_NoEdits : PySem.W.kitOne K (.ref C_NoMoment) (.ref C_NoEdits) = some false)
    (io_NoEdits_ValueError : PySem.W.kitOne K (.ref C_NoEdits) (.type "ValueError") = some true)
    (io_NoFraction_ValueError : PySem.W.kitOne K (.ref C_NoFraction) (.type "ValueError") = some true)
    (io_NoMoment_ValueError : PySem.W.kitOne K (.ref C_NoMoment) (.type "ValueError") = some true)
    (io_NoEdits_NoMoment : PySem.W.kitOne K (.ref C_NoEdits) (.ref C_NoMoment) = some false)
    (io_NoFraction_NoMoment : PySem.W.kitOne K (.ref C_NoFraction) (.ref C_NoMoment) = some false)
    (io_NoMoment_NoMoment : PySem.W.kitOne K (.ref C_NoMoment) (.ref C_NoMoment) = some true)
    : ∃ fd : FuncData, (∀ (s : Shared) (v : Value), BindsTo s fd ⟨[v], []⟩ [("_law_script", v)]) ∧ ∀ base : Heap, K.In base → base.Ns mainGlobals mg → FnOk l.prog w K mg base CX0 10 fa fd ["_law_script"] (spLaw K) := by
  have e := hfa.symm.trans (PySem.W.mg_of X G a48)
  cases e
  have F0 := fun_mk (st := s_is_number) l0 c0 k0
  have F1 := fun_mk (st := s_common_divisor) l1 c1 k1
  have F2 := fun_mk (st := s_is_fraction) l2 c2 k2
  have F3 := fun_mk (st := s_is_moment) l3 c3 k3
  have F4 := fun_mk (st := s_summed) l4 c4 k4
  have F5 := fun_mk (st := s_plus) l5 c5 k5
  have F6 := fun_mk (st := s_minus) l6 c6 k6
  have F7 := fun_mk (st := s_times) l7 c7 k7
  have F8 := fun_mk (st := s_shared) l8 c8 k8
  have F9 := fun_mk (st := s_less) l9 c9 k9
  have F10 := fun_mk (st := s_is_edit) l10 c10 k10
  have F11 := fun_mk (st := s_is_edits) l11 c11 k11
  have F12 := fun_mk (st := s_refuse_no_edits) l12 c12 k12
  have F13 := fun_mk (st := s_refuse_no_moment) l13 c13 k13
  have F14 := fun_mk (st := s_refuse_no_stretch) l14 c14 k14
  have F15 := fun_mk (st := s_led) l15 c15 k15
  have F16 := fun_mk (st := s_mapped) l16 c16 k16
  have F17 := fun_mk (st := s_summed_spans) l17 c17 k17
  have F18 := fun_mk (st := s_total) l18 c18 k18
  have F19 := fun_mk (st := s_goes_on) l19 c19 k19
  have F20 := fun_mk (st := s_tidied) l20 c20 k20
  have F21 := fun_mk (st := s_tidy) l21 c21 k21
  have F22 := fun_mk (st := s_count_alike) l22 c22 k22
  have F23 := fun_mk (st := s_borders) l23 c23 k23
  have F24 := fun_mk (st := s_merged) l24 c24 k24
  have F25 := fun_mk (st := s_first_unlike) l25 c25 k25
  have F26 := fun_mk (st := s_parted) l26 c26 k26
  have F27 := fun_mk (st := s_window) l27 c27 k27
  have F28 := fun_mk (st := s_laid_over) l28 c28 k28
  have F29 := fun_mk (st := s_over) l29 c29 k29
  have F30 := fun_mk (st := s_part) l30 c30 k30
  have F31 := fun_mk (st := s_after) l31 c31 k31
  have F32 := fun_mk (st := s_stretch_of) l32 c32 k32
  have F33 := fun_mk (st := s_stretches) l33 c33 k33
  have F34 := fun_mk (st := s_l_cell_at) l34 c34 k34
  have F35 := fun_mk (st := s_l_digit) l35 c35 k35
  have F36 := fun_mk (st := s_l_shared) l36 c36 k36
  have F37 := fun_mk (st := s_l_lowest) l37 c37 k37
  have F38 := fun_mk (st := s_l_plus) l38 c38 k38
  have F39 := fun_mk (st := s_l_times) l39 c39 k39
  have F40 := fun_mk (st := s_l_amount) l40 c40 k40
  have F41 := fun_mk (st := s_l_edit) l41 c41 k41
  have F42 := fun_mk (st := s_l_edits) l42 c42 k42
  have F43 := fun_mk (st := s_l_odd_edit) l43 c43 k43
  have F44 := fun_mk (st := s_l_bad_edits) l44 c44 k44
  have F45 := fun_mk (st := s_l_deed) l45 c45 k45
  have F46 := fun_mk (st := s_l_kind) l46 c46 k46
  have F47 := fun_mk (st := s_l_stretch_kind) l47 c47 k47
  have F48 := fun_mk (st := s_law) l48 c48 k48
  have b0 := F0.binds (ps := ["thing"]) fun _ _ _ _ _ _ us hl => match us, hl with | [_], _ => rfl
  have b1 := F1.binds (ps := ["one", "other"]) fun _ _ _ _ _ _ us hl => match us, hl with | [_, _], _ => rfl
  have b2 := F2.binds (ps := ["thing"]) fun _ _ _ _ _ _ us hl => match us, hl with | [_], _ => rfl
  have b3 := F3.binds (ps := ["thing"]) fun _ _ _ _ _ _ us hl => match us, hl with | [_], _ => rfl
  have b4 := F4.binds (ps := ["one", "top", "bottom"]) fun _ _ _ _ _ _ us hl => match us, hl with | [_, _, _], _ => rfl
  have b5 := F5.binds (ps := ["one", "other"]) fun _ _ _ _ _ _ us hl => match us, hl with | [_, _], _ => rfl
  have b6 := F6.binds (ps := ["one", "other"]) fun _ _ _ _ _ _ us hl => match us, hl with | [_, _], _ => rfl
  have b7 := F7.binds (ps := ["one", "other"]) fun _ _ _ _ _ _ us hl => match us, hl with | [_, _], _ => rfl
  have b8 := F8.binds (ps := ["one", "other"]) fun _ _ _ _ _ _ us hl => match us, hl with | [_, _], _ => rfl
  have b9 := F9.binds (ps := ["one", "other"]) fun _ _ _ _ _ _ us hl => match us, hl with | [_, _], _ => rfl
  have b10 := F10.binds (ps := ["thing"]) fun _ _ _ _ _ _ us hl => match us, hl with | [_], _ => rfl
  have b11 := F11.binds (ps := ["thing"]) fun _ _ _ _ _ _ us hl => match us, hl with | [_], _ => rfl
  have b13 := F13.binds (ps := ["thing"]) fun _ _ _ _ _ _ us hl => match us, hl with | [_], _ => rfl
  have b14 := F14.binds (ps := ["low", "high"]) fun _ _ _ _ _ _ us hl => match us, hl with | [_, _], _ => rfl
  have b15 := F15.binds (ps := ["edits", "t"]) fun _ _ _ _ _ _ us hl => match us, hl with | [_, _], _ => rfl
  have b16 := F16.binds (ps := ["edits", "t"]) fun _ _ _ _ _ _ us hl => match us, hl with | [_, _], _ => rfl
  have b17 := F17.binds (ps := ["edits"]) fun _ _ _ _ _ _ us hl => match us, hl with | [_], _ => rfl
  have b18 := F18.binds (ps := ["edits"]) fun _ _ _ _ _ _ us hl => match us, hl with | [_], _ => rfl
  have b19 := F19.binds (ps := ["edit", "start", "rate"]) fun _ _ _ _ _ _ us hl => match us, hl with | [_, _, _], _ => rfl
  have b20 := F20.binds (ps := ["edits"]) fun _ _ _ _ _ _ us hl => match us, hl with | [_], _ => rfl
  have b21 := F21.binds (ps := ["edits"]) fun _ _ _ _ _ _ us hl => match us, hl with | [_], _ => rfl
  have b22 := F22.binds (ps := ["one", "other"]) fun _ _ _ _ _ _ us hl => match us, hl with | [_, _], _ => rfl
  have b23 := F23.binds (ps := ["edits"]) fun _ _ _ _ _ _ us hl => match us, hl with | [_], _ => rfl
  have b24 := F24.binds (ps := ["one", "other"]) fun _ _ _ _ _ _ us hl => match us, hl with | [_, _], _ => rfl
  have b25 := F25.binds (ps := ["one", "other"]) fun _ _ _ _ _ _ us hl => match us, hl with | [_, _], _ => rfl
  have b26 := F26.binds (ps := ["one", "other"]) fun _ _ _ _ _ _ us hl => match us, hl with | [_, _], _ => rfl
  have b27 := F27.binds (ps := ["edits", "low", "high"]) fun _ _ _ _ _ _ us hl => match us, hl with | [_, _, _], _ => rfl
  have b28 := F28.binds (ps := ["edit", "inner"]) fun _ _ _ _ _ _ us hl => match us, hl with | [_, _], _ => rfl
  have b29 := F29.binds (ps := ["outer", "inner"]) fun _ _ _ _ _ _ us hl => match us, hl with | [_, _], _ => rfl
  have b30 := F30.binds (ps := ["edits", "low", "high"]) fun _ _ _ _ _ _ us hl => match us, hl with | [_, _, _], _ => rfl
  have b31 := F31.binds (ps := ["one", "other"]) fun _ _ _ _ _ _ us hl => match us, hl with | [_, _], _ => rfl
  have b32 := F32.binds (ps := ["edit", "begin", "low", "high"]) fun _ _ _ _ _ _ us hl => match us, hl with | [_, _, _, _], _ => rfl
  have b33 := F33.binds (ps := ["edits", "low", "high"]) fun _ _ _ _ _ _ us hl => match us, hl with | [_, _, _], _ => rfl
  have b34 := F34.binds (ps := ["_law_script", "_law_k"]) fun _ _ _ _ _ _ us hl => match us, hl with | [_, _], _ => rfl
  have b35 := F35.binds (ps := ["_law_state", "_law_base"]) fun _ _ _ _ _ _ us hl => match us, hl with | [_, _], _ => rfl
  have b36 := F36.binds (ps := ["_law_one", "_law_other"]) fun _ _ _ _ _ _ us hl => match us, hl with | [_, _], _ => rfl
  have b37 := F37.binds (ps := ["_law_top", "_law_bottom"]) fun _ _ _ _ _ _ us hl => match us, hl with | [_, _], _ => rfl
  have b38 := F38.binds (ps := ["_law_one", "_law_other"]) fun _ _ _ _ _ _ us hl => match us, hl with | [_, _], _ => rfl
  have b39 := F39.binds (ps := ["_law_one", "_law_other"]) fun _ _ _ _ _ _ us hl => match us, hl with | [_, _], _ => rfl
  have b40 := F40.binds (ps := ["_law_state"]) fun _ _ _ _ _ _ us hl => match us, hl with | [_], _ => rfl
  have b41 := F41.binds (ps := ["_law_state", "_law_ahead"]) fun _ _ _ _ _ _ us hl => match us, hl with | [_, _], _ => rfl
  have b42 := F42.binds (ps := ["_law_state", "_law_few"]) fun _ _ _ _ _ _ us hl => match us, hl with | [_, _], _ => rfl
  have b43 := F43.binds (ps := ["_law_state", "_law_edit_here"]) fun _ _ _ _ _ _ us hl => match us, hl with | [_, _], _ => rfl
  have b44 := F44.binds (ps := ["_law_state", "_law_edits_here"]) fun _ _ _ _ _ _ us hl => match us, hl with | [_, _], _ => rfl
  have b45 := F45.binds (ps := ["_law_way", "_law_bad", "_law_good", "_law_t"]) fun _ _ _ _ _ _ us hl => match us, hl with | [_, _, _, _], _ => rfl
  have b46 := F46.binds (ps := ["_law_way", "_law_bad", "_law_good", "_law_t"]) fun _ _ _ _ _ _ us hl => match us, hl with | [_, _, _, _], _ => rfl
  have b47 := F47.binds (ps := ["_law_way", "_law_good", "_law_low", "_law_high"]) fun _ _ _ _ _ _ us hl => match us, hl with | [_, _, _, _], _ => rfl
  have b48 := F48.binds (ps := ["_law_script"]) fun _ _ _ _ _ _ us hl => match us, hl with | [_], _ => rfl
  exact ⟨_, fun s v => .of_eq rfl, fun base _ _ => ok_law { a_is_number := _, d_is_number := _, F_is_number := F0, b_is_number := b0, g_is_number := PySem.W.mg_of X G a0, a_common_divisor := _, d_common_divisor := _, F_common_divisor := F1, b_common_divisor := b1, g_common_divisor := PySem.W.mg_of X G a1, a_is_fraction := _, d_is_fraction := _, F_is_fraction := F2, b_is_fraction := b2, g_is_fraction := PySem.W.mg_of X G a2, a_is_moment := _, d_is_moment := _, F_is_moment := F3, b_is_moment := b3, g_is_moment := PySem.W.mg_of X G a3, a_summed := _, d_summed := _, F_summed := F4, b_summed := b4, g_summed := PySem.W.mg_of X G a4, a_plus := _, d_plus := _, F_plus := F5, b_plus := b5, g_plus := PySem.W.mg_of X G a5, a_minus := _, d_minus := _, F_minus := F6, b_minus := b6, g_minus := PySem.W.mg_of X G a6, a_times := _, d_times := _, F_times := F7, b_times := b7, g_times := PySem.W.mg_of X G a7, a_shared := _, d_shared := _, F_shared := F8, b_shared := b8, g_shared := PySem.W.mg_of X G a8, a_less := _, d_less := _, F_less := F9, b_less := b9, g_less := PySem.W.mg_of X G a9, a_is_edit := _, d_is_edit := _, F_is_edit := F10, b_is_edit := b10, g_is_edit := PySem.W.mg_of X G a10, a_is_edits := _, d_is_edits := _, F_is_edits := F11, b_is_edits := b11, g_is_edits := PySem.W.mg_of X G a11, a_refuse_no_edits := _, d_refuse_no_edits := _, F_refuse_no_edits := F12, g_refuse_no_edits := PySem.W.mg_of X G a12, a_refuse_no_moment := _, d_refuse_no_moment := _, F_refuse_no_moment := F13, b_refuse_no_moment := b13, g_refuse_no_moment := PySem.W.mg_of X G a13, a_refuse_no_stretch := _, d_refuse_no_stretch := _, F_refuse_no_stretch := F14, b_refuse_no_stretch := b14, g_refuse_no_stretch := PySem.W.mg_of X G a14, a_led := _, d_led := _, F_led := F15, b_led := b15, g_led := PySem.W.mg_of X G a15, a_mapped := _, d_mapped := _, F_mapped := F16, b_mapped := b16, g_mapped := PySem.W.mg_of X G a16, a_summed_spans := _, d_summed_spans := _, F_summed_spans := F17, b_summed_spans := b17, g_summed_spans := PySem.W.mg_of X G a17, a_total := _, d_total := _, F_total := F18, b_total := b18, g_total := PySem.W.mg_of X G a18, a_goes_on := _, d_goes_on := _, F_goes_on := F19, b_goes_on := b19, g_goes_on := PySem.W.mg_of X G a19, a_tidied := _, d_tidied := _, F_tidied := F20, b_tidied := b20, g_tidied := PySem.W.mg_of X G a20, a_tidy := _, d_tidy := _, F_tidy := F21, b_tidy := b21, g_tidy := PySem.W.mg_of X G a21, a_count_alike := _, d_count_alike := _, F_count_alike := F22, b_count_alike := b22, g_count_alike := PySem.W.mg_of X G a22, a_borders := _, d_borders := _, F_borders := F23, b_borders := b23, g_borders := PySem.W.mg_of X G a23, a_merged := _, d_merged := _, F_merged := F24, b_merged := b24, g_merged := PySem.W.mg_of X G a24, a_first_unlike := _, d_first_unlike := _, F_first_unlike := F25, b_first_unlike := b25, g_first_unlike := PySem.W.mg_of X G a25, a_parted := _, d_parted := _, F_parted := F26, b_parted := b26, g_parted := PySem.W.mg_of X G a26, a_window := _, d_window := _, F_window := F27, b_window := b27, g_window := PySem.W.mg_of X G a27, a_laid_over := _, d_laid_over := _, F_laid_over := F28, b_laid_over := b28, g_laid_over := PySem.W.mg_of X G a28, a_over := _, d_over := _, F_over := F29, b_over := b29, g_over := PySem.W.mg_of X G a29, a_part := _, d_part := _, F_part := F30, b_part := b30, g_part := PySem.W.mg_of X G a30, a_after := _, d_after := _, F_after := F31, b_after := b31, g_after := PySem.W.mg_of X G a31, a_stretch_of := _, d_stretch_of := _, F_stretch_of := F32, b_stretch_of := b32, g_stretch_of := PySem.W.mg_of X G a32, a_stretches := _, d_stretches := _, F_stretches := F33, b_stretches := b33, g_stretches := PySem.W.mg_of X G a33, a_l_cell_at := _, d_l_cell_at := _, F_l_cell_at := F34, b_l_cell_at := b34, g_l_cell_at := PySem.W.mg_of X G a34, a_l_digit := _, d_l_digit := _, F_l_digit := F35, b_l_digit := b35, g_l_digit := PySem.W.mg_of X G a35, a_l_shared := _, d_l_shared := _, F_l_shared := F36, b_l_shared := b36, g_l_shared := PySem.W.mg_of X G a36, a_l_lowest := _, d_l_lowest := _, F_l_lowest := F37, b_l_lowest := b37, g_l_lowest := PySem.W.mg_of X G a37, a_l_plus := _, d_l_plus := _, F_l_plus := F38, b_l_plus := b38, g_l_plus := PySem.W.mg_of X G a38, a_l_times := _, d_l_times := _, F_l_times := F39, b_l_times := b39, g_l_times := PySem.W.mg_of X G a39, a_l_amount := _, d_l_amount := _, F_l_amount := F40, b_l_amount := b40, g_l_amount := PySem.W.mg_of X G a40, a_l_edit := _, d_l_edit := _, F_l_edit := F41, b_l_edit := b41, g_l_edit := PySem.W.mg_of X G a41, a_l_edits := _, d_l_edits := _, F_l_edits := F42, b_l_edits := b42, g_l_edits := PySem.W.mg_of X G a42, a_l_odd_edit := _, d_l_odd_edit := _, F_l_odd_edit := F43, b_l_odd_edit := b43, g_l_odd_edit := PySem.W.mg_of X G a43, a_l_bad_edits := _, d_l_bad_edits := _, F_l_bad_edits := F44, b_l_bad_edits := b44, g_l_bad_edits := PySem.W.mg_of X G a44, a_l_deed := _, d_l_deed := _, F_l_deed := F45, b_l_deed := b45, g_l_deed := PySem.W.mg_of X G a45, a_l_kind := _, d_l_kind := _, F_l_kind := F46, b_l_kind := b46, g_l_kind := PySem.W.mg_of X G a46, a_l_stretch_kind := _, d_l_stretch_kind := _, F_l_stretch_kind := F47, b_l_stretch_kind := b47, g_l_stretch_kind := PySem.W.mg_of X G a47, a_law := _, d_law := _, F_law := F48, b_law := b48, g_law := PySem.W.mg_of X G a48, m_ValueError := PySem.W.mg_none_of X G z_ValueError, m_abs := PySem.W.mg_none_of X G z_abs, m_bool := PySem.W.mg_none_of X G z_bool, m_dict := PySem.W.mg_none_of X G z_dict, m_int := PySem.W.mg_none_of X G z_int, m_isinstance := PySem.W.mg_none_of X G z_isinstance, m_len := PySem.W.mg_none_of X G z_len, m_list := PySem.W.mg_none_of X G z_list, m_min := PySem.W.mg_none_of X G z_min, m_range := PySem.W.mg_none_of X G z_range, m_tuple := PySem.W.mg_none_of X G z_tuple, m_zip := PySem.W.mg_none_of X G z_zip, ca_NOUGHT := ca_NOUGHT, g_NOUGHT := PySem.W.mg_of X G g_NOUGHT, cs_NOUGHT := ⟨_, _, _, e_NOUGHT, qc_NOUGHT, q_NOUGHT, .cons ⟨_, rfl⟩ (.cons ⟨_, rfl⟩ (.nil))⟩, ca_HALF := ca_HALF, g_HALF := PySem.W.mg_of X G g_HALF, cs_HALF := ⟨_, _, _, e_HALF, qc_HALF, q_HALF, .cons ⟨_, rfl⟩ (.cons ⟨_, rfl⟩ (.nil))⟩, c_ScrollError := C_ScrollError, g_ScrollError := PySem.W.mg_of X G g_ScrollError, c_NoFraction := C_NoFraction, g_NoFraction := PySem.W.mg_of X G g_NoFraction, x_NoFraction := x_NoFraction, k_NoFraction := kc_NoFraction, bb_NoFraction := bb_NoFraction, t_NoFraction := t_NoFraction, xc_NoFraction := ⟨xa_NoFraction, xb_NoFraction, bb_NoFraction, xc_NoFraction, xd_NoFraction, xe_NoFraction, xf_NoFraction, xg_NoFraction⟩, c_NoMoment := C_NoMoment, g_NoMoment := PySem.W.mg_of X G g_NoMoment, x_NoMoment := x_NoMoment, k_NoMoment := kc_NoMoment, bb_NoMoment := bb_NoMoment, t_NoMoment := t_NoMoment, xc_NoMoment := ⟨xa_NoMoment, xb_NoMoment, bb_NoMoment, xc_NoMoment, xd_NoMoment, xe_NoMoment, xf_NoMoment, xg_NoMoment⟩, c_NoEdits := C_NoEdits, g_NoEdits := PySem.W.mg_of X G g_NoEdits, x_NoEdits := x_NoEdits, k_NoEdits := kc_NoEdits, bb_NoEdits := bb_NoEdits, t_NoEdits := t_NoEdits, xc_NoEdits := ⟨xa_NoEdits, xb_NoEdits, bb_NoEdits, xc_NoEdits, xd_NoEdits, xe_NoEdits, xf_NoEdits, xg_NoEdits⟩, em_NoEdits_ScrollError := exm_by bs_NoEdits_ScrollError is_NoEdits_ScrollError ts_NoEdits_ScrollError sb_NoEdits_ScrollError, em_NoFraction_ScrollError := exm_by bs_NoFraction_ScrollError is_NoFraction_ScrollError ts_NoFraction_ScrollError sb_NoFraction_ScrollError, em_NoMoment_ScrollError := exm_by bs_NoMoment_ScrollError is_NoMoment_ScrollError ts_NoMoment_ScrollError sb_NoMoment_ScrollError, io_NoEdits_NoEdits := io_NoEdits_NoEdits, io_NoFraction_NoEdits := io_NoFraction_NoEdits, io_NoMoment_NoEdits := io_NoMoment_NoEdits, io_NoEdits_ValueError := io_NoEdits_ValueError, io_NoFraction_ValueError := io_NoFraction_ValueError, io_NoMoment_ValueError := io_NoMoment_ValueError, io_NoEdits_NoMoment := io_NoEdits_NoMoment, io_NoFraction_NoMoment := io_NoFraction_NoMoment, io_NoMoment_NoMoment := io_NoMoment_NoMoment }⟩
end LK
open PySem PySem.W PyProof.Rows
set_option maxHeartbeats 0 in
theorem PySem.Challenge.cw_lanescroll_k12_what_is_no_edit_holds : PySem.Challenge.rw_lanescroll_k12_what_is_no_edit.Holds := by
  w_on; o_law; k_head; (case hw => w_witness2)
  k_fill
  refine L2.walk_of (l := PySem.Challenge.rw_lanescroll_k12_what_is_no_edit) (n := 63) (k := 10) (x := "_law_script") (CX := fun _ => L2.CX0) (sp := fun w => LK.spLaw _) rfl (by decide) rfl ⟨rfl, by decide, by decide⟩ (fun w h Y => PySem.W.kIn_of Y) ?F (fun _ _ a ns hl _ hS => ⟨a, ns, rfl, hS, hl, fun _ => rfl⟩) (fun _ _ _ _ _ h => h)
  case F =>
    intro w mg fa h KX G hmg
    refine' LK.all_mk KX G hmg ?a0 ?l0 ?c0 ?k0 ?a1 ?l1 ?c1 ?k1 ?a2 ?l2 ?c2 ?k2 ?a3 ?l3 ?c3 ?k3 ?a4 ?l4 ?c4 ?k4 ?a5 ?l5 ?c5 ?k5 ?a6 ?l6 ?c6 ?k6 ?a7 ?l7 ?c7 ?k7 ?a8 ?l8 ?c8 ?k8 ?a9 ?l9 ?c9 ?k9 ?a10 ?l10 ?c10 ?k10 ?a11 ?l11 ?c11 ?k11 ?a12 ?l12 ?c12 ?k12 ?a13 ?l13 ?c13 ?k13 ?a14 ?l14 ?c14 ?k14 ?a15 ?l15 ?c15 ?k15 ?a16 ?l16 ?c16 ?k16 ?a17 ?l17 ?c17 ?k17 ?a18 ?l18 ?c18 ?k18 ?a19 ?l19 ?c19 ?k19 ?a20 ?l20 ?c20 ?k20 ?a21 ?l21 ?c21 ?k21 ?a22 ?l22 ?c22 ?k22 ?a23 ?l23 ?c23 ?k23 ?a24 ?l24 ?c24 ?k24 ?a25 ?l25 ?c25 ?k25 ?a26 ?l26 ?c26 ?k26 ?a27 ?l27 ?c27 ?k27 ?a28 ?l28 ?c28 ?k28 ?a29 ?l29 ?c29 ?k29 ?a30 ?l30 ?c30 ?k30 ?a31 ?l31 ?c31 ?k31 ?a32 ?l32 ?c32 ?k32 ?a33 ?l33 ?c33 ?k33 ?a34 ?l34 ?c34 ?k34 ?a35 ?l35 ?c35 ?k35 ?a36 ?l36 ?c36 ?k36 ?a37 ?l37 ?c37 ?k37 ?a38 ?l38 ?c38 ?k38 ?a39 ?l39 ?c39 ?k39 ?a40 ?l40 ?c40 ?k40 ?a41 ?l41 ?c41 ?k41 ?a42 ?l42 ?c42 ?k42 ?a43 ?l43 ?c43 ?k43 ?a44 ?l44 ?c44 ?k44 ?a45 ?l45 ?c45 ?k45 ?a46 ?l46 ?c46 ?k46 ?a47 ?l47 ?c47 ?k47 ?a48 ?l48 ?c48 ?k48 ?z_ValueError ?z_abs ?z_bool ?z_dict ?z_int ?z_isinstance ?z_len ?z_list ?z_min ?z_range ?z_tuple ?z_zip ?g_NOUGHT ?e_NOUGHT ?qc_NOUGHT ?q_NOUGHT ?g_HALF ?e_HALF ?qc_HALF ?q_HALF ?g_ScrollError ?g_NoFraction ?x_NoFraction ?kc_NoFraction ?bb_NoFraction ?t_NoFraction ?xa_NoFraction ?xb_NoFraction ?xc_NoFraction ?xd_NoFraction ?xe_NoFraction ?xf_NoFraction ?xg_NoFraction ?g_NoMoment ?x_NoMoment ?kc_NoMoment ?bb_NoMoment ?t_NoMoment ?xa_NoMoment ?xb_NoMoment ?xc_NoMoment ?xd_NoMoment ?xe_NoMoment ?xf_NoMoment ?xg_NoMoment ?g_NoEdits ?x_NoEdits ?kc_NoEdits ?bb_NoEdits ?t_NoEdits ?xa_NoEdits ?xb_NoEdits ?xc_NoEdits ?xd_NoEdits ?xe_NoEdits ?xf_NoEdits ?xg_NoEdits ?sb_NoEdits_ScrollError ?bs_NoEdits_ScrollError ?ts_NoEdits_ScrollError ?is_NoEdits_ScrollError ?sb_NoFraction_ScrollError ?bs_NoFraction_ScrollError ?ts_NoFraction_ScrollError ?is_NoFraction_ScrollError ?sb_NoMoment_ScrollError ?bs_NoMoment_ScrollError ?ts_NoMoment_ScrollError ?is_NoMoment_ScrollError ?io_NoEdits_NoEdits ?io_NoFraction_NoEdits ?io_NoMoment_NoEdits ?io_NoEdits_ValueError ?io_NoFraction_ValueError ?io_NoMoment_ValueError ?io_NoEdits_NoMoment ?io_NoFraction_NoMoment ?io_NoMoment_NoMoment
    (case a0 => k_is)
    (case l0 => k_is)
    (case c0 => k_is)
    (case k0 => k_is)
    (case a1 => k_is)
    (case l1 => k_is)
    (case c1 => k_is)
    (case k1 => k_is)
    (case a2 => k_is)
    (case l2 => k_is)
    (case c2 => k_is)
    (case k2 => k_is)
    (case a3 => k_is)
    (case l3 => k_is)
    (case c3 => k_is)
    (case k3 => k_is)
    (case a4 => k_is)
    (case l4 => k_is)
    (case c4 => k_is)
    (case k4 => k_is)
    (case a5 => k_is)
    (case l5 => k_is)
    (case c5 => k_is)
    (case k5 => k_is)
    (case a6 => k_is)
    (case l6 => k_is)
    (case c6 => k_is)
    (case k6 => k_is)
    (case a7 => k_is)
    (case l7 => k_is)
    (case c7 => k_is)
    (case k7 => k_is)
    (case a8 => k_is)
    (case l8 => k_is)
    (case c8 => k_is)
    (case k8 => k_is)
    (case a9 => k_is)
    (case l9 => k_is)
    (case c9 => k_is)
    (case k9 => k_is)
    (case a10 => k_is)
    (case l10 => k_is)
    (case c10 => k_is)
    (case k10 => k_is)
    (case a11 => k_is)
    (case l11 => k_is)
    (case c11 => k_is)
    (case k11 => k_is)
    (case a12 => k_is)
    (case l12 => k_is)
    (case c12 => k_is)
    (case k12 => k_is)
    (case a13 => k_is)
    (case l13 => k_is)
    (case c13 => k_is)
    (case k13 => k_is)
    (case a14 => k_is)
    (case l14 => k_is)
    (case c14 => k_is)
    (case k14 => k_is)
    (case a15 => k_is)
    (case l15 => k_is)
    (case c15 => k_is)
    (case k15 => k_is)
    (case a16 => k_is)
    (case l16 => k_is)
    (case c16 => k_is)
    (case k16 => k_is)
    (case a17 => k_is)
    (case l17 => k_is)
    (case c17 => k_is)
    (case k17 => k_is)
    (case a18 => k_is)
    (case l18 => k_is)
    (case c18 => k_is)
    (case k18 => k_is)
    (case a19 => k_is)
    (case l19 => k_is)
    (case c19 => k_is)
    (case k19 => k_is)
    (case a20 => k_is)
    (case l20 => k_is)
    (case c20 => k_is)
    (case k20 => k_is)
    (case a21 => k_is)
    (case l21 => k_is)
    (case c21 => k_is)
    (case k21 => k_is)
    (case a22 => k_is)
    (case l22 => k_is)
    (case c22 => k_is)
    (case k22 => k_is)
    (case a23 => k_is)
    (case l23 => k_is)
    (case c23 => k_is)
    (case k23 => k_is)
    (case a24 => k_is)
    (case l24 => k_is)
    (case c24 => k_is)
    (case k24 => k_is)
    (case a25 => k_is)
    (case l25 => k_is)
    (case c25 => k_is)
    (case k25 => k_is)
    (case a26 => k_is)
    (case l26 => k_is)
    (case c26 => k_is)
    (case k26 => k_is)
    (case a27 => k_is)
    (case l27 => k_is)
    (case c27 => k_is)
    (case k27 => k_is)
    (case a28 => k_is)
    (case l28 => k_is)
    (case c28 => k_is)
    (case k28 => k_is)
    (case a29 => k_is)
    (case l29 => k_is)
    (case c29 => k_is)
    (case k29 => k_is)
    (case a30 => k_is)
    (case l30 => k_is)
    (case c30 => k_is)
    (case k30 => k_is)
    (case a31 => k_is)
    (case l31 => k_is)
    (case c31 => k_is)
    (case k31 => k_is)
    (case a32 => k_is)
    (case l32 => k_is)
    (case c32 => k_is)
    (case k32 => k_is)
    (case a33 => k_is)
    (case l33 => k_is)
    (case c33 => k_is)
    (case k33 => k_is)
    (case a34 => k_is)
    (case l34 => k_is)
    (case c34 => k_is)
    (case k34 => k_is)
    (case a35 => k_is)
    (case l35 => k_is)
    (case c35 => k_is)
    (case k35 => k_is)
    (case a36 => k_is)
    (case l36 => k_is)
    (case c36 => k_is)
    (case k36 => k_is)
    (case a37 => k_is)
    (case l37 => k_is)
    (case c37 => k_is)
    (case k37 => k_is)
    (case a38 => k_is)
    (case l38 => k_is)
    (case c38 => k_is)
    (case k38 => k_is)
    (case a39 => k_is)
    (case l39 => k_is)
    (case c39 => k_is)
    (case k39 => k_is)
    (case a40 => k_is)
    (case l40 => k_is)
    (case c40 => k_is)
    (case k40 => k_is)
    (case a41 => k_is)
    (case l41 => k_is)
    (case c41 => k_is)
    (case k41 => k_is)
    (case a42 => k_is)
    (case l42 => k_is)
    (case c42 => k_is)
    (case k42 => k_is)
    (case a43 => k_is)
    (case l43 => k_is)
    (case c43 => k_is)
    (case k43 => k_is)
    (case a44 => k_is)
    (case l44 => k_is)
    (case c44 => k_is)
    (case k44 => k_is)
    (case a45 => k_is)
    (case l45 => k_is)
    (case c45 => k_is)
    (case k45 => k_is)
    (case a46 => k_is)
    (case l46 => k_is)
    (case c46 => k_is)
    (case k46 => k_is)
    (case a47 => k_is)
    (case l47 => k_is)
    (case c47 => k_is)
    (case k47 => k_is)
    (case a48 => k_is)
    (case l48 => k_is)
    (case c48 => k_is)
    (case k48 => k_is)
    (case z_ValueError => k_is)
    (case z_abs => k_is)
    (case z_bool => k_is)
    (case z_dict => k_is)
    (case z_int => k_is)
    (case z_isinstance => k_is)
    (case z_len => k_is)
    (case z_list => k_is)
    (case z_min => k_is)
    (case z_range => k_is)
    (case z_tuple => k_is)
    (case z_zip => k_is)
    (case g_NOUGHT => k_is)
    (case e_NOUGHT => first | rfl | k_is | k_exc)
    (case qc_NOUGHT => first | rfl | k_is | k_exc)
    (case q_NOUGHT => first | rfl | k_is | k_exc)
    (case g_HALF => k_is)
    (case e_HALF => first | rfl | k_is | k_exc)
    (case qc_HALF => first | rfl | k_is | k_exc)
    (case q_HALF => first | rfl | k_is | k_exc)
    (case g_ScrollError => k_is)
    (case g_NoFraction => k_is)
    (case x_NoFraction => k_exc)
    (case kc_NoFraction => k_is)
    (case bb_NoFraction => k_is)
    (case t_NoFraction => k_is)
    (case xa_NoFraction => k_is)
    (case xb_NoFraction => k_is)
    (case xc_NoFraction => k_is)
    (case xd_NoFraction => k_is)
    (case xe_NoFraction => k_is)
    (case xf_NoFraction => k_is)
    (case xg_NoFraction => k_is)
    (case g_NoMoment => k_is)
    (case x_NoMoment => k_exc)
    (case kc_NoMoment => k_is)
    (case bb_NoMoment => k_is)
    (case t_NoMoment => k_is)
    (case xa_NoMoment => k_is)
    (case xb_NoMoment => k_is)
    (case xc_NoMoment => k_is)
    (case xd_NoMoment => k_is)
    (case xe_NoMoment => k_is)
    (case xf_NoMoment => k_is)
    (case xg_NoMoment => k_is)
    (case g_NoEdits => k_is)
    (case x_NoEdits => k_exc)
    (case kc_NoEdits => k_is)
    (case bb_NoEdits => k_is)
    (case t_NoEdits => k_is)
    (case xa_NoEdits => k_is)
    (case xb_NoEdits => k_is)
    (case xc_NoEdits => k_is)
    (case xd_NoEdits => k_is)
    (case xe_NoEdits => k_is)
    (case xf_NoEdits => k_is)
    (case xg_NoEdits => k_is)
    (case sb_NoEdits_ScrollError => first | rfl | k_is | k_exc)
    (case bs_NoEdits_ScrollError => k_is)
    (case ts_NoEdits_ScrollError => k_is)
    (case is_NoEdits_ScrollError => k_is)
    (case sb_NoFraction_ScrollError => first | rfl | k_is | k_exc)
    (case bs_NoFraction_ScrollError => k_is)
    (case ts_NoFraction_ScrollError => k_is)
    (case is_NoFraction_ScrollError => k_is)
    (case sb_NoMoment_ScrollError => first | rfl | k_is | k_exc)
    (case bs_NoMoment_ScrollError => k_is)
    (case ts_NoMoment_ScrollError => k_is)
    (case is_NoMoment_ScrollError => k_is)
    (case io_NoEdits_NoEdits => first | rfl | k_is | k_exc)
    (case io_NoFraction_NoEdits => first | rfl | k_is | k_exc)
    (case io_NoMoment_NoEdits => first | rfl | k_is | k_exc)
    (case io_NoEdits_ValueError => first | rfl | k_is | k_exc)
    (case io_NoFraction_ValueError => first | rfl | k_is | k_exc)
    (case io_NoMoment_ValueError => first | rfl | k_is | k_exc)
    (case io_NoEdits_NoMoment => first | rfl | k_is | k_exc)
    (case io_NoFraction_NoMoment => first | rfl | k_is | k_exc)
    (case io_NoMoment_NoMoment => first | rfl | k_is | k_exc)
