import PyProof.Rows.All
import Wide.All
import OpenK.AllK
import Wide.FinOn
import PySem.Challenge.RW_lanescroll_k85_moments_and_bytes_as_text
import HandS.ForMost
import HandS.ForExc
import HandS.IsInst
import HandS.TupLe
import HandS.Wide
import HandS.Defaults
import HandS.ExcIs
import HandS.Style
import HandS.Walk
import KE.KCallOwn
import KE.KSuper
import HandS.FStr
import HandS.MakeKwOnly
import HandS.Star
import PyProof.CollectIter
import PyProof.WalksMore
import HandS.CallLocal
import HandS.ExcOwn
import HandS.TupAny
import HandS.Deep
import HandS.Text
import HandS.IntHex
import HandS.Iter
set_option Elab.async false
set_option linter.all false
set_option maxRecDepth 100000
set_option maxHeartbeats 4000000
namespace LK
open PySem PySem.Spec PyProof.Rows L2
def topS (i : Nat) : Stmt := PySem.Challenge.pw_lanescroll_k85_moments_and_bytes_as_text.main.body.getD i (.Pass ⟨0, 0, 0, 0⟩)
abbrev s_is_number : Stmt := topS 6
abbrev N_is_number : List Str := ["thing"]
theorem sc_is_number : FnScope N_is_number ["thing"] (defScope s_is_number) := ⟨rfl, rfl, rfl, by decide +kernel, rfl, by decide +kernel, by decide +kernel⟩
abbrev s_is_whole : Stmt := topS 7
abbrev N_is_whole : List Str := ["thing", "low", "high"]
theorem sc_is_whole : FnScope N_is_whole ["thing", "low", "high"] (defScope s_is_whole) := ⟨rfl, rfl, rfl, by decide +kernel, rfl, by decide +kernel, by decide +kernel⟩
abbrev s_is_bytes : Stmt := topS 8
abbrev N_is_bytes : List Str := ["thing", "byte"]
theorem sc_is_bytes : FnScope N_is_bytes ["thing"] (defScope s_is_bytes) := ⟨rfl, rfl, rfl, by decide +kernel, rfl, by decide +kernel, by decide +kernel⟩
abbrev s_common_divisor : Stmt := topS 10
abbrev N_common_divisor : List Str := ["one", "other"]
theorem sc_common_divisor : FnScope N_common_divisor ["one", "other"] (defScope s_common_divisor) := ⟨rfl, rfl, rfl, by decide +kernel, rfl, by decide +kernel, by decide +kernel⟩
abbrev s_is_fraction : Stmt := topS 11
abbrev N_is_fraction : List Str := ["thing", "top", "bottom"]
theorem sc_is_fraction : FnScope N_is_fraction ["thing"] (defScope s_is_fraction) := ⟨rfl, rfl, rfl, by decide +kernel, rfl, by decide +kernel, by decide +kernel⟩
abbrev s_is_moment : Stmt := topS 12
abbrev N_is_moment : List Str := ["thing"]
theorem sc_is_moment : FnScope N_is_moment ["thing"] (defScope s_is_moment) := ⟨rfl, rfl, rfl, by decide +kernel, rfl, by decide +kernel, by decide +kernel⟩
abbrev s_summed : Stmt := topS 13
abbrev N_summed : List Str := ["one", "top", "bottom", "divisor", "part", "whole", "rest"]
theorem sc_summed : FnScope N_summed ["one", "top", "bottom"] (defScope s_summed) := ⟨rfl, rfl, rfl, by decide +kernel, rfl, by decide +kernel, by decide +kernel⟩
abbrev s_plus : Stmt := topS 14
abbrev N_plus : List Str := ["one", "other"]
theorem sc_plus : FnScope N_plus ["one", "other"] (defScope s_plus) := ⟨rfl, rfl, rfl, by decide +kernel, rfl, by decide +kernel, by decide +kernel⟩
abbrev s_times : Stmt := topS 15
abbrev N_times : List Str := ["one", "other", "left", "right"]
theorem sc_times : FnScope N_times ["one", "other"] (defScope s_times) := ⟨rfl, rfl, rfl, by decide +kernel, rfl, by decide +kernel, by decide +kernel⟩
abbrev s_refuse_no_moment : Stmt := topS 17
abbrev N_refuse_no_moment : List Str := ["thing"]
theorem sc_refuse_no_moment : FnScope N_refuse_no_moment ["thing"] (defScope s_refuse_no_moment) := ⟨rfl, rfl, rfl, by decide +kernel, rfl, by decide +kernel, by decide +kernel⟩
abbrev s_refuse_no_bytes : Stmt := topS 19
abbrev N_refuse_no_bytes : List Str := ["row"]
theorem sc_refuse_no_bytes : FnScope N_refuse_no_bytes ["row"] (defScope s_refuse_no_bytes) := ⟨rfl, rfl, rfl, by decide +kernel, rfl, by decide +kernel, by decide +kernel⟩
abbrev s_is_number_word : Stmt := topS 23
abbrev N_is_number_word : List Str := ["word"]
theorem sc_is_number_word : FnScope N_is_number_word ["word"] (defScope s_is_number_word) := ⟨rfl, rfl, rfl, by decide +kernel, rfl, by decide +kernel, by decide +kernel⟩
abbrev s_number_of : Stmt := topS 24
abbrev N_number_of : List Str := ["word"]
theorem sc_number_of : FnScope N_number_of ["word"] (defScope s_number_of) := ⟨rfl, rfl, rfl, by decide +kernel, rfl, by decide +kernel, by decide +kernel⟩
abbrev s_fraction_word : Stmt := topS 25
abbrev N_fraction_word : List Str := ["told", "top", "bottom"]
theorem sc_fraction_word : FnScope N_fraction_word ["told"] (defScope s_fraction_word) := ⟨rfl, rfl, rfl, by decide +kernel, rfl, by decide +kernel, by decide +kernel⟩
abbrev s_moment_word : Stmt := topS 26
abbrev N_moment_word : List Str := ["moment"]
theorem sc_moment_word : FnScope N_moment_word ["moment"] (defScope s_moment_word) := ⟨rfl, rfl, rfl, by decide +kernel, rfl, by decide +kernel, by decide +kernel⟩
abbrev s_read_moment : Stmt := topS 27
abbrev N_read_moment : List Str := ["word", "top", "slash", "bottom", "moment"]
theorem sc_read_moment : FnScope N_read_moment ["word"] (defScope s_read_moment) := ⟨rfl, rfl, rfl, by decide +kernel, rfl, by decide +kernel, by decide +kernel⟩
abbrev s_hex_of : Stmt := topS 28
abbrev N_hex_of : List Str := ["row", "byte"]
theorem sc_hex_of : FnScope N_hex_of ["row"] (defScope s_hex_of) := ⟨rfl, rfl, rfl, by decide +kernel, rfl, by decide +kernel, by decide +kernel⟩
abbrev s_bytes_of : Stmt := topS 29
abbrev N_bytes_of : List Str := ["text", "figures", "sign", "at"]
theorem sc_bytes_of : FnScope N_bytes_of ["text"] (defScope s_bytes_of) := ⟨rfl, rfl, rfl, by decide +kernel, rfl, by decide +kernel, by decide +kernel⟩
abbrev s_l_cell_at : Stmt := topS 31
abbrev N_l_cell_at : List Str := ["_law_script", "_law_k"]
theorem sc_l_cell_at : FnScope N_l_cell_at ["_law_script", "_law_k"] (defScope s_l_cell_at) := ⟨rfl, rfl, rfl, by decide +kernel, rfl, by decide +kernel, by decide +kernel⟩
abbrev s_l_well : Stmt := topS 32
abbrev N_l_well : List Str := ["_law_cell"]
theorem sc_l_well : FnScope N_l_well ["_law_cell"] (defScope s_l_well) := ⟨rfl, rfl, rfl, by decide +kernel, rfl, by decide +kernel, by decide +kernel⟩
abbrev s_l_draw : Stmt := topS 33
abbrev N_l_draw : List Str := ["_law_well_here", "_law_many", "_law_digit", "_law_prime", "_law_figure"]
theorem sc_l_draw : FnScope N_l_draw ["_law_well_here", "_law_many"] (defScope s_l_draw) := ⟨rfl, rfl, rfl, by decide +kernel, rfl, by decide +kernel, by decide +kernel⟩
abbrev s_l_one : Stmt := topS 34
abbrev N_l_one : List Str := ["_law_well_here", "_law_some"]
theorem sc_l_one : FnScope N_l_one ["_law_well_here", "_law_some"] (defScope s_l_one) := ⟨rfl, rfl, rfl, by decide +kernel, rfl, by decide +kernel, by decide +kernel⟩
abbrev s_l_low : Stmt := topS 35
abbrev N_l_low : List Str := ["_law_top", "_law_bottom", "_law_one_here", "_law_other"]
theorem sc_l_low : FnScope N_l_low ["_law_top", "_law_bottom"] (defScope s_l_low) := ⟨rfl, rfl, rfl, by decide +kernel, rfl, by decide +kernel, by decide +kernel⟩
abbrev s_l_size : Stmt := topS 36
abbrev N_l_size : List Str := ["_law_well_here"]
theorem sc_l_size : FnScope N_l_size ["_law_well_here"] (defScope s_l_size) := ⟨rfl, rfl, rfl, by decide +kernel, rfl, by decide +kernel, by decide +kernel⟩
abbrev s_l_edited : Stmt := topS 37
abbrev N_l_edited : List Str := ["_law_well_here", "_law_text", "_law_signs", "_law_way", "_law_at", "_law_some", "_law_sign"]
theorem sc_l_edited : FnScope N_l_edited ["_law_well_here", "_law_text"] (defScope s_l_edited) := ⟨rfl, rfl, rfl, by decide +kernel, rfl, by decide +kernel, by decide +kernel⟩
abbrev s_l_number_of : Stmt := topS 38
abbrev N_l_number_of : List Str := ["_law_word", "_law_sign"]
theorem sc_l_number_of : FnScope N_l_number_of ["_law_word"] (defScope s_l_number_of) := ⟨rfl, rfl, rfl, by decide +kernel, rfl, by decide +kernel, by decide +kernel⟩
abbrev s_l_moment_of : Stmt := topS 39
abbrev N_l_moment_of : List Str := ["_law_word", "_law_number", "_law_at", "_law_top", "_law_bottom"]
theorem sc_l_moment_of : FnScope N_l_moment_of ["_law_word"] (defScope s_l_moment_of) := ⟨rfl, rfl, rfl, by decide +kernel, rfl, by decide +kernel, by decide +kernel⟩
abbrev s_l_row_of : Stmt := topS 40
abbrev N_l_row_of : List Str := ["_law_text", "_law_found", "_law_k", "_law_sign"]
theorem sc_l_row_of : FnScope N_l_row_of ["_law_text"] (defScope s_l_row_of) := ⟨rfl, rfl, rfl, by decide +kernel, rfl, by decide +kernel, by decide +kernel⟩
abbrev s_l_said : Stmt := topS 41
abbrev N_l_said : List Str := ["_law_ask", "_law_thing", "e", "_law_kinds"]
theorem sc_l_said : FnScope N_l_said ["_law_ask", "_law_thing"] (defScope s_l_said) := ⟨rfl, rfl, rfl, by decide +kernel, rfl, by decide +kernel, by decide +kernel⟩
abbrev s_l_alike : Stmt := topS 42
abbrev N_l_alike : List Str := ["_law_found", "_law_due", "_law_one_here"]
theorem sc_l_alike : FnScope N_l_alike ["_law_found", "_law_due"] (defScope s_l_alike) := ⟨rfl, rfl, rfl, by decide +kernel, rfl, by decide +kernel, by decide +kernel⟩
abbrev s_l_none_right : Stmt := topS 43
abbrev N_l_none_right : List Str := ["_law_well_here", "_law_odd", "_law_rows", "_law_text"]
theorem sc_l_none_right : FnScope N_l_none_right ["_law_well_here"] (defScope s_l_none_right) := ⟨rfl, rfl, rfl, by decide +kernel, rfl, by decide +kernel, by decide +kernel⟩
abbrev s_law : Stmt := topS 44
abbrev N_law : List Str := ["_law_script", "_law_cell", "_law_well_here", "_law_edits", "_law_moment", "_law_k", "_law_row", "_law_word", "_law_text", "_law_handed", "_law_turn", "_law_long_one", "_law_great", "_law_byte"]
theorem sc_law : FnScope N_law ["_law_script"] (defScope s_law) := ⟨rfl, rfl, rfl, by decide +kernel, rfl, by decide +kernel, by decide +kernel⟩

structure Txt (K : PySem.W.Frag) (mg : Str → Option Value) : Type where
  a_is_number : Addr
  d_is_number : FuncData
  F_is_number : Fun K "is_number" "is_number" s_is_number a_is_number d_is_number
  g_is_number : mg "is_number" = some (.ref a_is_number)
  b_is_number : Binds K d_is_number ["thing"] []
  a_is_whole : Addr
  d_is_whole : FuncData
  F_is_whole : Fun K "is_whole" "is_whole" s_is_whole a_is_whole d_is_whole
  g_is_whole : mg "is_whole" = some (.ref a_is_whole)
  b_is_whole : Binds K d_is_whole ["thing", "low", "high"] []
  a_is_bytes : Addr
  d_is_bytes : FuncData
  F_is_bytes : Fun K "is_bytes" "is_bytes" s_is_bytes a_is_bytes d_is_bytes
  g_is_bytes : mg "is_bytes" = some (.ref a_is_bytes)
  b_is_bytes : Binds K d_is_bytes ["thing"] []
  a_common_divisor : Addr
  d_common_divisor : FuncData
  F_common_divisor : Fun K "common_divisor" "common_divisor" s_common_divisor a_common_divisor d_common_divisor
  g_common_divisor : mg "common_divisor" = some (.ref a_common_divisor)
  b_common_divisor : Binds K d_common_divisor ["one", "other"] []
  a_is_fraction : Addr
  d_is_fraction : FuncData
  F_is_fraction : Fun K "is_fraction" "is_fraction" s_is_fraction a_is_fraction d_is_fraction
  g_is_fraction : mg "is_fraction" = some (.ref a_is_fraction)
  b_is_fraction : Binds K d_is_fraction ["thing"] []
  a_is_moment : Addr
  d_is_moment : FuncData
  F_is_moment : Fun K "is_moment" "is_moment" s_is_moment a_is_moment d_is_moment
  g_is_moment : mg "is_moment" = some (.ref a_is_moment)
  b_is_moment : Binds K d_is_moment ["thing"] []
  a_summed : Addr
  d_summed : FuncData
  F_summed : Fun K "summed" "summed" s_summed a_summed d_summed
  g_summed : mg "summed" = some (.ref a_summed)
  b_summed : Binds K d_summed ["one", "top", "bottom"] []
  a_plus : Addr
  d_plus : FuncData
  F_plus : Fun K "plus" "plus" s_plus a_plus d_plus
  g_plus : mg "plus" = some (.ref a_plus)
  b_plus : Binds K d_plus ["one", "other"] []
  a_times : Addr
  d_times : FuncData
  F_times : Fun K "times" "times" s_times a_times d_times
  g_times : mg "times" = some (.ref a_times)
  b_times : Binds K d_times ["one", "other"] []
  a_refuse_no_moment : Addr
  d_refuse_no_moment : FuncData
  F_refuse_no_moment : Fun K "refuse_no_moment" "refuse_no_moment" s_refuse_no_moment a_refuse_no_moment d_refuse_no_moment
  g_refuse_no_moment : mg "refuse_no_moment" = some (.ref a_refuse_no_moment)
  b_refuse_no_moment : Binds K d_refuse_no_moment ["thing"] []
  a_refuse_no_bytes : Addr
  d_refuse_no_bytes : FuncData
  F_refuse_no_bytes : Fun K "refuse_no_bytes" "refuse_no_bytes" s_refuse_no_bytes a_refuse_no_bytes d_refuse_no_bytes
  g_refuse_no_bytes : mg "refuse_no_bytes" = some (.ref a_refuse_no_bytes)
  b_refuse_no_bytes : Binds K d_refuse_no_bytes ["row"] []
  a_is_number_word : Addr
  d_is_number_word : FuncData
  F_is_number_word : Fun K "is_number_word" "is_number_word" s_is_number_word a_is_number_word d_is_number_word
  g_is_number_word : mg "is_number_word" = some (.ref a_is_number_word)
  b_is_number_word : Binds K d_is_number_word ["word"] []
  a_number_of : Addr
  d_number_of : FuncData
  F_number_of : Fun K "number_of" "number_of" s_number_of a_number_of d_number_of
  g_number_of : mg "number_of" = some (.ref a_number_of)
  b_number_of : Binds K d_number_of ["word"] []
  a_fraction_word : Addr
  d_fraction_word : FuncData
  F_fraction_word : Fun K "fraction_word" "fraction_word" s_fraction_word a_fraction_word d_fraction_word
  g_fraction_word : mg "fraction_word" = some (.ref a_fraction_word)
  b_fraction_word : Binds K d_fraction_word ["told"] []
  a_moment_word : Addr
  d_moment_word : FuncData
  F_moment_word : Fun K "moment_word" "moment_word" s_moment_word a_moment_word d_moment_word
  g_moment_word : mg "moment_word" = some (.ref a_moment_word)
  b_moment_word : Binds K d_moment_word ["moment"] []
  a_read_moment : Addr
  d_read_moment : FuncData
  F_read_moment : Fun K "read_moment" "read_moment" s_read_moment a_read_moment d_read_moment
  g_read_moment : mg "read_moment" = some (.ref a_read_moment)
  b_read_moment : Binds K d_read_moment ["word"] []
  a_hex_of : Addr
  d_hex_of : FuncData
  F_hex_of : Fun K "hex_of" "hex_of" s_hex_of a_hex_of d_hex_of
  g_hex_of : mg "hex_of" = some (.ref a_hex_of)
  b_hex_of : Binds K d_hex_of ["row"] []
  a_bytes_of : Addr
  d_bytes_of : FuncData
  F_bytes_of : Fun K "bytes_of" "bytes_of" s_bytes_of a_bytes_of d_bytes_of
  g_bytes_of : mg "bytes_of" = some (.ref a_bytes_of)
  b_bytes_of : Binds K d_bytes_of ["text"] []
  a_l_cell_at : Addr
  d_l_cell_at : FuncData
  F_l_cell_at : Fun K "_law_cell_at" "_law_cell_at" s_l_cell_at a_l_cell_at d_l_cell_at
  g_l_cell_at : mg "_law_cell_at" = some (.ref a_l_cell_at)
  b_l_cell_at : Binds K d_l_cell_at ["_law_script", "_law_k"] []
  a_l_well : Addr
  d_l_well : FuncData
  F_l_well : Fun K "_law_well" "_law_well" s_l_well a_l_well d_l_well
  g_l_well : mg "_law_well" = some (.ref a_l_well)
  b_l_well : Binds K d_l_well ["_law_cell"] []
  a_l_draw : Addr
  d_l_draw : FuncData
  F_l_draw : Fun K "_law_draw" "_law_draw" s_l_draw a_l_draw d_l_draw
  g_l_draw : mg "_law_draw" = some (.ref a_l_draw)
  b_l_draw : Binds K d_l_draw ["_law_well_here", "_law_many"] []
  a_l_one : Addr
  d_l_one : FuncData
  F_l_one : Fun K "_law_one" "_law_one" s_l_one a_l_one d_l_one
  g_l_one : mg "_law_one" = some (.ref a_l_one)
  b_l_one : Binds K d_l_one ["_law_well_here", "_law_some"] []
  a_l_low : Addr
  d_l_low : FuncData
  F_l_low : Fun K "_law_low" "_law_low" s_l_low a_l_low d_l_low
  g_l_low : mg "_law_low" = some (.ref a_l_low)
  b_l_low : Binds K d_l_low ["_law_top", "_law_bottom"] []
  a_l_size : Addr
  d_l_size : FuncData
  F_l_size : Fun K "_law_size" "_law_size" s_l_size a_l_size d_l_size
  g_l_size : mg "_law_size" = some (.ref a_l_size)
  b_l_size : Binds K d_l_size ["_law_well_here"] []
  a_l_edited : Addr
  d_l_edited : FuncData
  F_l_edited : Fun K "_law_edited" "_law_edited" s_l_edited a_l_edited d_l_edited
  g_l_edited : mg "_law_edited" = some (.ref a_l_edited)
  b_l_edited : Binds K d_l_edited ["_law_well_here", "_law_text"] []
  a_l_number_of : Addr
  d_l_number_of : FuncData
  F_l_number_of : Fun K "_law_number_of" "_law_number_of" s_l_number_of a_l_number_of d_l_number_of
  g_l_number_of : mg "_law_number_of" = some (.ref a_l_number_of)
  b_l_number_of : Binds K d_l_number_of ["_law_word"] []
  a_l_moment_of : Addr
  d_l_moment_of : FuncData
  F_l_moment_of : Fun K "_law_moment_of" "_law_moment_of" s_l_moment_of a_l_moment_of d_l_moment_of
  g_l_moment_of : mg "_law_moment_of" = some (.ref a_l_moment_of)
  b_l_moment_of : Binds K d_l_moment_of ["_law_word"] []
  a_l_row_of : Addr
  d_l_row_of : FuncData
  F_l_row_of : Fun K "_law_row_of" "_law_row_of" s_l_row_of a_l_row_of d_l_row_of
  g_l_row_of : mg "_law_row_of" = some (.ref a_l_row_of)
  b_l_row_of : Binds K d_l_row_of ["_law_text"] []
  a_l_said : Addr
  d_l_said : FuncData
  F_l_said : Fun K "_law_said" "_law_said" s_l_said a_l_said d_l_said
  g_l_said : mg "_law_said" = some (.ref a_l_said)
  b_l_said : Binds K d_l_said ["_law_ask", "_law_thing"] []
  a_l_alike : Addr
  d_l_alike : FuncData
  F_l_alike : Fun K "_law_alike" "_law_alike" s_l_alike a_l_alike d_l_alike
  g_l_alike : mg "_law_alike" = some (.ref a_l_alike)
  b_l_alike : Binds K d_l_alike ["_law_found", "_law_due"] []
  a_l_none_right : Addr
  d_l_none_right : FuncData
  F_l_none_right : Fun K "_law_none_right" "_law_none_right" s_l_none_right a_l_none_right d_l_none_right
  g_l_none_right : mg "_law_none_right" = some (.ref a_l_none_right)
  b_l_none_right : Binds K d_l_none_right ["_law_well_here"] []
  a_law : Addr
  d_law : FuncData
  F_law : Fun K "law" "law" s_law a_law d_law
  g_law : mg "law" = some (.ref a_law)
  b_law : Binds K d_law ["_law_script"] []
  m_ValueError : mg "ValueError" = none
  m_abs : mg "abs" = none
  m_bool : mg "bool" = none
  m_int : mg "int" = none
  m_isinstance : mg "isinstance" = none
  m_len : mg "len" = none
  m_list : mg "list" = none
  m_range : mg "range" = none
  m_str : mg "str" = none
  m_tuple : mg "tuple" = none
  c_ScrollError : Addr
  g_ScrollError : mg "ScrollError" = some (.ref c_ScrollError)
  c_NoMoment : Addr
  g_NoMoment : mg "NoMoment" = some (.ref c_NoMoment)
  c_NoBytes : Addr
  g_NoBytes : mg "NoBytes" = some (.ref c_NoBytes)
  c_NoText : Addr
  g_NoText : mg "NoText" = some (.ref c_NoText)
  ct_HEX_FIGURES : Tok
  g_HEX_FIGURES : mg "HEX_FIGURES" = some (.str "0123456789abcdef" ct_HEX_FIGURES)
  ct_MOST_FIGURES : Tok
  g_MOST_FIGURES : mg "MOST_FIGURES" = some (.int 60 ct_MOST_FIGURES)
  x_NoMoment : PySem.W.excIn K c_NoMoment [.type "ValueError", .type "Exception", .type "BaseException", .type "object"] "ValueError.__new__" = true
  k_NoMoment : PySem.W.keepIn K (.ref c_NoMoment) = true
  bb_NoMoment : PySem.W.subIn K (.ref c_NoMoment) (.type "BaseException") = some true
  t_NoMoment : PySem.W.typeIn K (.ref c_NoMoment) = some (.type "type")
  xc_NoMoment : ExcC K c_NoMoment
  x_NoBytes : PySem.W.excIn K c_NoBytes [.type "ValueError", .type "Exception", .type "BaseException", .type "object"] "ValueError.__new__" = true
  k_NoBytes : PySem.W.keepIn K (.ref c_NoBytes) = true
  bb_NoBytes : PySem.W.subIn K (.ref c_NoBytes) (.type "BaseException") = some true
  t_NoBytes : PySem.W.typeIn K (.ref c_NoBytes) = some (.type "type")
  xc_NoBytes : ExcC K c_NoBytes
  x_NoText : PySem.W.excIn K c_NoText [.type "ValueError", .type "Exception", .type "BaseException", .type "object"] "ValueError.__new__" = true
  k_NoText : PySem.W.keepIn K (.ref c_NoText) = true
  bb_NoText : PySem.W.subIn K (.ref c_NoText) (.type "BaseException") = some true
  t_NoText : PySem.W.typeIn K (.ref c_NoText) = some (.type "type")
  xc_NoText : ExcC K c_NoText
  em_NoBytes_ScrollError : PySem.W.exmOne K (.ref c_NoBytes) (.ref c_ScrollError) = some true
  em_NoMoment_ScrollError : PySem.W.exmOne K (.ref c_NoMoment) (.ref c_ScrollError) = some true
  em_NoText_ScrollError : PySem.W.exmOne K (.ref c_NoText) (.ref c_ScrollError) = some true
  io_NoBytes_NoMoment : PySem.W.kitOne K (.ref c_NoBytes) (.ref c_NoMoment) = some false
  io_NoMoment_NoMoment : PySem.W.kitOne K (.ref c_NoMoment) (.ref c_NoMoment) = some true
  io_NoText_NoMoment : PySem.W.kitOne K (.ref c_NoText) (.ref c_NoMoment) = some false
  io_NoBytes_NoBytes : PySem.W.kitOne K (.ref c_NoBytes) (.ref c_NoBytes) = some true
  io_NoMoment_NoBytes : PySem.W.kitOne K (.ref c_NoMoment) (.ref c_NoBytes) = some false
  io_NoText_NoBytes : PySem.W.kitOne K (.ref c_NoText) (.ref c_NoBytes) = some false
  io_NoBytes_NoText : PySem.W.kitOne K (.ref c_NoBytes) (.ref c_NoText) = some false
  io_NoMoment_NoText : PySem.W.kitOne K (.ref c_NoMoment) (.ref c_NoText) = some false
  io_NoText_NoText : PySem.W.kitOne K (.ref c_NoText) (.ref c_NoText) = some true
  io_NoBytes_ValueError : PySem.W.kitOne K (.ref c_NoBytes) (.type "ValueError") = some true
  io_NoMoment_ValueError : PySem.W.kitOne K (.ref c_NoMoment) (.type "ValueError") = some true
  io_NoText_ValueError : PySem.W.kitOne K (.ref c_NoText) (.type "ValueError") = some true
/-! ### heaps -/
/-- all but what stands at p is as it was -/
def Frm (p : Addr) (H H' : Hp) : Prop := ∀ b o, b ≠ p → H b = some o → H' b = some o
theorem Frm.get {p q : Addr} {H H' : Hp} {o : HO} (f : Frm p H H') (n : q ≠ p) (h : H q = some o) : H' q = some o := f q o n h
theorem Frm.refl {p : Addr} {H : Hp} : Frm p H H := fun _ _ _ h => h
theorem Frm.trans {p : Addr} {H H1 H2 : Hp} (a : Frm p H H1) (b : Frm p H1 H2) : Frm p H H2 := fun c o n h => b c o n (a c o n h)
theorem Frm.upd {p : Addr} {H : Hp} {o : HO} : Frm p H (upd H p o) := fun c u n h => by rw [upd_ne n]; exact h
theorem upd_old {H : Hp} {a q : Addr} {o o' : HO} (na : H a = none) (h : H q = some o) : upd H a o' q = some o := by
  rw [upd_ne (ne_of_none h na)]; exact h
theorem upd_oth {H : Hp} {a q : Addr} {o o' : HO} (na : q ≠ a) (h : H q = some o) : upd H a o' q = some o := by
  rw [upd_ne na]; exact h
theorem Frm.new {p a : Addr} {H H' : Hp} {o : HO} (f : Frm p H H') (na : H' a = none) : Frm p H (L2.upd H' a o) := fun c u n h => upd_old na (f c u n h)
theorem Frm.upd2 {p : Addr} {H H' : Hp} {o : HO} (f : Frm p H H') : Frm p H (L2.upd H' p o) := f.trans .upd
theorem Frm.own {p a : Addr} {H H' : Hp} {o : HO} (f : Frm p H H') (na : H a = none) : Frm p H (L2.upd H' a o) := fun c u n h => upd_oth (ne_of_none h na) (f c u n h)
theorem Frm.new2 {p a : Addr} {H H' : Hp} {o o2 : HO} (f : Frm p H H') (na : H' a = none) : Frm p H (L2.upd (L2.upd H' a o2) a o) := by rw [upd_upd]; exact f.new na
theorem upd_old2 {H : Hp} {a q : Addr} {o o' o2 : HO} (na : H a = none) (h : H q = some o) : upd (upd H a o2) a o' q = some o := by rw [upd_upd]; exact upd_old na h
theorem new_ne {H : Hp} {a q : Addr} {o : HO} (na : H a = none) (h : H q = some o) : a ≠ q := fun e => by subst e; rw [na] at h; cases h
theorem Same.get {q : Addr} {H H' : Hp} {o : HO} (f : Same H H') (h : H q = some o) : H' q = some o := f q o h
theorem Same.new {a : Addr} {H H' : Hp} {o : HO} (f : Same H H') (na : H' a = none) : Same H (L2.upd H' a o) := fun c u h => upd_old na (f c u h)
theorem Same.new2 {a : Addr} {H H' : Hp} {o o2 : HO} (f : Same H H') (na : H' a = none) : Same H (L2.upd (L2.upd H' a o2) a o) := by rw [upd_upd]; exact Same.new f na
theorem Same.own {a : Addr} {H H' : Hp} {o : HO} (f : Same H H') (na : H a = none) : Same H (L2.upd H' a o) := fun c u h => upd_oth (ne_of_none h na) (f c u h)
theorem Same.frm {p : Addr} {H H' : Hp} (f : Same H H') : Frm p H H' := fun c u _ h => f c u h
/-- what is new to an elder heap and stands apart is no matter -/
theorem Frm.same {p : Addr} {H H' : Hp} (f : Frm p H H') (n : H p = none) : Same H H' := fun c u h => f c u (ne_of_none h n) h
theorem Same.byFrm {p : Addr} {H H1 H2 : Hp} (f : Same H H1) (g : Frm p H1 H2) (n : H p = none) : Same H H2 := fun c u h => g c u (ne_of_none h n) (f c u h)
theorem Frm.none {p q : Addr} {H H' : Hp} (f : Frm p H H') (n : q ≠ p) (h : H' q = none) : H q = none := by
  cases e : H q with
  | none => rfl
  | some o => rw [f q o n e] at h; cases h
theorem Same.none {q : Addr} {H H' : Hp} (f : Same H H') (h : H' q = none) : H q = none := by
  cases e : H q with
  | none => rfl
  | some o => rw [f q o e] at h; cases h
/-! ### sizes, ifs -/
theorem szb {n : Nat} (h : n ≤ 16000000) : n ≤ sizeLine := Nat.le_trans h (by decide)
theorem szbl {n : Nat} (h : n ≤ 16000000) : n < sizeLine := Nat.lt_of_le_of_lt h (by decide)
theorem sz {n : Nat} (h : Nat.ble n 1000 = true) : n ≤ sizeLine := Nat.le_trans (Nat.le_of_ble_eq_true h) (by decide)
theorem szl {n : Nat} (h : Nat.ble n 1000 = true) : n < sizeLine := Nat.lt_of_le_of_lt (Nat.le_of_ble_eq_true h) (by decide)
theorem szn {n : Nat} (h : n ≤ 1000) : n ≤ sizeLine := Nat.le_trans h (by decide)
theorem sznl {n : Nat} (h : n ≤ 1000) : n < sizeLine := Nat.lt_of_le_of_lt h (by decide)
theorem ifT {c : Bool} {A B : Prop} (h : c = true) (a : A) : if c = true then A else B := by rw [if_pos h]; exact a
theorem ifF {c : Bool} {A B : Prop} (h : c = false) (b : B) : if c = true then A else B := by rw [h, if_neg Bool.false_ne_true]; exact b
theorem ifC {c : Bool} {A B : Prop} (a : c = true → A) (b : c = false → B) : if c = true then A else B := by
  cases c with
  | true => exact ifT rfl (a rfl)
  | false => exact ifF rfl (b rfl)
theorem ifAnd {k1 k2 : Bool} {A : Prop} {Q : VK} {H : Hp} (a : Q (.bl k2) H → A) (h : Q (.bl (k1 && k2)) H) : if k1 = true then A else Q (.bl false) H := by
  cases k1 with
  | true => exact ifT rfl (a h)
  | false => exact ifF rfl h
/-! ### items at a drawn place -/
theorem at_nn {α : Type} {xs : List α} {d : Int} (h0 : 0 ≤ d) (h1 : d < xs.length) : ∃ v, atI xs d = some v ∧ v ∈ xs ∧ xs[d.toNat]? = some v := by
  have h2 : d.toNat < xs.length := by omega
  have e : (d.toNat : Int) = d := by omega
  have k := atI_nat (List.getElem?_eq_getElem h2)
  rw [e] at k
  exact ⟨xs[d.toNat], k, List.getElem_mem h2, List.getElem?_eq_getElem h2⟩
theorem ixP {K : PySem.W.Frag} {H : Hp} {Q : VK} {p : Addr} {xs : List V} {d : Int} (R : V → Prop) (hp : SqL K H p xs) (h0 : 0 ≤ d) (h1 : d < xs.length) (all : ∀ v ∈ xs, R v) (k : ∀ v, R v → Q v H) : rIxL K (.ref p) (.int d) H Q := by
  obtain ⟨v, e, m, _⟩ := at_nn h0 h1
  exact ⟨_, _, _, _, rfl, rfl, hp, e, k v (all v m)⟩
theorem ixG {K : PySem.W.Frag} {H : Hp} {Q : VK} {p : Addr} {xs : List V} {d : Int} (hp : SqL K H p xs) (h0 : 0 ≤ d) (h1 : d < xs.length) (k : ∀ v, xs[d.toNat]? = some v → Q v H) : rIxL K (.ref p) (.int d) H Q := by
  obtain ⟨v, e, _, m⟩ := at_nn h0 h1
  exact ⟨_, _, _, _, rfl, rfl, hp, e, k v m⟩
def isI : V → Bool
  | .int _ => true
  | _ => false
theorem ixI {K : PySem.W.Frag} {H : Hp} {Q : VK} {p : Addr} {xs : List V} {d : Int} (hp : SqL K H p xs) (h0 : 0 ≤ d) (h1 : d < xs.length) (all : xs.all isI = true) (k : ∀ i, V.int i ∈ xs → Q (.int i) H) : rIxL K (.ref p) (.int d) H Q := by
  refine ixP (fun v => (∃ i, v = .int i) ∧ v ∈ xs) hp h0 h1 (fun v hv => ⟨?_, hv⟩) (fun v ⟨⟨i, e⟩, m⟩ => ?_)
  · have := List.all_eq_true.mp all v hv
    cases v <;> first | exact ⟨_, rfl⟩ | cases this
  · subst e; exact k i m
/-! ### a call with keywords alone -/
section
variable {X : Cx} {CX : CXT} {k : Nat} {f : Addr} {fd : FuncData} {ps ks : List Str} {sp : Sp} {E : XK} {x : Str} {p pos : Pos} {kws : List Keyword} {tk : TA} {g : List Value → List Value → List Value} {gV : List V → List V → List V}
theorem pe_callN0 (F : FnOk X.prog X.w X.K X.mg X.base CX k f fd ps sp) (hr : Room k X.A) (hg : Gl X x) (hm : X.mg x = some (.ref f)) (hk : PySem.W.keepIn X.K (.ref f) = true) (hb : KBn X.K fd ps 0 ks g gV) (hx : Passes CX X E)
    (hkw : PK X kws tk) (hall : (backToKw pos (keywordEach kws X.env)).all (·.1.isSome) = true := by rfl) (hks : (backToKw pos (keywordEach kws X.env)).filterMap (·.1) = ks := by rfl)
    (hdb : (x == ("__debug__" : Str)) = false := by decide)
    (hpl : ((backTo pos (starEach [] X.env)).any (·.1) || (backToKw pos (keywordEach kws X.env)).any (·.1.isNone)) = false := by rfl) :
    PE X (.Call (.Name x p) [] kws pos) (tCallN 0 ks.length sp gV E tNil tk) := by
  refine ⟨fun pins s σ H Q I h => ?_⟩
  refine wpAny_Call_Name_kw (ld_glob I hg hm ?_ hdb)
  refine PySem.W.callWith_KW0 (h₀ := X.base) I.ok.mod.kin hk hall (thn (hkw.run pos pins s σ H _ I h) fun ws s2 ⟨zs, H2, I2, rz, l1, l2, q2⟩ => ⟨I2.kIn, ?_⟩) hpl
  rw [hks]
  exact run_fnN F hr hb hx I2 .nil rz rfl l2 q2
end
section
variable {K : PySem.W.Frag} {x qual : Str} {st : Stmt} {f : Addr} {fd : FuncData} {ps ks : List Str} {n : Nat}
theorem kbAll {F : Fun K x qual st f fd} {g : {α : Type} → List α → List α → List α} (h : ∀ (kV doc pm : Value) (an : Option Addr) (cdv ct : Value) (us ws : List Value), us.length = n → ws.length = ks.length →
    bindArgs (PySem.W.fnOf x qual (defArgs st) (defBody st) (defScope st) .none kV doc pm an cdv ct) ⟨us, ks.zip ws⟩ = pure (ps.zip (g us ws)))
    (hrel : ∀ {vs : List V} {us : List Value} {zs : List V} {ws : List Value}, Vals vs us → Vals zs ws → Vals (g vs zs) (g us ws)) : KBn K fd ps n ks (fun us ws => g us ws) (fun us ws => g us ws) := by
  obtain ⟨oc, od, kV, doc, pm, an, cdv, ct, osl, rfl, lk, hcd⟩ := F.ex
  exact ⟨fun s us ws _ h1 h2 => .of_eq (h kV doc pm an cdv ct us ws h1 h2), fun r1 r2 => hrel r1 r2⟩
variable {params : Arguments} {body : List Stmt} {scope : Scope} {dvs : List V}
theorem bindsAll {F : FunD K x qual params body scope dvs [] f fd}
    (h : ∀ (T : Addr) (kV doc pm : Value) (an : Option Addr) (cdv ct : Value) (us its : List Value), us.length = ps.length → its.length = dvs.length →
      ∃ k, bindArgs (PySem.W.fnOf x qual params body scope (.ref T) kV doc pm an cdv ct) ⟨us, []⟩ = seqItems? (.ref T) >>= k ∧ k (some its.toArray) = pure (ps.zip us)) (hd : dvs ≠ []) : Binds K fd ps [] := by
  obtain ⟨ds, hv, hb⟩ := F.binds1 (ps := ps) ps.length dvs.length hd (by omega) (fun T kV doc pm an cdv ct us its h1 h2 => by
    obtain ⟨k, e1, e2⟩ := h T kV doc pm an cdv ct us its h1 h2
    refine ⟨k, e1, ?_⟩
    rw [e2, ← h2, List.drop_length, List.append_nil])
  rw [List.drop_length] at hv
  cases hv
  exact hb
theorem kbAllD {F : FunD K x qual params body scope dvs [] f fd} {g : {α : Type} → List α → List α → List α}
    (h : ∀ (T : Addr) (kV doc pm : Value) (an : Option Addr) (cdv ct : Value) (us its ws : List Value), us.length = n → its.length = dvs.length → ws.length = ks.length →
      ∃ k, bindArgs (PySem.W.fnOf x qual params body scope (.ref T) kV doc pm an cdv ct) ⟨us, ks.zip ws⟩ = seqItems? (.ref T) >>= k ∧ k (some its.toArray) = pure (ps.zip (g us ws))) (hd : dvs ≠ [])
    (hrel : ∀ {vs : List V} {us : List Value} {zs : List V} {ws : List Value}, Vals vs us → Vals zs ws → Vals (g vs zs) (g us ws)) : KBn K fd ps n ks (fun us ws => g us ws) (fun us ws => g us ws) := by
  obtain ⟨oc, od, dV, kV, doc, pm, an, cdv, ct, osl, rfl, lk, hcd, hD, hK⟩ := F.ex
  rcases hD with ⟨e, _⟩ | ⟨_, T, o, its, m, rfl, lT, oT, rT⟩
  · exact absurd e hd
  · refine ⟨fun s us ws X l1 l2 => ?_, fun r1 r2 => hrel r1 r2⟩
    obtain ⟨k, e1, e2⟩ := h T kV doc pm an cdv ct us its ws l1 rT.length.symm l2
    refine BindsTo.of_looks fun M => ?_
    rw [e1]
    exact looks_items X lT oT (.of_pure e2)
theorem exm_by {K : PySem.W.Frag} {C S : Addr} {b : Bool} (h1 : PySem.W.subIn K (.ref S) (.type "BaseException") = some true) (h2 : PySem.W.isClsIn K S = true) (h3 : PySem.W.typeIn K (.ref S) = some (.type "type")) (h4 : PySem.W.subIn K (.ref C) (.ref S) = some b) :
    PySem.W.exmOne K (.ref C) (.ref S) = some b := by
  have e1 : (PySem.W.subIn K (.ref S) (.type "BaseException") == some true) = true := by rw [h1] <;> rfl
  have e2 : ((PySem.W.clsIn K S).isSome && PySem.W.typeIn K (.ref S) == some (.type "type")) = true := by
    have h2' : (PySem.W.clsIn K S).isSome = true := h2
    rw [h2', h3] <;> rfl
  show (if (PySem.W.subIn K (.ref S) (.type "BaseException") == some true) = true then (if ((PySem.W.clsIn K S).isSome && PySem.W.typeIn K (.ref S) == some (.type "type")) = true then PySem.W.subIn K (.ref C) (.ref S) else none) else none) = some b
  rw [if_pos e1, if_pos e2]
  exact h4
end
/-! ### a < b < c of whole numbers, as one answer -/
def MonoE (t : TE) : Prop := ∀ (σ : L2.St) (H : Hp) (Q Q' : VK), (∀ v H', Q v H' → Q' v H') → t σ H Q → t σ H Q'
theorem mn_var {i : Nat} : MonoE (tVar i) := fun _ _ _ _ k ⟨v, e, q⟩ => ⟨v, e, k _ _ q⟩
theorem mn_c {v : V} : MonoE (tC v) := fun _ _ _ _ k q => k _ _ q
theorem mn_I0 {g : Int → Int → V} {ta tb : TE} (a : MonoE ta) (b : MonoE tb) : MonoE (tOp (rI0 g) ta tb) := fun σ H Q Q' k h =>
  a σ H _ _ (fun _ H1 h1 => b σ H1 _ _ (fun _ _ ⟨i, j, e1, e2, q⟩ => ⟨i, j, e1, e2, k _ _ q⟩) h1) h
theorem mn_I {C : Int → Int → Prop} {g : Int → Int → V} {ta tb : TE} (a : MonoE ta) (b : MonoE tb) : MonoE (tOp (rI C g) ta tb) := fun σ H Q Q' k h =>
  a σ H _ _ (fun _ H1 h1 => b σ H1 _ _ (fun _ _ ⟨i, j, e1, e2, c, q⟩ => ⟨i, j, e1, e2, c, k _ _ q⟩) h1) h
theorem mn_ixL {K : PySem.W.Frag} {ta tb : TE} (a : MonoE ta) (b : MonoE tb) : MonoE (tOp (rIxL K) ta tb) := fun σ H Q Q' k h =>
  a σ H _ _ (fun _ H1 h1 => b σ H1 _ _ (fun _ _ ⟨p, xs, i, v, e1, e2, s, e, q⟩ => ⟨p, xs, i, v, e1, e2, s, e, k _ _ q⟩) h1) h
theorem mn_ixT {K : PySem.W.Frag} {ta tb : TE} (a : MonoE ta) (b : MonoE tb) : MonoE (tOp (rIxT K) ta tb) := fun σ H Q Q' k h =>
  a σ H _ _ (fun _ H1 h1 => b σ H1 _ _ (fun _ _ ⟨p, xs, i, v, e1, e2, s, e, q⟩ => ⟨p, xs, i, v, e1, e2, s, e, k _ _ q⟩) h1) h
theorem mn_len {r : List V → Hp → VK → Prop} {ta : TE} (a : MonoE ta) (hr : ∀ vs H (Q Q' : VK), (∀ v H', Q v H' → Q' v H') → r vs H Q → r vs H Q') : MonoE (tCB r (tCons ta tNil)) := fun σ H Q Q' k h =>
  a σ H _ _ (fun _ H1 h1 => hr _ _ _ _ k h1) h
def tChI (g g' : Int → Int → Bool) (ta tb tc : TE) : TE := fun σ H Q => ta σ H fun x H1 => tb σ H1 fun y H2 => tc σ H2 fun z H3 => ∃ i j l : Int, x = .int i ∧ y = .int j ∧ z = .int l ∧ H3 = H2 ∧ Q (.bl (g i j && g' j l)) H2
/-- what c's reading tells is told at once: c changes nothing -/
theorem tChI_to {g g' : Int → Int → Bool} {ta tb tc : TE} (ma : MonoE ta) (mb : MonoE tb) (mc : MonoE tc) {σ : L2.St} {H : Hp} {Q : VK} (cx : ∀ (σ : L2.St) (H : Hp) (Q : V → Hp → Prop), tc σ H Q → ∃ v H', Q v H') (h : tChI g g' ta tb tc σ H Q) :
    tChain (rI0 fun i j => .bl (g i j)) (rI0 fun i j => .bl (g' i j)) ta tb tc σ H Q := by
  refine ma σ H _ _ (fun x H1 h1 => mb σ H1 _ _ (fun y H2 h2 => ?_) h1) h
  obtain ⟨_, _, i, j, l, ex, ey, _, _, q⟩ := cx _ _ _ h2
  refine ⟨i, j, ex, ey, _, rfl, ?_⟩
  cases e : g i j with
  | true =>
    refine ifT rfl (mc σ H2 _ _ (fun z H3 h3 => ?_) h2)
    obtain ⟨i', j', l', ex', ey', ez, e3, q'⟩ := h3
    have e1 : i' = i := V.int.inj (ex'.symm.trans ex)
    have e2 : j' = j := V.int.inj (ey'.symm.trans ey)
    subst e1 e2 ez e3
    rw [e, Bool.true_and] at q'
    exact ⟨j', l', ey, rfl, q'⟩
  | false =>
    rw [e, Bool.false_and] at q
    exact ifF rfl q
def ShowsE (t : TE) : Prop := ∀ (σ : L2.St) (H : Hp) (Q : V → Hp → Prop), t σ H Q → ∃ v H', Q v H'
theorem sh_var {i : Nat} : ShowsE (tVar i) := fun _ _ _ ⟨v, _, q⟩ => ⟨v, _, q⟩
theorem sh_c {v : V} : ShowsE (tC v) := fun _ _ _ q => ⟨_, _, q⟩
theorem sh_I0 {g : Int → Int → V} {ta tb : TE} (a : ShowsE ta) (b : ShowsE tb) : ShowsE (tOp (rI0 g) ta tb) := fun σ H Q h => by
  obtain ⟨x, H1, h1⟩ := a _ _ _ h
  obtain ⟨y, H2, h2⟩ := b _ _ _ h1
  obtain ⟨i, j, _, _, q⟩ := h2
  exact ⟨_, _, q⟩
theorem sh_I {C : Int → Int → Prop} {g : Int → Int → V} {ta tb : TE} (a : ShowsE ta) (b : ShowsE tb) : ShowsE (tOp (rI C g) ta tb) := fun σ H Q h => by
  obtain ⟨x, H1, h1⟩ := a _ _ _ h
  obtain ⟨y, H2, h2⟩ := b _ _ _ h1
  obtain ⟨i, j, _, _, _, q⟩ := h2
  exact ⟨_, _, q⟩
theorem sh_ixL {K : PySem.W.Frag} {ta tb : TE} (a : ShowsE ta) (b : ShowsE tb) : ShowsE (tOp (rIxL K) ta tb) := fun σ H Q h => by
  obtain ⟨x, H1, h1⟩ := a _ _ _ h
  obtain ⟨y, H2, h2⟩ := b _ _ _ h1
  obtain ⟨_, _, _, _, _, _, _, _, q⟩ := h2
  exact ⟨_, _, q⟩
theorem sh_ixT {K : PySem.W.Frag} {ta tb : TE} (a : ShowsE ta) (b : ShowsE tb) : ShowsE (tOp (rIxT K) ta tb) := fun σ H Q h => by
  obtain ⟨x, H1, h1⟩ := a _ _ _ h
  obtain ⟨y, H2, h2⟩ := b _ _ _ h1
  obtain ⟨_, _, _, _, _, _, _, _, q⟩ := h2
  exact ⟨_, _, q⟩
theorem PE.weak {X : Cx} {e : Expr} {t t' : TE} (h : PE X e t) (w : ∀ σ H Q, t' σ H Q → t σ H Q) : PE X e t' := ⟨fun pins s σ H Q I q => h.run pins s σ H Q I (w _ _ _ q)⟩
theorem pe_chainI {X : Cx} {op op' : CmpOp} {g g' : Int → Int → Bool} {a b c : Expr} {ta tb tc : TE} {pos : Pos} (ho : OpR X (compareOp op) (rI0 fun i j => .bl (g i j))) (ho' : OpR X (compareOp op') (rI0 fun i j => .bl (g' i j)))
    (ha : PE X a ta) (hb : PE X b tb) (hc : PE X c tc) (ma : MonoE ta) (mb : MonoE tb) (mc : MonoE tc) (sc : ShowsE tc) (hm : lastMarks [op, op'] [b, c] = false := by rfl) : PE X (.Compare a [op, op'] [b, c] pos) (tChI g g' ta tb tc) :=
  PE.weak (pe_chain ho ho' ha hb hc hm) (fun _ _ _ h => tChI_to ma mb mc sc h)
/-! ### rules within a comprehension: the written part by its own name -/
section
variable {X : Cx} {K : PySem.W.Frag}
theorem ix_listK (h : X.K = K) : IxR X (rIxL K) := h ▸ ix_list
theorem ix_tupK (h : X.K = K) : IxR X (rIxT K) := h ▸ ix_tup
theorem sl_listK (h : X.K = K) : SlR X (rSlL K) := h ▸ sl_list
theorem call_len_seqK (h : X.K = K) : CallR X (.builtin "len") (fun xs H Q => ∃ p ys, xs = [.ref p] ∧ (SqL K H p ys ∨ SqT K H p ys) ∧ Q (.int ys.length) H) := h ▸ call_len_seq
end
section
variable {X : Cx} {K : PySem.W.Frag}
theorem call_isiB (h : X.K = K) : CallR X (.builtin "isinstance") (rIsi K) := h ▸ call_isi
end
section
variable {X : Cx} {K : PySem.W.Frag}
theorem op_neDK (h : X.K = K) (hu : X.A.units + 64 < cLine) : OpR X (compareOp .NotEq) (rNeD K) := h ▸ op_neD hu
theorem op_eqDK (h : X.K = K) (hu : X.A.units + 64 < cLine) : OpR X (compareOp .Eq) (rEqD K) := h ▸ op_eqD hu
end
section
variable {X : Cx} {K : PySem.W.Frag}
theorem op_inDK (h : X.K = K) (hu : X.A.units + 65 < cLine) : OpR X (compareOp .In) (rInD K) := h ▸ op_inD hu
end
section
variable {X : Cx} {K : PySem.W.Frag}
theorem pi_listK {tg l : Expr} {tl : TE} (h : X.K = K) (hl : PE X l tl) : PI X tg l (iList K tl) := h ▸ pi_list hl
end
/-! ### + of two lists, the script among them; + of two truths -/
theorem list_add_any (l : Addr) (items : Array Value) (n : Nat) (sl : Array (Option Value)) (b : Addr) (items2 : Array Value) (n2 : Nat) (sl2 : Array (Option Value)) (hc0 : items.size + items2.size ≤ sizeLine) :
    Meets (Builtin.«list.__add__» ⟨[.ref l, .ref b], []⟩) (fun _ R s => s.heap.get? l = some { cls := .type "list", dict := none, data := .seq items n, slots := sl } ∧ s.heap.get? b = some { cls := .type "list", dict := none, data := .seq items2 n2, slots := sl2 } ∧ R (.ok (.ret (Value.ref s.heap.objs.size))) { s with heap := s.heap.push { cls := Value.type "list", data := Data.seq (items ++ items2) } }) :=
  .of_wp fun prog w A R s h => by
    obtain ⟨hp, g, d, tk, os⟩ := s
    obtain ⟨hl, hb, h⟩ := h
    have f3 := AutoSeq1.sub_list_list
    wp_walk using AutoSeq1.wpAny_loadPart' hl, AutoSeq1.wpAny_loadPart' hb
    exact ⟨_, rfl, h⟩
def rCatF (K : PySem.W.Frag) : R2 := fun x y H Q => ∃ l b xs zs, x = .ref l ∧ y = .ref b ∧ SqL K H l xs ∧ SqL K H b zs ∧ xs.length + zs.length ≤ sizeLine ∧ ∀ p, H p = none → Q (.ref p) (upd H p (.lst (xs ++ zs)))
theorem op_catF {X : Cx} : OpR X (binaryOp .Add) (rCatF X.K) := by
  intro pins s σ H x y v u Q I rx ry h
  obtain ⟨l, b, xs, zs, rfl, rfl, hH, hB, hz, q⟩ := h
  cases rx
  cases ry
  obtain ⟨its, r, ⟨o, n, e, hc, hd, hs⟩, _⟩ := I.list hH
  obtain ⟨its2, r2, ⟨o2, n2, e2, hc2, hd2, hs2⟩, _⟩ := I.list hB
  obtain ⟨oc, od, odt, osl⟩ := o
  obtain ⟨oc2, od2, odt2, osl2⟩ := o2
  simp only at hc hd hs hc2 hd2 hs2
  subst hc hd hs hc2 hd2 hs2
  have l1 := r.length
  have l2 := r2.length
  refine PySem.concat_meets ⟨_, e, rfl⟩ ⟨_, e2, rfl⟩ PySem.noFill_list_add PySem.seq_list_add PySem.F.slot_list_add PySem.F.entry_list_add (PySem.F.args_list_add_2 _ _) (list_add_any l its.toArray n osl b its2.toArray n2 osl2 (by rw [List.size_toArray, List.size_toArray]; omega)) ⟨e, e2, ?_⟩
  have ea : its.toArray ++ its2.toArray = (its ++ its2).toArray := by simp
  rw [ea]
  exact ⟨.ref _, _, I.lnew (t' := s.toks) (r.append r2) (by rw [List.length_append]; omega), rfl, q _ I.fresh⟩
theorem give_bb (a b : Bool) : Gives (Builtin.«int.__add__» ⟨[.bool a, .bool b], []⟩) (.int ((if a = true then (1 : Int) else 0) + (if b = true then (1 : Int) else 0))) := .of_wp fun M A E s Q h => by
  obtain ⟨hp, g, d, tk, os⟩ := s
  wp_walk
  exact ⟨_, rfl, h⟩
theorem op_add_bb {X : Cx} : OpR X (binaryOp .Add) (fun x y H Q => ∃ i k, x = .bl i ∧ y = .bl k ∧ Q (.int ((if i = true then (1 : Int) else 0) + (if k = true then (1 : Int) else 0))) H) := by
  intro pins s σ H x y v u Q I rx ry h
  obtain ⟨i, k, rfl, rfl, q⟩ := h
  cases rx
  cases ry
  exact binaryOp_gives (op := .Add) (T := "bool") rfl rfl PySem.F.fills_bool_add PySem.F.slot_bool_add PySem.F.entry_int_add (PySem.F.args_int_add_2 _ _) (give_bb i k) trivial ⟨.int _, H, I.tok _, ⟨_, rfl⟩, q⟩
/-! ### a, *b = a tuple -/
theorem Walks.later {prog : Program} {w : World} {A : Around} {I : Addr} {fp wr : List Addr} {n : Nat} {P : Nat → Value → Prop} {St : Nat → Heap → Prop} (W : Walks prog w A I fp wr (n + 1) P St) :
    Walks prog w A I fp wr n (fun i => P (i + 1)) (fun i => St (i + 1)) where
  sub := W.sub
  frame i := W.frame (i + 1)
  item i s Q E hi st hQ := W.item (i + 1) s Q E (by omega) st hQ
  done s Q E st hQ := W.done s Q E st hQ
  self i := W.self (i + 1)
theorem unpack_star {prog : Program} {w : World} {A : Around} {E : Value → Shared → Prop} {s : Shared} {t : Addr} {x : Value} {xs : List Value} {Q : List Value → Shared → Prop} (hh : A.handled = none) (ht : IsTup s.heap t (x :: xs).toArray) (hz : xs.length ≤ sizeLine)
    (hQ : ∀ (h' : Heap) (tk : Nat), (∀ b o, s.heap.get? b = some o → h'.get? b = some o) → Q [x, .ref h'.objs.size] { s with heap := h'.push { cls := .type "list", data := .seq xs.toArray }, toks := tk }) :
    wpAny (model prog w) A (unpackItems (.ref t) 2 (some 1)) Q E s := by
  have hlt : t ≠ s.heap.objs.size := by
    obtain ⟨o, ho, _⟩ := ht
    exact Nat.ne_of_lt (Heap.lt_size ho)
  unfold unpackItems
  refine wpAny_bind ?_
  unfold notIterableAtAll
  refine wpAny_bind (wpAny_specialOf ht.typeIs slot_tuple_iter.lookup (wpAny_pure ?_))
  simp only [Bool.false_eq_true, if_false]
  refine wpAny_bind (wpAny_holding (iter_tuple ht (wpAny_bind (wpAny_holding (draw_tuple hlt 1 0 _ _ ⟨_, Heap.get?_push_size _ rfl, rfl, rfl⟩ (ht.push _) (by simp) fun h1 it1 same1 => ?_)))))
  have ht1 : IsTup h1 t (x :: xs).toArray := (ht.push _).extBut same1.extBut hlt
  have e1 : List.take 1 (List.drop 0 (x :: xs).toArray.toList) = [x] := rfl
  rw [e1, if_neg (by simp)]
  refine wpAny_bind (wpAny_holding ?_)
  have W := (Walks.later (Walks.tuple (prog := prog) (w := w) (A := A.in1) hh s.heap.objs.size t hlt (x :: xs).toArray)).toS
  have hbig : s.heap.objs.size < h1.objs.size := by
    obtain ⟨o, ho, _⟩ := it1
    exact Heap.lt_size ho
  refine wpAny_collect_iter (T := "tuple_iterator") (.inr (.inr (.inr rfl))) W (fun i s' st => st.1.typeIs) ⟨it1, ht1⟩ (fun b hb => ?_) (by simp) (fun s' acc mv items => ?_) hz
  · simp only [List.mem_cons, List.not_mem_nil, or_false] at hb
    obtain ⟨o, ho, _⟩ := id ht1
    rcases hb with rfl | rfl
    · exact hbig
    · exact Heap.lt_size ho
  · have el : acc.toList = xs := by
      refine List.ext_getElem (by simpa using items.1) fun j h2 h3 => ?_
      have := items.2 j acc.toList[j] (by simp)
      simpa [List.getElem?_eq_getElem h3] using this.symm
    rw [el, if_neg (by omega)]
    refine wpAny_bind (wpAny_newList ?_ )
    have em : List.take (xs.length - (2 - 1 - 1)) xs = xs := List.take_of_length_le (by omega)
    have ed : List.drop (xs.length - (2 - 1 - 1)) xs = [] := List.drop_of_length_le (by omega)
    rw [em, ed, Moved.eq_with mv]
    refine wpAny_pure (hQ s'.heap s'.toks fun b o e => ?_)
    have nb : b ≠ s.heap.objs.size := Nat.ne_of_lt (Heap.lt_size e)
    exact mv.heap b o (by simpa using nb) (same1.extBut b o nb (Heap.get?_push_of_some _ e))
def gStar (K : PySem.W.Frag) (g0 g1 : TG) : TG := fun v σ H Q => ∃ a x xs, v = .ref a ∧ SqT K H a (x :: xs) ∧ ∀ l, H l = none → g0 x σ (upd H l (.lst xs)) fun σ1 H1 => g1 (.ref l) σ1 H1 Q
theorem pg_star {X : Cx} {e0 e1 : Expr} {p pos : Pos} {k : Nat} {g0 g1 : TG} (hc : X.calm = true) (h0 : PG X e0 g0) (h1 : PG X e1 g1) (he : assignEach [e0, .Starred e1 p] X.env = [(false, assign e0 X.env), (true, assign e1 X.env)] := by rfl) :
    PG X (.Tuple [e0, .Starred e1 p] k pos) (gStar X.K g0 g1) := by
  constructor
  rintro pins s σ H v u Q I r ⟨a, x, xs, rfl, hq, hw⟩
  cases r
  obtain ⟨its, rv, ht, hz⟩ := I.tuple hq
  cases rv with
  | @cons _ y _ ys ry rys =>
    rw [assign_Tuple]
    refine wpAny_bind (wpAny_standAt ?_)
    unfold unpack
    rw [he]
    refine wpAny_bind (wpAny_holding (unpack_star (I.ok.hd hc) ht (by rw [← rys.length]; simp only [List.length] at hz; omega) fun h' tk kp => ?_))
    have I1 : Inv X pins σ H { s with heap := h', toks := tk } := I.kept kp
    have I2 := I1.lnew (t' := tk) rys (by simp only [List.length] at hz; omega)
    refine assignInOrder_cons (thn (h0.run pins _ σ _ _ _ _ I2 ry (hw _ I1.fresh)) fun _ s1 z => ?_)
    obtain ⟨σ1, H1, I3, q1⟩ := z
    refine assignInOrder_cons (thn (h1.run pins s1 σ1 H1 (.ref h'.objs.size) _ Q I3 rfl q1) fun _ s2 z => ?_)
    exact assignInOrder_nil z
/-! ### a class made of the things of a list -/
def tMakeS (K : PySem.W.Frag) (C : Addr) (sp : Sp) (E : XK) (te : TE) : TE := fun u G Q => te u G fun y G1 => ∃ a xs, y = .ref a ∧ (SqT K G1 a xs ∨ SqL K G1 a xs) ∧
  ∀ o d, G1 o = none → G1 d = none → d ≠ o → sp (.ref o :: xs) (upd (upd G1 d (.own o)) o (.ins C d [])) (fun v G2 => v = .non ∧ Q (.ref o) G2) E
theorem pe_makeS {X : Cx} {CT : CXT} {k : Nat} {f C : Addr} {fd : FuncData} {ps : List Str} {sp : Sp} {E : XK} {x : Str} {p q pos : Pos} {e : Expr} {te : TE} (M : Mk X.K C f) (F : FnOk X.prog X.w X.K X.mg X.base CT k f fd ps sp) (hr : Room (k + 1) X.A) (hg : Gl X x) (hm : X.mg x = some (.ref C)) (hb : Binds X.K fd ps []) (hx : Passes CT X E) (he : PE X e te)
    (nd : (x == ("__debug__" : Str)) = false := by decide) (hs : starEach [.Starred e q] X.env = [(true, eval e X.env)] := by rfl) : PE X (.Call (.Name x p) [.Starred e q] [] pos) (tMakeS X.K C sp E te) := by
  constructor
  intro pins s u G Q I h
  refine wpAny_Call_Name_kw (ld_glob I hg hm (PySem.W.callWith_S (h₀ := X.base) I.ok.mod.kin M.kp (thn (he.run pins s u G _ I h) ?_) hs) nd)
  rintro v s1 ⟨y, G1, I1, ry, a, xs, rfl, hxs, q⟩
  cases ry
  refine StX.star_any I1 hxs fun us s2 I2 rv => ⟨I2.kIn, ?_⟩
  refine run_make (dvs := []) M F hr hb .nil hx I2 rv fun o d h1 h2 h3 => ?_
  rw [List.append_nil]
  exact q o d h1 h2 h3
/-! ### a method of an object whose class is one of several -/
theorem pe_either {X : Cx} {e : Expr} {t u : TE} (h : PE X e t) (k : PE X e u) : PE X e (fun σ H Q => t σ H Q ∨ u σ H Q) := ⟨fun pins s σ H Q I q => q.elim (h.run pins s σ H Q I) (k.run pins s σ H Q I)⟩
/-! ### several clauses of one try, each with a name for the error or without -/
abbrev Suite := Addr → Value → Option Addr → TS
/-- what follows a suite whose error had the slot i -/
def offAt (i : Nat) (D : Ends) : Ends := { nx := fun u G => D.nx (u.set i none) G, rt := D.rt, bk := fun u G => D.bk (u.set i none) G, ct := fun u G => D.ct (u.set i none) G }
def wMix (K : PySem.W.Frag) (Wo : WX) (D : Ends) : List (Value × Option Nat × Suite) → WX
  | [] => Wo
  | (c, none, t) :: r => fun k d u G => ∃ y, PySem.W.exmOne K k c = some y ∧ (y = true → ∀ e, G e = none → t e k d D u G) ∧ (y = false → wMix K Wo D r k d u G)
  | (c, some i, t) :: r => fun k d u G => ∃ y, PySem.W.exmOne K k c = some y ∧ (y = true → ∀ e, G e = none → t e k d (offAt i D) (u.set i (some (.ref e))) G) ∧ (y = false → wMix K Wo D r k d u G)
inductive Clauses (X : Cx) : List ExceptHandler → List (Value × Option Nat × Suite) → Prop
  | nil : Clauses X [] []
  | bare {x : Str} {c : Value} {t : Suite} {b : Stmt} {bs : List Stmt} {p1 p2 : Pos} {hds l} (hc : Names X x c)
      (su : ∀ e oe k d pn, Zc k d oe → (∃ vs, oe.data = .fields vs) → PSs (X.suite e ((e, oe) :: pn)) (b :: bs) (t e k d)) (r : Clauses X hds l) :
      Clauses X (.ExceptHandler (some (.Name x p1)) none (b :: bs) p2 :: hds) ((c, none, t) :: l)
  | named {x n : Str} {c : Value} {i : Nat} {t : Suite} {b : Stmt} {bs : List Stmt} {p1 p2 : Pos} {hds l} (hN : X.N.Nodup) (hi : X.N[i]? = some n) (hl : X.env.kindOf n = some .local) (hc : Names X x c)
      (su : ∀ e oe k d pn, Zc k d oe → (∃ vs, oe.data = .fields vs) → PSs (X.suite e ((e, oe) :: pn)) (b :: bs) (t e k d)) (r : Clauses X hds l) :
      Clauses X (.ExceptHandler (some (.Name x p1)) (some n) (b :: bs) p2 :: hds) ((c, some i, t) :: l)
theorem ps_try_mix {X : Cx} {body : List Stmt} {h1 : ExceptHandler} {hds : List ExceptHandler} {l : List (Value × Option Nat × Suite)} {pos : Pos} {tb : WX → TS} {Wo : WX} (hs : X.stack = X.env :: X.outer) (hf : X.env.frame = some X.env.locals) (tk : Takes X Wo)
    (hb : ∀ W pn xe, Takes (X.tr pn xe) W → PassesOwn (model X.prog X.w) X.A X.env xe → PSs (X.tr pn xe) body (tb W)) (hh : Clauses X (h1 :: hds) l) :
    PS X (.Try body (h1 :: hds) [] [] pos) (fun D u G => tb (wMix X.K Wo D l) D u G) := by
  constructor
  intro pins s u G D I h
  have ok := I.ok
  have frm : X.A.frames = some (X.env :: X.outer) := by rw [ok.frames, hs]
  refine wpAny_Try_except (wpAny_mono ((hb (wMix X.K Wo D l) (X.pn ++ pins) (fun e s₁ => wpAny (model X.prog X.w) X.A (noteFrame e X.env) (fun _ s₂ => wpAny (model X.prog X.w) X.A (setFlight e none) (fun _ s₃ => wpAny (model X.prog X.w) X.A (handleBy e X.env (h1 :: hds)) (SP X pins D) X.xe s₃) X.xe s₂) X.xe s₁) (fun v s' xx => ?_) PassesOwn.looking).run [] s u G D (I.toTry _) h) (fun f s1 z => ?_) (fun _ _ z => z))
  · obtain ⟨e, B, sI, _, u', G', k, d, rfl, J0, nb, up, sky, na, os, ag, wish⟩ := xx
    have J : Inv X pins u' G' sI := J0.ofTry ok
    refine Sky.land Zc.steady frm hf (by rw [← hs]; exact sky) fun h3 fl up3 => ?_
    have up13 := up.trans up3
    obtain ⟨o3, _, g3, z3, d3⟩ := fl.there
    have far : e ∉ frs (X.env :: X.outer) := by
      intro m
      obtain ⟨_, o', g', no⟩ := fl.2.2.1.mem m
      cases g3.symm.trans g'
      exact no _ d3
    have nl : e ≠ X.env.locals := by
      intro z
      exact far (List.mem_filterMap.mpr ⟨X.env, List.mem_cons_self, by rw [hf, z]⟩)
    have nf : e ∉ X.fs := by
      intro m
      obtain ⟨v, hv, q⟩ := List.mem_filterMap.mp m
      exact far (List.mem_filterMap.mpr ⟨v, List.mem_cons_of_mem _ hv, q⟩)
    have J3 : Inv X pins u' G' { s' with heap := h3 } := J.landed nb fl.1 up13 os ag
    have S3 := J3.suite g3 d3 na nl nf
    have TY : PySem.W.Looks (model X.prog X.w) h3 (typeOf (.ref e)) k := fun _ _ _ _ kk q => wpAny_typeOf_ref (kk _ _ g3) (z3.1 ▸ q)
    have name : ∀ {x : Str} {c : Value} {p1 : Pos}, Names X x c → ∀ {Q : Value → Shared → Prop} {E : Value → Shared → Prop}, Q c { s' with heap := h3 } → wpAny (model X.prog X.w) (X.A.mark (some (.ref e))) (eval (.Name x p1) X.env) Q E { s' with heap := h3 } := by
      rintro x c p1 ⟨g, nd, m | ⟨m, bv, nn⟩⟩ Q E q
      · exact ld_glob (X := X.suite e ((e, o3) :: (X.pn ++ pins))) S3 g m q nd
      · exact ld_blt (X := X.suite e ((e, o3) :: (X.pn ++ pins))) S3 g m bv q nn nd
    suffices go : ∀ {hd : List ExceptHandler} {l' : List (Value × Option Nat × Suite)}, Clauses X hd l' → wMix X.K Wo D l' k d u' G' → wpAny (model X.prog X.w) X.A (handleBy (.ref e) X.env hd) (SP X pins D) X.xe { s' with heap := h3 } from go hh wish
    intro hd l' cl
    induction cl with
    | nil =>
      intro wi
      refine wpAny_handleBy_nil ?_
      obtain ⟨_, _, _, oe, vs, T, oT, tt, he, hz, hdd, hT, hr⟩ := id fl
      unfold PySem.passOn
      refine wpAny_bind (wpAny_field he hdd hT ?_)
      rw [if_neg (by simp : ¬ ((Value.ref T == Value.none) = true))]
      have last : wpAny (model X.prog X.w) X.A (setFlight (.ref e) X.env.frame) (fun _ s4 => wpAny (model X.prog X.w) X.A (throw (.ref e) : Sem Flow) (SP X pins D) X.xe s4) X.xe { s' with heap := h3 } := by
        rw [hf]
        refine HandSPX.setFlight_upZ fl fun h4 hh4 up4 => wpAny_throw (tk _ _ ⟨e, B, sI, pins, u', G', k, d, rfl, J, nb, up13.trans up4, .inr (.inr ?_), na, os, ag, wi⟩)
        rw [hs]; exact hh4
      first | exact wpAny_bind (wpAny_pure (wpAny_bind last)) | exact wpAny_bind last
    | bare hc su r ih =>
      rintro ⟨y, ey, yes, no⟩
      refine wpAny_handleBy_cons (codeAny_handlers_test (name hc ((PySem.W.exm_one (M := model X.prog X.w) J3.kIn TY ey).here ?_))) (fun q => by cases q)
      cases y with
      | false => exact ih (no rfl)
      | true =>
        refine codeAny_handlers_suite (HandSPX.lands_againZ fl fun h4 fl4 up4 => ?_)
        obtain ⟨o4, _, g4, z4, d4⟩ := fl4.there
        have S4 := (J.landed (s' := { s' with heap := h4 }) nb fl4.1 (up13.trans up4) os ag).suite g4 d4 na nl nf
        refine wpAny_mono ((su e o4 k d (X.pn ++ pins) z4 ⟨_, d4⟩).run [] _ _ G' _ S4 (yes rfl e na)) (fun f s6 z => ?_) (fun _ _ z => z.elim)
        cases f with
        | ret v => obtain ⟨v6, u6, G6, S6, r6, q6⟩ := z; exact ⟨v6, u6, G6, S6.unsuite ok, r6, q6⟩
        | _ => obtain ⟨u6, G6, S6, q6⟩ := z; exact ⟨u6, G6, S6.unsuite ok, q6⟩
    | @named _ n c i _ _ _ _ p2 _ _ hN hi hl hc su r ih =>
      rintro ⟨y, ey, yes, no⟩
      refine wpAny_handleBy_cons (codeAny_handlers_test (name hc ((PySem.W.exm_one (M := model X.prog X.w) J3.kIn TY ey).here ?_))) (fun q => by cases q)
      cases y with
      | false => exact ih (no rfl)
      | true =>
        refine codeAny_handlers_suite_as (HandSPX.lands_againZ fl fun h4 fl4 up4 => ?_)
        obtain ⟨o4, _, g4, z4, d4⟩ := fl4.there
        have S4 := (J.landed (s' := { s' with heap := h4 }) nb fl4.1 (up13.trans up4) os ag).suite g4 d4 na nl nf
        refine store_ok (X := X.suite e ((e, o4) :: (X.pn ++ pins))) (v := .ref e) S4 hN hi (.inl hl) rfl (fun s5 S5 => wpAny_mono ((su e o4 k d (X.pn ++ pins) z4 ⟨_, d4⟩).run [] s5 _ G' _ S5 (yes rfl e na)) (fun f s6 z => ?_) (fun _ _ z => z.elim)) (.inr hl)
        have off : ∀ {u6 : L2.St} {G6 : Hp} {Q : Shared → Prop}, Inv (X.suite e ((e, o4) :: (X.pn ++ pins))) [] u6 G6 s6 → (∀ s7, Inv X pins (u6.set i none) G6 s7 → Q s7) → wpAny (model X.prog X.w) X.A (do bindName X.env n .none; unbindBehindTheSuite X.env n p2) (fun _ s7 => Q s7) X.xe s6 := fun S6 hq => gone_ok (S6.unsuite ok) hN hi hl hq
        cases f with
        | ret v => obtain ⟨v6, u6, G6, S6, r6, q6⟩ := z; exact off S6 fun s7 J7 => ⟨v6, _, G6, J7, r6, q6⟩
        | _ => obtain ⟨u6, G6, S6, q6⟩ := z; exact off S6 fun s7 J7 => ⟨_, G6, J7, q6⟩
  · cases f with
    | next => obtain ⟨u6, G6, J6, q6⟩ := z; exact wpAny_execs_nil ⟨u6, G6, J6.ofTry ok, q6⟩
    | ret v => obtain ⟨v6, u6, G6, J6, r6, q6⟩ := z; exact ⟨v6, u6, G6, J6.ofTry ok, r6, q6⟩
    | _ => obtain ⟨u6, G6, J6, q6⟩ := z; exact ⟨u6, G6, J6.ofTry ok, q6⟩
/-! ### isinstance of a caught error, of one class of several -/
def rIsEs (K : PySem.W.Frag) (k : Value) (d : Option Addr) (e : Addr) : List V → Hp → VK → Prop := fun xs H Q =>
  ∃ (D tp : Addr) (cs : List V) (us : List Value) (b : Bool), k = .ref D ∧ d = none ∧ ExcC K D ∧ xs = [.ref e, .ref tp] ∧ H tp = some (.tup cs) ∧ Paired ClsV cs us ∧ PySem.W.kitAny K (.ref D) us = some b ∧ Q (.bl b) H
theorem call_isEs {X : Cx} {K : PySem.W.Frag} {e : Addr} {oe : Obj} {k : Value} {d : Option Addr} {pn : List (Addr × Obj)} (hK : X.K = K) (hz : Zc k d oe) (hf : ∃ vs, oe.data = .fields vs) : CallR (X.suite e ((e, oe) :: pn)) (.builtin "isinstance") (rIsEs K k d e) := by
  subst hK
  intro pins s σ H xs us Q I r h
  obtain ⟨D, tp, cs, ws, b, rfl, rfl, C, rfl, hT, pr, ka, q⟩ := h
  obtain ⟨u1, u2, rfl, r1, r2⟩ := vals2 r
  cases r1
  cases (show u2 = Value.ref tp from r2)
  obtain ⟨_, its, rv, o, o1, o2, n, o3⟩ := (show ObjOk _ _ H s.heap tp (.tup cs) from I.hok tp _ hT)
  have eq := ClsV.all pr rv
  subst eq
  obtain ⟨oc, od, dt, sl⟩ := o
  simp only at o2 o3
  subst o2 o3
  obtain ⟨vs, hv⟩ := hf
  have there := (I.pin (e, oe) (List.mem_append.mpr (.inl List.mem_cons_self))).1
  have J : PySem.W.InstAt s.heap e oe D none := by
    obtain ⟨_, _, _, _⟩ := oe
    obtain ⟨z1, z2⟩ := hz
    dsimp only at z1 z2 hv
    subst z1 z2 hv
    exact ⟨there, rfl, rfl, trivial⟩
  exact PySem.W.kia_tup (PySem.W.handS_kitx_exc C.hg C.hk C.hs C.hd C.ha C.hn C.ht C.hm) I.kIn J o1 ka (fun z => nomatch z) fun tk => ⟨.bl b, H, I.kept (t' := tk) fun _ _ z => z, rfl, q⟩
/-! ### isinstance of a caught error, whatever its class -/
theorem call_isE2 {X : Cx} {K : PySem.W.Frag} {a : Addr} {oe : Obj} {cls : Value} {d : Option Addr} {pn : List (Addr × Obj)} (hK : X.K = K) (hz : Zc cls d oe) (hf : ∃ vs, oe.data = .fields vs) :
    CallR (X.suite a ((a, oe) :: pn)) (.builtin "isinstance") (fun xs H Q => ∃ D, cls = .ref D ∧ d = none ∧ ExcC K D ∧ rIsE K D a xs H Q) := by
  subst hK
  intro pins s σ H xs us Q I r h
  obtain ⟨D, rfl, rfl, C, h⟩ := h
  exact call_isE C hz hf pins s σ H xs us Q I r h
/-! ### a call of what a slot holds, inside a try -/
def tCallLS (W : WX) (i : Nat) (f : Addr) (sp : Sp) (t : TA) : TE := fun u G Q => u[i]? = some (some (.ref f)) ∧ t u G fun vs G1 => sp vs G1 Q (WE W u)
theorem pe_callLS {X : Cx} {C : CXT} {k i : Nat} {f : Addr} {fd : FuncData} {ps : List Str} {sp : Sp} {W : WX} {x : Str} {p pos : Pos} {e : Expr} {es : List Expr} {t : TA} (F : FnOk X.prog X.w X.K X.mg X.base C k f fd ps sp) (hr : Room k X.A) (hN : X.N[i]? = some x) (hv : Vis X.env.scope x)
    (hk : PySem.W.keepIn X.K (.ref f) = true) (hb : Binds X.K fd ps []) (hx : ∀ u, PassesAt C X u (WE W u)) (ha : PA X (e :: es) t) (n1 : (x == ("__debug__" : Str)) = false := by decide) (n2 : (x == ("__classdict__" : Str)) = false := by decide)
    (he : starEach (e :: es) X.env = (false, eval e X.env) :: starEach es X.env := by rfl) (hp : (backTo pos (starEach es X.env)).any (·.1) = false := by rfl) : PE X (.Call (.Name x p) (e :: es) [] pos) (tCallLS W i f sp t) := by
  constructor
  rintro pins s u G Q I ⟨hs, ht⟩
  refine wpAny_Call_Name_kw (thn ((pe_var (pos := p) hN hv n1 n2).run pins s u G (fun v G1 => v = .ref f ∧ G1 = G) I ⟨.ref f, hs, rfl, rfl⟩) ?_)
  rintro v s1 ⟨_, _, I1, r1, rfl, rfl⟩
  cases r1
  refine PySem.W.callWith_K (h₀ := X.base) I.ok.mod.kin hk (thn (ha.run pos pins s1 u _ _ I1 ht) fun us s2 z => ?_) he hp
  obtain ⟨vs, G2, I2, r, q⟩ := z
  exact ⟨I2.kIn, run_fnS (E := WE W) F hr hb (hx u) I2 r q⟩
/-! ### a statement that is never reached -/
theorem ps_never {X : Cx} {s : Stmt} : PS X s (fun _ _ _ => False) := ⟨fun _ _ _ _ _ _ h => h.elim⟩
/-! ### texts and flat lists: what the library's rules leave -/
theorem any_it {X : Cx} {tg e : Expr} {t u : TI} (h : PI X tg e t) (k : PI X tg e u) : PI X tg e (fun σ H R => t σ H R ∨ u σ H R) := ⟨fun pins s σ H R I q => q.elim (h.run pins s σ H R I) (k.run pins s σ H R I)⟩
def iEi (t u : TI) : TI := fun σ H R => t σ H R ∨ u σ H R
theorem pi_either {X : Cx} {tg e : Expr} {t u : TI} (h : PI X tg e t) (k : PI X tg e u) : PI X tg e (iEi t u) := any_it h k
/-- a text n times -/
def repS (z : Str) (n : Nat) : Str := ⟨((List.replicate n (TL.tl z)).flatten).toArray⟩
theorem fold_cps (l : List (Array Nat)) : ∀ a : Array Nat, (l.foldl (· ++ ·) a).toList = a.toList ++ (l.map Array.toList).flatten := by
  induction l with
  | nil => intro a; simp
  | cons b l ih => intro a; rw [List.foldl_cons, ih, Array.toList_append]; simp
theorem repS_tl (z : Str) (n : Nat) : TL.tl (repS z n) = (List.replicate n (TL.tl z)).flatten := rfl
theorem repS_len (z : Str) (n : Nat) : (repS z n).length = n * z.length := by
  rw [TL.len_tl, repS_tl, TL.len_tl z, List.length_flatten, List.map_replicate, List.sum_replicate_nat]
def rMulS : R2 := fun x y H Q => ∃ (z : Str) (n : Nat), x = .str z ∧ y = .int n ∧ n ≤ 1000 ∧ z.length ≤ 1000 ∧ Q (.str (repS z n)) H
theorem op_mulS {X : Cx} : OpR X (binaryOp .Mult) rMulS := by
  intro pins s σ H x y v u Q I rx ry h
  obtain ⟨z, n, rfl, rfl, hn, hz, q⟩ := h
  obtain ⟨t, rfl⟩ := rx
  obtain ⟨t2, rfl⟩ := ry
  have hs : z.length * n ≤ 1000000 := Nat.le_trans (Nat.mul_le_mul hz hn) (by decide)
  have hl := sizeLine_eq
  refine PySem.P.mul_str ?_ ?_ ?_ ?_
  · have h1 : ¬ ((n : Int) < -(2 ^ 63 : Int)) := by omega
    have h2 : ¬ ((n : Int) ≥ 2 ^ 63) := by omega
    rw [decide_eq_false h1, decide_eq_false h2]; rfl
  · intro h1 _ h3
    have h4 : (z.length : Int) * (n : Int) ≤ 1000000 := by rw [← Int.natCast_mul]; omega
    have h5 : (z.length : Int) ≤ (2 ^ 63 - 1 : Int) / (n : Int) := Int.le_ediv_of_mul_le (by omega) (by omega)
    omega
  · intro h1 _
    show decide _ = false
    rw [decide_eq_false]
    rw [Int.toNat_natCast]
    omega
  · by_cases h0 : (n : Int) < 1
    · have n0 : n = 0 := by omega
      subst n0
      rw [if_pos h0]
      have e : repS z 0 = Str.empty := TL.ext_tl rfl
      rw [e] at q
      exact ⟨by decide, .str Str.empty, H, I.tok _, ⟨_, rfl⟩, q⟩
    · rw [if_neg h0]
      by_cases h1 : (((n : Int) == 1) || (z.length == 0)) = true
      · rw [if_pos h1]
        have e : repS z n = z := by
          refine TL.ext_tl ?_
          rw [repS_tl]
          rw [Bool.or_eq_true, beq_iff_eq, beq_iff_eq] at h1
          rcases h1 with h1 | h1
          · have n1 : n = 1 := by omega
            subst n1
            simp
          · have z0 : TL.tl z = [] := (TL.len0_tl z).mp h1
            rw [z0]
            simp
        rw [e] at q
        exact ⟨.str z, H, I, ⟨t, rfl⟩, q⟩
      · rw [if_neg h1]
        have e : (⟨(List.replicate (n : Int).toNat z.cps).foldl (· ++ ·) #[]⟩ : Str) = repS z n := by
          refine TL.ext_tl ?_
          show ((List.replicate (n : Int).toNat z.cps).foldl (· ++ ·) #[]).toList = _
          rw [fold_cps, List.map_replicate, Int.toNat_natCast]
          simp [repS_tl]
        rw [e]
        exact ⟨by rw [repS_len, Nat.mul_comm]; omega, .str _, H, I.tok _, ⟨_, rfl⟩, q⟩
theorem mt_isascii {X : Cx} : MtR X "str.isascii" (fun x xs H Q => ∃ a, x = .str a ∧ xs = [] ∧ True ∧ Q (.bl (Txt.isascii a)) H) :=
  mt0 (C := fun _ => True) (g := fun a => .bl (Txt.isascii a)) fun _ _ s _ _ h => PySem.SC.isascii (h _ s.toks rfl)
def idx0 (x y : Str) : Option Nat := (Builtin.Str.occurrences x y 0 x.length 1).head?
/-- s.index(y), where it is found -/
theorem mt_idx0 {X : Cx} : MtR X "str.index" (fun x xs H Q => ∃ (a b : Str) (k : Nat), x = .str a ∧ xs = [.str b] ∧ idx0 a b = some k ∧ Q (.int (k : Nat)) H) := by
  intro pins s σ H x xs v us Q I rx rs h
  obtain ⟨a, b, k, rfl, rfl, hy, w⟩ := h
  obtain ⟨t, rfl⟩ := rx
  cases rs with
  | cons r1 rs =>
    cases rs
    obtain ⟨u, rfl⟩ := r1
    cases q : Builtin.Str.occurrences a b 0 a.length 1 with
    | nil => unfold idx0 at hy; rw [q] at hy; cases hy
    | cons k2 rest =>
      unfold idx0 at hy
      rw [q] at hy
      cases hy
      exact PySem.SC.index q ⟨.int (k : Nat), H, I.tok _, ⟨_, rfl⟩, w⟩
/-- l.count(y), of flat things -/
def rCntF (K : PySem.W.Frag) : V → List V → Hp → VK → Prop := fun x xs H Q => ∃ (p : Addr) (ys : List V) (y : V), x = .ref p ∧ xs = [y] ∧ SqL K H p ys ∧ flatV y = true ∧ ys.all flatV = true ∧ Q (.int (ys.countP fun z => eqV z y : Nat)) H
theorem count_eqU {x : V} : ∀ {xs : List V} {us : List Value}, Vals xs us → xs.all flatV = true → us.countP (eqU x) = xs.countP fun y => eqV y x
  | _, _, .nil, _ => rfl
  | y :: xs, u :: us, .cons r t, f => by
    rw [List.all_cons, Bool.and_eq_true] at f
    have ih := count_eqU (x := x) t f.2
    rw [List.countP_cons, List.countP_cons, ih, eqU_of r f.1]
theorem mt_lcountB {X : Cx} : MtR X "list.count" (rCntF X.K) := by
  intro pins s σ H x xs v us Q I rx rxs h
  obtain ⟨a, ys, y, rfl, rfl, hs, fy, fys, q⟩ := h
  cases rx
  cases rxs with
  | cons ry rt =>
    rename_i uy ut
    cases rt
    obtain ⟨its, rv, ⟨⟨cls, dd, data, sl⟩, n, ho, hc, hdn, hd⟩, hlen⟩ := I.list hs
    simp only at hc hd
    subst hc hd
    refine call_meets PySem.F.slot_list_count ⟨_, ho, rfl⟩ PySem.F.entry_list_count (PySem.F.args_list_count_2 _ _)
      (SeqAt.list_countAt a its.toArray n dd sl uy (eqU y)) ⟨ho, fun u' hu' => mem_eqAt ry fy rv fys u' (by simpa using hu'), ?_⟩
    have ec : its.toArray.toList.countP (eqU y) = ys.countP fun z => eqV z y := count_eqU rv fys
    refine ⟨.int (ys.countP fun z => eqV z y : Nat), H, I.tok _, ⟨s.toks, ?_⟩, q⟩
    show Value.int ((its.toArray.toList.countP (eqU y) : Nat) : Int) s.toks = Value.int ((ys.countP fun z => eqV z y : Nat) : Int) s.toks
    rw [ec]
/-- f'..' -/
def tJn (ts : List TE) : TE := fun σ H Q => tJs ts Str.empty σ H fun out H1 => Q (.str out) H1
theorem pe_joinedD {X : Cx} {v1 v2 : Expr} {rest : List Expr} {ts : List TE} {pos : Pos} (h : PJ X (v1 :: v2 :: rest) ts) : PE X (.JoinedStr (v1 :: v2 :: rest) pos) (tJn ts) := pe_joined h
/-! ## the data layer: what stands in frozen parts of the heap as plain data, what is still written to as cells -/
inductive D where
  | non
  | bl (b : Bool)
  | int (i : Int)
  | str (x : Str)
  | tup (xs : List D)
  | lst (xs : List D)
  | scr (xs : List D)
  | obj (C : Addr) (ns : List Str) (ds : List D)
  | dic
  | ty (n : String)
  | cls (C : Addr)
mutual
/-- in the frozen heap G the value v is the data d -/
inductive Rep (K : PySem.W.Frag) (G : Hp) : D → V → Prop
  | non : Rep K G .non .non
  | bl (b : Bool) : Rep K G (.bl b) (.bl b)
  | int (i : Int) : Rep K G (.int i) (.int i)
  | str (x : Str) : Rep K G (.str x) (.str x)
  | tup {a : Addr} {vs : List V} {ds : List D} : SqT K G a vs → Reps K G ds vs → Rep K G (.tup ds) (.ref a)
  | lst {a : Addr} {vs : List V} {ds : List D} : G a = some (.lst vs) → Reps K G ds vs → Rep K G (.lst ds) (.ref a)
  | scr {a : Addr} {vs : List V} {ds : List D} : SqL K G a vs → Reps K G ds vs → Rep K G (.scr ds) (.ref a)
  | obj {a C dx : Addr} {ns : List Str} {vs : List V} {ds : List D} : G a = some (.ins C dx (ns.zip vs)) → ns.length = ds.length → Reps K G ds vs → Rep K G (.obj C ns ds) (.ref a)
  | dic {a : Addr} {kvs : List (Key × V)} : G a = some (.dK kvs) → Rep K G .dic (.ref a)
  | ty (n : String) : Rep K G (.ty n) (.ty n)
  | cls (C : Addr) : Rep K G (.cls C) (.ref C)
inductive Reps (K : PySem.W.Frag) (G : Hp) : List D → List V → Prop
  | nil : Reps K G [] []
  | cons {d : D} {ds : List D} {v : V} {vs : List V} : Rep K G d v → Reps K G ds vs → Reps K G (d :: ds) (v :: vs)
end
section
variable {K : PySem.W.Frag} {G G' H : Hp} {v : V} {vs : List V} {d : D} {ds : List D}
theorem Rep.nonE (h : Rep K G .non v) : v = .non := by cases h; rfl
theorem Rep.blE {b : Bool} (h : Rep K G (.bl b) v) : v = .bl b := by cases h; rfl
theorem Rep.intE {i : Int} (h : Rep K G (.int i) v) : v = .int i := by cases h; rfl
theorem Rep.strE {x : Str} (h : Rep K G (.str x) v) : v = .str x := by cases h; rfl
theorem Rep.tupE (h : Rep K G (.tup ds) v) : ∃ a vs, v = .ref a ∧ SqT K G a vs ∧ Reps K G ds vs := by cases h with | tup a b => exact ⟨_, _, rfl, a, b⟩
theorem Rep.lstE (h : Rep K G (.lst ds) v) : ∃ a vs, v = .ref a ∧ G a = some (.lst vs) ∧ Reps K G ds vs := by cases h with | lst a b => exact ⟨_, _, rfl, a, b⟩
theorem Rep.scrE (h : Rep K G (.scr ds) v) : ∃ a vs, v = .ref a ∧ SqL K G a vs ∧ Reps K G ds vs := by cases h with | scr a b => exact ⟨_, _, rfl, a, b⟩
theorem Rep.objE {C : Addr} {ns : List Str} (h : Rep K G (.obj C ns ds) v) : ∃ a dx vs, v = .ref a ∧ G a = some (.ins C dx (ns.zip vs)) ∧ ns.length = ds.length ∧ Reps K G ds vs := by cases h with | obj a b c => exact ⟨_, _, _, rfl, a, b, c⟩
theorem Rep.dicE (h : Rep K G .dic v) : ∃ a kvs, v = .ref a ∧ G a = some (.dK kvs) := by cases h with | dic a => exact ⟨_, _, rfl, a⟩
theorem Reps.nilE (h : Reps K G [] vs) : vs = [] := by cases h; rfl
theorem Reps.consE (h : Reps K G (d :: ds) vs) : ∃ v ws, vs = v :: ws ∧ Rep K G d v ∧ Reps K G ds ws := by cases h with | cons a b => exact ⟨_, _, rfl, a, b⟩
theorem Same.seqT {a : Addr} {xs : List V} (e : Same G G') (h : SqT K G a xs) : SqT K G' a xs := by
  rcases h with (h | ⟨o, h⟩) | h
  · exact .inl (.inl (e _ _ h))
  · exact .inl (.inr ⟨o, e _ _ h⟩)
  · exact .inr h
mutual
theorem Rep.mono (s : Same G G') : ∀ (d : D) (v : V), Rep K G d v → Rep K G' d v
  | .non, _, h => by cases h; exact .non
  | .bl _, _, h => by cases h; exact .bl _
  | .int _, _, h => by cases h; exact .int _
  | .str _, _, h => by cases h; exact .str _
  | .tup ds, _, h => by cases h with | tup a b => exact .tup (Same.seqT s a) (Reps.mono s ds _ b)
  | .lst ds, _, h => by cases h with | lst a b => exact .lst (s _ _ a) (Reps.mono s ds _ b)
  | .scr ds, _, h => by cases h with | scr a b => exact .scr (Same.seq s a) (Reps.mono s ds _ b)
  | .obj C ns ds, _, h => by cases h with | obj a b c => exact .obj (s _ _ a) b (Reps.mono s ds _ c)
  | .dic, _, h => by cases h with | dic a => exact .dic (s _ _ a)
  | .ty _, _, h => by cases h; exact .ty _
  | .cls _, _, h => by cases h; exact .cls _
theorem Reps.mono (s : Same G G') : ∀ (ds : List D) (vs : List V), Reps K G ds vs → Reps K G' ds vs
  | [], _, h => by cases h; exact .nil
  | d :: ds, _, h => by cases h with | cons a b => exact .cons (Rep.mono s d _ a) (Reps.mono s ds _ b)
end
theorem Reps.length : ∀ {ds : List D} {vs : List V}, Reps K G ds vs → vs.length = ds.length
  | [], _, h => by cases h; rfl
  | _ :: _, _, h => by cases h with | cons _ b => exact congrArg (· + 1) (Reps.length b)
theorem Reps.get : ∀ {ds : List D} {vs : List V} {i : Nat} {d : D}, Reps K G ds vs → ds[i]? = some d → ∃ v, vs[i]? = some v ∧ Rep K G d v
  | [], _, _, _, _, e => by simp at e
  | _ :: _, _, 0, _, h, e => by cases h with | cons a _ => simp at e; subst e; exact ⟨_, rfl, a⟩
  | _ :: _, _, i + 1, _, h, e => by
    cases h with
    | cons _ b =>
      obtain ⟨v, q, r⟩ := Reps.get (i := i) b (by simpa using e)
      exact ⟨v, by simpa using q, r⟩
theorem Reps.append : ∀ {ds es : List D} {vs ws : List V}, Reps K G ds vs → Reps K G es ws → Reps K G (ds ++ es) (vs ++ ws)
  | [], _, _, _, h, k => by cases h; exact k
  | _ :: _, _, _, _, h, k => by cases h with | cons a b => exact .cons a (b.append k)
theorem Reps.drop : ∀ {ds : List D} {vs : List V} (n : Nat), Reps K G ds vs → Reps K G (ds.drop n) (vs.drop n)
  | _, _, 0, h => h
  | [], _, _ + 1, h => by cases h; exact .nil
  | _ :: _, _, n + 1, h => by cases h with | cons _ b => exact Reps.drop n b
theorem Reps.take : ∀ {ds : List D} {vs : List V} (n : Nat), Reps K G ds vs → Reps K G (ds.take n) (vs.take n)
  | _, _, 0, _ => .nil
  | [], _, _ + 1, h => by cases h; exact .nil
  | _ :: _, _, n + 1, h => by cases h with | cons a b => exact .cons a (Reps.take n b)
theorem Reps.set {d : D} {v : V} (r : Rep K G d v) : ∀ {ds : List D} {vs : List V} (i : Nat), Reps K G ds vs → Reps K G (ds.set i d) (vs.set i v)
  | [], _, _, h => by cases h; exact .nil
  | _ :: _, _, 0, h => by cases h with | cons _ b => exact .cons r b
  | _ :: _, _, i + 1, h => by cases h with | cons a b => exact .cons a (Reps.set r i b)
theorem Reps.reverse {ds : List D} {vs : List V} (h : Reps K G ds vs) : Reps K G ds.reverse vs.reverse := by
  induction ds generalizing vs with
  | nil => cases h; exact .nil
  | cons d ds ih => cases h with | cons a b => rw [List.reverse_cons, List.reverse_cons]; exact (ih b).append (.cons a .nil)
theorem Reps.rep {ds : List D} {vs : List V} (h : Reps K G ds vs) : ∀ n : Nat, Reps K G (List.replicate n ds).flatten (List.replicate n vs).flatten
  | 0 => .nil
  | n + 1 => by rw [List.replicate_succ, List.replicate_succ, List.flatten_cons, List.flatten_cons]; exact h.append (Reps.rep h n)
theorem Reps.ofV {ns : List Int} : Reps K G (ns.map D.int) (ns.map V.int) := by
  induction ns with
  | nil => exact .nil
  | cons n ns ih => exact .cons (.int n) ih
end
/-! no list and no object within: it can't hold a list that is still written to -/
mutual
def hard : D → Bool
  | .tup ds => hards ds
  | .lst _ => false
  | .scr _ => false
  | .obj _ _ ds => hards ds
  | _ => true
def hards : List D → Bool
  | [] => true
  | d :: ds => hard d && hards ds
end
section
variable {K : PySem.W.Frag} {G G' : Hp}
theorem SqT.hard {a : Addr} {vs : List V} (s : ∀ a o, G a = some o → (G' a = some o) ∨ (∃ xs, o = .lst xs)) (h : SqT K G a vs) : SqT K G' a vs := by
  rcases h with (h | ⟨o, h⟩) | h
  · rcases s _ _ h with z | ⟨xs, z⟩
    · exact .inl (.inl z)
    · cases z
  · rcases s _ _ h with z | ⟨xs, z⟩
    · exact .inl (.inr ⟨o, z⟩)
    · cases z
  · exact .inr h
mutual
theorem Rep.hard (s : ∀ a o, G a = some o → (G' a = some o) ∨ (∃ xs, o = .lst xs)) : ∀ (d : D) (v : V), LK.hard d = true → Rep K G d v → Rep K G' d v
  | .non, _, _, h => by cases h; exact .non
  | .bl _, _, _, h => by cases h; exact .bl _
  | .int _, _, _, h => by cases h; exact .int _
  | .str _, _, _, h => by cases h; exact .str _
  | .tup ds, _, k, h => by cases h with | tup a b => exact .tup (SqT.hard s a) (Reps.hard s ds _ (by rw [LK.hard] at k; exact k) b)
  | .lst ds, _, k, h => by rw [LK.hard] at k; cases k
  | .scr ds, _, k, h => by rw [LK.hard] at k; cases k
  | .obj C ns ds, _, k, h => by
    cases h with
    | obj a b c =>
      rcases s _ _ a with z | ⟨xs, z⟩
      · exact .obj z b (Reps.hard s ds _ (by rw [LK.hard] at k; exact k) c)
      · cases z
  | .dic, _, k, h => by
    cases h with
    | dic a =>
      rcases s _ _ a with z | ⟨xs, z⟩
      · exact .dic z
      · cases z
  | .ty _, _, _, h => by cases h; exact .ty _
  | .cls _, _, _, h => by cases h; exact .cls _
theorem Reps.hard (s : ∀ a o, G a = some o → (G' a = some o) ∨ (∃ xs, o = .lst xs)) : ∀ (ds : List D) (vs : List V), hards ds = true → Reps K G ds vs → Reps K G' ds vs
  | [], _, _, h => by cases h; exact .nil
  | d :: ds, _, k, h => by
    cases h with
    | cons a b =>
      rw [hards, Bool.and_eq_true] at k
      exact .cons (Rep.hard s d _ k.1 a) (Reps.hard s ds _ k.2 b)
end
end
/-- an item of a tuple that holds cells -/
inductive TN where
  | dat (d : D)
  | cel (j : Nat)
  | tup (xs : List TN)
/-- what a slot holds: data, or a cell, or a tuple that holds cells -/
inductive AV where
  | dat (d : D)
  | cel (j : Nat)
  | tup (xs : List TN)
/-- what else may be written to: what is known of it, by the frozen heap -/
structure CellX where
  ok : Hp → Addr → HO → Prop
  mono : ∀ {G G' : Hp} (s : ∀ a o, G a = some o → (G' a = some o) ∨ (∃ xs, o = .lst xs)) {a : Addr} {o : HO}, ok G a o → ok G' a o
/-- a private part of the heap: T what stands in it, a its root; what is known of it, by the frozen heap G -/
structure RegX where
  ok : Hp → Hp → Addr → Prop
  mono : ∀ {T G G' : Hp} {a : Addr} (s : ∀ a o, G a = some o → (G' a = some o) ∨ (∃ xs, o = .lst xs)), ok T G a → ok T G' a
/-- a list of scalars and pointers, of which the address is known -/
def lstX (c : Addr) (ds : List D) : CellX where
  ok _ a o := a = c ∧ ∃ vs, o = .lst vs ∧ ∀ (K : PySem.W.Frag) (G : Hp), Reps K G ds vs
  mono := by intro _ _ _ _ _ h; exact h
/-- an object of such fields, of which the address is known -/
def insX (g C : Addr) (ns : List Str) (ds : List D) : CellX where
  ok _ a o := a = g ∧ ∃ dx vs, o = .ins C dx (ns.zip vs) ∧ ns.length = ds.length ∧ ∀ (K : PySem.W.Frag) (G : Hp), Reps K G ds vs
  mono := by intro _ _ _ _ _ h; exact h
/-- scalars and pointers -/
def atom : D → Bool
  | .non => true | .bl _ => true | .int _ => true | .str _ => true | .ty _ => true | .cls _ => true
  | _ => false
def atoms : List D → Bool
  | [] => true
  | d :: ds => atom d && atoms ds
theorem Rep.atom {K K' : PySem.W.Frag} {G G' : Hp} {d : D} {v : V} (h : LK.atom d = true) (r : Rep K G d v) : Rep K' G' d v := by
  cases d with
  | non => cases r; exact .non
  | bl => cases r; exact .bl _
  | int => cases r; exact .int _
  | str => cases r; exact .str _
  | ty => cases r; exact .ty _
  | cls => cases r; exact .cls _
  | _ => cases h
theorem Reps.atoms {K K' : PySem.W.Frag} {G G' : Hp} : ∀ {ds : List D} {vs : List V}, LK.atoms ds = true → Reps K G ds vs → Reps K' G' ds vs
  | [], _, _, r => by cases r; exact .nil
  | d :: ds, _, h, r => by
    rw [LK.atoms, Bool.and_eq_true] at h
    cases r with
    | cons a b => exact .cons (Rep.atom h.1 a) (Reps.atoms h.2 b)
/-- what is still written to -/
inductive Cell where
  | reg (t : Option Addr) (X : RegX)
  | oth (X : CellX)
  | gone
  | lst (ds : List D)
  | drw
  | ins (C : Addr) (ns : List Str) (ds : List D)
def IsSt (xs : List V) : Prop := (∃ x, xs = [.int x]) ∨ ∃ x y z, xs = [.int x, .int y, .int z]
structure En where
  sl : List (Option AV)
  ce : List Cell
/-! ### fields that keep what was made once: they don't show -/
def hidN (n : Str) : Bool := n == "reading" || n == "due_units"
def isLn (fs : List (Str × V)) : Bool := fs.any fun p => p.1 == "leading"
def erP (p : Str × V) : Str × V := if hidN p.1 = true then (p.1, .non) else p
def erF (fs : List (Str × V)) : List (Str × V) := if isLn fs = true then fs.map erP else fs
def erO : HO → HO
  | .ins C dx fs => .ins C dx (erF fs)
  | o => o
/-- the heap without what such fields keep -/
def er (H : Hp) : Hp := fun a => (H a).map erO
theorem er_none {H : Hp} {a : Addr} (h : H a = none) : er H a = none := by unfold er; rw [h]; rfl
theorem er_none' {H : Hp} {a : Addr} (h : er H a = none) : H a = none := Option.map_eq_none_iff.mp h
theorem er_of {H : Hp} {a : Addr} {o : HO} (h : H a = some o) : er H a = some (erO o) := by unfold er; rw [h]; rfl
theorem er_id {H : Hp} {a : Addr} {o : HO} (h : H a = some o) (e : erO o = o) : er H a = some o := by rw [er_of h, e]
theorem er_some {H : Hp} {a : Addr} {o : HO} (h : er H a = some o) : ∃ u, H a = some u ∧ erO u = o := Option.map_eq_some_iff.mp h
theorem er_back {H : Hp} {a : Addr} {o : HO} (h : er H a = some o) (n : ∀ C dx fs, o ≠ .ins C dx fs) : H a = some o := by
  obtain ⟨u, hu, e⟩ := er_some h
  cases u with
  | ins C dx fs => exact absurd e.symm (n C dx (erF fs))
  | _ => rw [hu]; exact congrArg some e
theorem er_lst {H : Hp} {a : Addr} {vs : List V} (h : er H a = some (.lst vs)) : H a = some (.lst vs) := er_back h (fun _ _ _ z => by cases z)
theorem er_tup {H : Hp} {a : Addr} {vs : List V} (h : er H a = some (.tup vs)) : H a = some (.tup vs) := er_back h (fun _ _ _ z => by cases z)
theorem er_ins {H : Hp} {a C dx : Addr} {fs : List (Str × V)} (h : er H a = some (.ins C dx fs)) : ∃ gs, H a = some (.ins C dx gs) ∧ erF gs = fs := by
  obtain ⟨u, hu, e⟩ := er_some h
  cases u with
  | ins C2 dx2 gs => cases e; exact ⟨gs, hu, rfl⟩
  | _ => cases e
theorem er_seqT {K : PySem.W.Frag} {H : Hp} {a : Addr} {xs : List V} (h : SqT K (er H) a xs) : SqT K H a xs := by
  rcases h with (h | ⟨o, h⟩) | h
  · exact .inl (.inl (er_tup h))
  · exact .inl (.inr ⟨o, er_back h (fun _ _ _ z => by cases z)⟩)
  · exact .inr h
theorem er_seq {K : PySem.W.Frag} {H : Hp} {a : Addr} {xs : List V} (h : SqL K (er H) a xs) : SqL K H a xs := by
  rcases h with (h | ⟨o, h⟩) | h
  · exact .inl (.inl (er_lst h))
  · exact .inl (.inr ⟨o, er_back h (fun _ _ _ z => by cases z)⟩)
  · exact .inr h
theorem er_ne {H : Hp} {a b : Addr} {o : HO} (h : b ≠ a) : er (upd H a o) b = er H b := by unfold er; rw [upd_ne h]
theorem er_at {H : Hp} {a : Addr} {o : HO} : er (upd H a o) a = some (erO o) := er_of upd_same
theorem er_old {H : Hp} {p b : Addr} {o u : HO} (hp : H p = none) (h : er H b = some u) : er (upd H p o) b = some u := by
  rw [er_ne (fun q => by subst q; rw [er_none hp] at h; cases h)]; exact h
theorem er_oth {H : Hp} {a b : Addr} {o u : HO} (n : b ≠ a) (h : er H b = some u) : er (upd H a o) b = some u := by rw [er_ne n]; exact h
theorem Same.er {H H' : Hp} (s : Same H H') : Same (LK.er H) (LK.er H') := fun a o h => by
  obtain ⟨u, hu, e⟩ := er_some h
  rw [er_of (s _ _ hu), e]
theorem Same.newE {X H : Hp} {p : Addr} {o : HO} (s : Same X (LK.er H)) (hp : H p = Option.none) : Same X (LK.er (upd H p o)) := fun a u h => er_old hp (s _ _ h)
theorem Same.noneE {X H : Hp} {p : Addr} (s : Same X (LK.er H)) (hp : H p = Option.none) : X p = Option.none := Same.none s (er_none hp)
theorem erP_fst (p : Str × V) : (erP p).1 = p.1 := by unfold erP; split <;> rfl
theorem erF_length (fs : List (Str × V)) : (erF fs).length = fs.length := by unfold erF; split <;> simp
theorem erM_look {n : Str} (hn : hidN n = false) : ∀ fs : List (Str × V), (fs.map erP).lookup n = fs.lookup n
  | [] => rfl
  | (m, v) :: fs => by
    rw [List.map_cons, List.lookup_cons]
    have e : erP (m, v) = (m, (erP (m, v)).2) := Prod.ext (erP_fst (m, v)) rfl
    rw [e, List.lookup_cons, erM_look hn fs]
    cases q : n == m with
    | false => rfl
    | true =>
      have : n = m := beq_iff_eq.mp q
      subst this
      unfold erP
      rw [if_neg (by rw [hn]; exact fun z => nomatch z)]
theorem erF_look {n : Str} (hn : hidN n = false) (fs : List (Str × V)) : (erF fs).lookup n = fs.lookup n := by
  unfold erF; split
  · exact erM_look hn fs
  · rfl
theorem erM_no {n : Str} : ∀ fs : List (Str × V), (fs.map erP).lookup n = none → fs.lookup n = none
  | [], _ => rfl
  | (m, v) :: fs, h => by
    have e : erP (m, v) = (m, (erP (m, v)).2) := Prod.ext (erP_fst (m, v)) rfl
    rw [List.map_cons, e, List.lookup_cons] at h
    rw [List.lookup_cons]
    cases q : n == m with
    | true => rw [q] at h; cases h
    | false => rw [q] at h; exact erM_no fs h
theorem erF_no {n : Str} {fs : List (Str × V)} (h : (erF fs).lookup n = none) : fs.lookup n = none := by
  unfold erF at h; split at h
  · exact erM_no fs h
  · exact h
theorem erP_id {n : Str} {v : V} (h : hidN n = true → v = .non) : erP (n, v) = (n, v) := by
  unfold erP; split
  · rename_i q; rw [h q]
  · rfl
/-- what such fields may hold -/
def okO : HO → Prop
  | .ins _ _ fs => ∀ n v, (n, v) ∈ fs → hidN n = true → v = .non
  | _ => True
theorem erM_id : ∀ {fs : List (Str × V)}, (∀ n v, (n, v) ∈ fs → hidN n = true → v = .non) → fs.map erP = fs
  | [], _ => rfl
  | (n, v) :: fs, h => by
    rw [List.map_cons, erP_id (h n v (List.mem_cons_self ..)), erM_id fun m u q => h m u (List.mem_cons_of_mem _ q)]
theorem erO_id {o : HO} (h : okO o) : erO o = o := by
  cases o with
  | ins C dx fs =>
    show HO.ins C dx (erF fs) = _
    unfold erF; split
    · rw [erM_id h]
    · rfl
  | _ => rfl
theorem erM_no2 {n : Str} : ∀ fs : List (Str × V), fs.lookup n = none → (fs.map erP).lookup n = none
  | [], _ => rfl
  | (m, v) :: fs, h => by
    have e : erP (m, v) = (m, (erP (m, v)).2) := Prod.ext (erP_fst (m, v)) rfl
    rw [List.lookup_cons] at h
    rw [List.map_cons, e, List.lookup_cons]
    cases q : n == m with
    | true => rw [q] at h; cases h
    | false => rw [q] at h; exact erM_no2 fs h
theorem erF_no2 {n : Str} {fs : List (Str × V)} (h : fs.lookup n = none) : (erF fs).lookup n = none := by
  unfold erF; split
  · exact erM_no2 fs h
  · exact h
theorem erO_ne {u o : HO} (h : erO u = erO o) (n : ∀ C dx fs, o ≠ .ins C dx fs) : u = o := by
  cases o with
  | ins C dx fs => exact absurd rfl (n C dx fs)
  | _ => cases u <;> first | exact h | cases h
theorem er_gX {G H : Hp} {a : Addr} {o : HO} (s : Same (er G) (er H)) (h : G a = some o) (n : ∀ C dx fs, o ≠ .ins C dx fs) : H a = some o := by
  have e : erO o = o := by cases o <;> first | rfl | exact absurd rfl (n _ _ _)
  exact er_back (s _ _ (er_id h e)) n
theorem er_gL {G H : Hp} {a : Addr} {vs : List V} (s : Same (er G) (er H)) (h : G a = some (.lst vs)) : H a = some (.lst vs) := er_gX s h (fun _ _ _ z => by cases z)
theorem er_gO {G H : Hp} {a C dx : Addr} {fs : List (Str × V)} (s : Same (er G) (er H)) (h : G a = some (.ins C dx fs)) : ∃ gs, H a = some (.ins C dx gs) ∧ erF gs = erF fs := er_ins (s _ _ (er_of h))
theorem er_gT {K : PySem.W.Frag} {G H : Hp} {a : Addr} {xs : List V} (s : Same (er G) (er H)) (h : SqT K G a xs) : SqT K H a xs := by
  rcases h with (h | ⟨o, h⟩) | h
  · exact .inl (.inl (er_gX s h (fun _ _ _ z => by cases z)))
  · exact .inl (.inr ⟨o, er_gX s h (fun _ _ _ z => by cases z)⟩)
  · exact .inr h
theorem er_gS {K : PySem.W.Frag} {G H : Hp} {a : Addr} {xs : List V} (s : Same (er G) (er H)) (h : SqL K G a xs) : SqL K H a xs := by
  rcases h with (h | ⟨o, h⟩) | h
  · exact .inl (.inl (er_gL s h))
  · exact .inl (.inr ⟨o, er_gX s h (fun _ _ _ z => by cases z)⟩)
  · exact .inr h
theorem er_gN {G H : Hp} {a : Addr} (s : Same (er G) (er H)) (h : H a = none) : G a = none := er_none' (Same.none s (er_none h))
/-- no field keeps anything -/
def cval (_ : PySem.W.Frag) (_ : Hp) (_ : V) (_ : Str) (_ : V) : Prop := False
theorem cval_mono {K : PySem.W.Frag} {G G' : Hp} {g : V} {n : Str} {v : V} (_ : Same G G') (h : cval K G g n v) : cval K G' g n v := h
/-- what such fields keep is right by what is told of it in G; it stands frozen in Ck -/
def KeptG (K : PySem.W.Frag) (H G Ck : Hp) : Prop := ∀ a C dx fs n g, G a = some (.ins C dx fs) → isLn fs = true → fs.lookup n = some g → hidN n = true → ∀ gs v, H a = some (.ins C dx gs) → gs.lookup n = some v → v = .non ∨ cval K Ck g n v
/-- .. of that all is old, or new since Hn, or never written to -/
def KeptN (K : PySem.W.Frag) (C0 Hn H G : Hp) : Prop := (∃ Ck, KeptG K H G Ck ∧ Same Ck G ∧ ∀ a o, Ck a = some o → C0 a = some o ∨ Hn a = none ∨ ∀ xs, o ≠ .lst xs) ∧ ∀ a, H a = none → Hn a = none
theorem KeptG.put {K : PySem.W.Frag} {H G Ck : Hp} {a : Addr} {o : HO} (k : KeptG K H G Ck) (g : G a = none) : KeptG K (upd H a o) G Ck := fun b C dx fs n x h l m q gs v h2 m2 => by
  rw [upd_ne (fun e => by subst e; rw [g] at h; cases h)] at h2
  exact k b C dx fs n x h l m q gs v h2 m2
theorem KeptG.newG {K : PySem.W.Frag} {H G Ck : Hp} {p : Addr} {o : HO} (k : KeptG K H G Ck) (ho : okO o) : KeptG K (upd H p o) (upd G p o) Ck := fun b C dx fs n x h l m q gs v h2 m2 => by
  by_cases e : b = p
  · subst e
    rw [upd_same] at h h2
    cases h
    cases h2
    exact .inl (ho n v (by
      have : ∀ {l : List (Str × V)}, l.lookup n = some v → (n, v) ∈ l := by
        intro l
        induction l with
        | nil => intro z; cases z
        | cons a l ih =>
          intro z
          rw [List.lookup_cons] at z
          cases w : n == a.1 with
          | true => rw [w] at z; cases z; rw [beq_iff_eq.mp w]; exact List.mem_cons_self ..
          | false => rw [w] at z; exact List.mem_cons_of_mem _ (ih z)
      exact this m2) q)
  · rw [upd_ne e] at h h2
    exact k b C dx fs n x h l m q gs v h2 m2
theorem KeptN.put {K : PySem.W.Frag} {C0 Hn H G : Hp} {a : Addr} {o : HO} (k : KeptN K C0 Hn H G) (g : G a = none) : KeptN K C0 Hn (upd H a o) G := by
  obtain ⟨⟨Ck, h1, h2, h3⟩, h4⟩ := k
  refine ⟨⟨Ck, h1.put g, h2, h3⟩, fun b z => h4 b ?_⟩
  by_cases e : b = a
  · subst e; rw [upd_same] at z; cases z
  · rw [upd_ne e] at z; exact z
theorem KeptN.newG {K : PySem.W.Frag} {C0 Hn H G : Hp} {p : Addr} {o : HO} (k : KeptN K C0 Hn H G) (ho : okO o) (gp : G p = none) : KeptN K C0 Hn (upd H p o) (upd G p o) := by
  obtain ⟨⟨Ck, h1, h2, h3⟩, h4⟩ := k
  refine ⟨⟨Ck, h1.newG ho, Same.trans h2 (Same.new (Same.refl _) gp), h3⟩, fun b z => h4 b ?_⟩
  by_cases e : b = p
  · subst e; rw [upd_same] at z; cases z
  · rw [upd_ne e] at z; exact z
/-- a thing becomes frozen, with what is told of it -/
theorem KeptN.frz {K : PySem.W.Frag} {C0 Hn H G : Hp} {a : Addr} {u : HO} (k : KeptN K C0 Hn H G) (g : G a = none) (hu : ∀ C dx fs, u = .ins C dx fs → isLn fs = true → ∀ gs, H a = some (.ins C dx gs) → ∀ n v, hidN n = true → gs.lookup n = some v → v = .non) : KeptN K C0 Hn H (upd G a u) := by
  obtain ⟨⟨Ck, h1, h2, h3⟩, h4⟩ := k
  refine ⟨⟨Ck, fun b C dx fs n x h l m q gs v hb m2 => ?_, Same.trans h2 (Same.new (Same.refl _) g), h3⟩, h4⟩
  by_cases e : b = a
  · subst e
    rw [upd_same] at h
    cases h
    exact .inl (hu C dx fs rfl l gs hb n v q m2)
  · rw [upd_ne e] at h
    exact h1 b C dx fs n x h l m q gs v hb m2
theorem KeptN.trans {K : PySem.W.Frag} {C0 Hn Ck H H' G' : Hp} (h3 : ∀ a o, Ck a = some o → C0 a = some o ∨ Hn a = none ∨ ∀ xs, o ≠ .lst xs) (h4 : ∀ a, H a = none → Hn a = none) (k : KeptN K Ck H H' G') : KeptN K C0 Hn H' G' := by
  obtain ⟨⟨Ck', g1, g2, g3⟩, g4⟩ := k
  exact ⟨⟨Ck', g1, g2, fun a o z => (g3 a o z).elim (h3 a o) fun w => w.elim (fun w => .inr (.inl (h4 a w))) fun w => .inr (.inr w)⟩, fun a z => h4 a (g4 a z)⟩
theorem KeptN.trim {K : PySem.W.Frag} {Ck H H' G' G'' : Hp} (k : KeptN K Ck H H' G') (s : ∀ a o, G'' a = some o → G' a = some o) (t : ∀ a o, G' a = some o → Ck a = some o ∨ H a = none ∨ (∀ xs, o ≠ .lst xs) → G'' a = some o) : KeptN K Ck H H' G'' := by
  obtain ⟨⟨Ck', g1, g2, g3⟩, g4⟩ := k
  exact ⟨⟨Ck', fun a C dx fs n g h => g1 a C dx fs n g (s _ _ h), fun a o z => t a o (g2 a o z) (g3 a o z), g3⟩, g4⟩
/-- what stood ahead stands, but for what such fields keep; what was not frozen stands as it was -/
def FrE (Fr G0 H : Hp) : Prop := ∀ a o, Fr a = some o → ∃ u, H a = some u ∧ erO u = erO o ∧ (G0 a = none → u = o)
theorem FrE.none {Fr G0 H : Hp} {p : Addr} (f : FrE Fr G0 H) (hp : H p = Option.none) : Fr p = Option.none := by
  cases q : Fr p with
  | none => rfl
  | some o => obtain ⟨u, hu, _⟩ := f p o q; rw [hp] at hu; cases hu
theorem FrE.put {Fr G0 H : Hp} {a : Addr} {o : HO} (f : FrE Fr G0 H) (h : Fr a = Option.none) : FrE Fr G0 (upd H a o) := fun b u z => by
  obtain ⟨v, hv, e⟩ := f b u z
  exact ⟨v, by rw [upd_ne (fun q => by subst q; rw [h] at z; cases z)]; exact hv, e⟩
/-- what stands ahead of the def's call, the data it was handed, what is wanted of its errors -/
structure Fx where
  Fr : Hp
  G0 : Hp
  E : XK
  ex : Addr → Prop
  C0 : Hp
  Hn : Hp
  kx : Hp → Prop
  hE : ∀ C H, ex C → FrE Fr G0 H → kx H → E (.ref C) none H
  fr : V → Prop
  as0 : List Addr
mutual
inductive TNr (K : PySem.W.Frag) (G : Hp) (as : List Addr) : TN → V → Prop
  | dat {d : D} {v : V} : Rep K G d v → TNr K G as (.dat d) v
  | cel {j : Nat} {a : Addr} : as[j]? = some a → TNr K G as (.cel j) (.ref a)
  | tup {xs : List TN} {a : Addr} {vs : List V} : SqT K G a vs → TNs K G as xs vs → TNr K G as (.tup xs) (.ref a)
inductive TNs (K : PySem.W.Frag) (G : Hp) (as : List Addr) : List TN → List V → Prop
  | nil : TNs K G as [] []
  | cons {x : TN} {xs : List TN} {v : V} {vs : List V} : TNr K G as x v → TNs K G as xs vs → TNs K G as (x :: xs) (v :: vs)
end
def RepA (K : PySem.W.Frag) (G : Hp) (as : List Addr) : AV → V → Prop
  | .dat d, v => Rep K G d v
  | .cel j, v => ∃ a, as[j]? = some a ∧ v = .ref a
  | .tup xs, v => ∃ a vs, v = .ref a ∧ SqT K G a vs ∧ TNs K G as xs vs
def CellOk (K : PySem.W.Frag) (G H : Hp) (a : Addr) : Cell → Prop
  | .gone => True
  | .reg _ _ => G a = none
  | .lst ds => G a = none ∧ ∃ vs, H a = some (.lst vs) ∧ Reps K G ds vs
  | .drw => G a = none ∧ ∃ xs, H a = some (.lst xs) ∧ IsSt xs
  | .oth X => G a = none ∧ ∃ o, H a = some o ∧ X.ok G a o
  | .ins C ns ds => G a = none ∧ ∃ dx vs, H a = some (.ins C dx (ns.zip vs)) ∧ ns.length = ds.length ∧ Reps K G ds vs
/-- the private parts: apart from one another, from the frozen heap and from all other cells -/
structure RegsAt (Ts : Nat → Hp) (Fr G H : Hp) (as : List Addr) (cs : List Cell) : Prop where
  em : ∀ j, (∀ t X, cs[j]? ≠ some (Cell.reg t X)) → ∀ b, Ts j b = none
  dj : ∀ i j b o u, Ts i b = some o → Ts j b = some u → i = j
  pl : ∀ i b o, Ts i b = some o → H b = some o ∧ G b = none ∧ Fr b = none ∧ ∀ j, as[j]? = some b → j = i
  ok : ∀ (j : Nat) t X a, cs[j]? = some (Cell.reg t X) → as[j]? = some a → (∀ g, t = some g → a = g) ∧ X.ok (Ts j) G a
theorem RegsAt.is {Ts : Nat → Hp} {Fr G H : Hp} {as : List Addr} {cs : List Cell} (r : RegsAt Ts Fr G H as cs) {j : Nat} {b : Addr} {o : HO} (h : Ts j b = some o) : ∃ t X, cs[j]? = some (Cell.reg t X) := by
  cases hc : cs[j]? with
  | none => have := r.em j (fun t X z => by rw [hc] at z; cases z) b; rw [h] at this; cases this
  | some c =>
    cases c with
    | reg t X => exact ⟨t, X, rfl⟩
    | _ => have := r.em j (fun t X z => by rw [hc] at z; cases z) b; rw [h] at this; cases this
/-- the parts at other places, in another heap -/
theorem RegsAt.map {Ts : Nat → Hp} {Fr G H Fr' G' H' : Hp} {as as' : List Addr} {cs cs' : List Cell} (r : RegsAt Ts Fr G H as cs) (f : Nat → Option Nat)
    (f1 : ∀ (i : Nat) t X, cs'[i]? = some (Cell.reg t X) → ∃ i0, f i = some i0 ∧ cs[i0]? = some (Cell.reg t X) ∧ as'[i]? = as[i0]?)
    (f2 : ∀ i i0, f i = some i0 → ∃ t X, cs'[i]? = some (Cell.reg t X))
    (fi : ∀ i j k, f i = some k → f j = some k → i = j)
    (fb : ∀ (i : Nat) b, as'[i]? = some b → H b = none ∨ ∃ i0, as[i0]? = some b ∧ ∀ j, f j = some i0 → j = i)
    (hH : ∀ i i0 b o, f i = some i0 → Ts i0 b = some o → H' b = some o ∧ G' b = none ∧ Fr' b = none)
    (sG : ∀ a o, G a = some o → (G' a = some o) ∨ (∃ xs, o = .lst xs)) : RegsAt (fun i => match f i with | some i0 => Ts i0 | none => fun _ => none) Fr' G' H' as' cs' := by
  refine ⟨fun j h b => ?_, fun i j b o u h1 h2 => ?_, fun i b o h => ?_, fun j t X a hc ha => ?_⟩
  · cases hf : f j with
    | none => rfl
    | some j0 => obtain ⟨t, X, z⟩ := f2 j j0 hf; exact absurd z (h t X)
  · cases hf : f i with
    | none => simp only [hf] at h1; cases h1
    | some i0 =>
      cases hg : f j with
      | none => simp only [hg] at h2; cases h2
      | some j0 =>
        simp only [hf] at h1
        simp only [hg] at h2
        have := r.dj i0 j0 b o u h1 h2
        subst this
        exact fi i j i0 hf hg
  · cases hf : f i with
    | none => simp only [hf] at h; cases h
    | some i0 =>
      simp only [hf] at h
      obtain ⟨x1, x2, x3⟩ := hH i i0 b o hf h
      obtain ⟨y1, _, _, y4⟩ := r.pl i0 b o h
      refine ⟨x1, x2, x3, fun j hj => ?_⟩
      rcases fb j b hj with z | ⟨k, hk, hu⟩
      · rw [y1] at z; cases z
      · have := y4 k hk
        subst this
        exact (hu i hf).symm
  · obtain ⟨i0, hf, h1, h2⟩ := f1 j t X hc
    simp only [hf]
    obtain ⟨x, y⟩ := r.ok i0 t X a h1 (by rw [← h2]; exact ha)
    exact ⟨x, X.mono sG y⟩
/-- some of the parts, at their places -/
theorem RegsAt.subS {Ts : Nat → Hp} {Fr G H Fr' G' H' : Hp} {as as' : List Addr} {cs cs' : List Cell} (r : RegsAt Ts Fr G H as cs)
    (f1 : ∀ (i : Nat) t X, cs'[i]? = some (Cell.reg t X) → cs[i]? = some (Cell.reg t X) ∧ as'[i]? = as[i]?)
    (fb : ∀ (i : Nat) b, as'[i]? = some b → H b = none ∨ as[i]? = some b)
    (hH : ∀ (i : Nat) t X b o, cs'[i]? = some (Cell.reg t X) → Ts i b = some o → H' b = some o ∧ G' b = none ∧ Fr' b = none)
    (sG : ∀ a o, G a = some o → (G' a = some o) ∨ (∃ xs, o = .lst xs)) : ∃ Ts', RegsAt Ts' Fr' G' H' as' cs' ∧ ∀ i b o, Ts' i b = some o → Ts i b = some o := by
  refine ⟨_, r.map (fun i => match cs'[i]? with | some (.reg _ _) => some i | _ => none) (fun i t X h => ⟨i, by simp only [h], f1 i t X h⟩) (fun i i0 h => ?_) (fun i j k h1 h2 => ?_) (fun i b h => ?_) (fun i i0 b o h hb => ?_) sG, fun i b o h => ?_⟩
  · split at h
    · rename_i t X e; exact ⟨t, X, e⟩
    · cases h
  · split at h1
    · split at h2
      · cases h1; cases h2; rfl
      · cases h2
    · cases h1
  · rcases fb i b h with z | z
    · exact .inl z
    · refine .inr ⟨i, z, fun j hj => ?_⟩
      split at hj
      · cases hj; rfl
      · cases hj
  · split at h
    · rename_i t X e
      cases h
      exact hH _ t X b o e hb
    · cases h
  · have h : (match (match cs'[i]? with | some (.reg _ _) => some i | _ => none : Option Nat) with | some i0 => Ts i0 | none => fun _ => none) b = some o := h
    cases hf : (match cs'[i]? with | some (.reg _ _) => some i | _ => none : Option Nat) with
    | none => simp only [hf] at h; cases h
    | some i0 =>
      simp only [hf] at h
      split at hf
      · cases hf; exact h
      · cases hf
theorem RegsAt.sub {Ts : Nat → Hp} {Fr G H Fr' G' H' : Hp} {as as' : List Addr} {cs cs' : List Cell} (r : RegsAt Ts Fr G H as cs)
    (f1 : ∀ (i : Nat) t X, cs'[i]? = some (Cell.reg t X) → cs[i]? = some (Cell.reg t X) ∧ as'[i]? = as[i]?)
    (fb : ∀ (i : Nat) b, as'[i]? = some b → H b = none ∨ as[i]? = some b)
    (hH : ∀ (i : Nat) t X b o, cs'[i]? = some (Cell.reg t X) → Ts i b = some o → H' b = some o ∧ G' b = none ∧ Fr' b = none)
    (sG : ∀ a o, G a = some o → (G' a = some o) ∨ (∃ xs, o = .lst xs)) : ∃ Ts', RegsAt Ts' Fr' G' H' as' cs' := let ⟨Ts', h, _⟩ := r.subS f1 fb hH sG; ⟨Ts', h⟩
/-- nothing of them has changed -/
theorem RegsAt.same {Ts : Nat → Hp} {Fr G H Fr' G' H' : Hp} {as : List Addr} {cs : List Cell} (r : RegsAt Ts Fr G H as cs) (hH : ∀ i b o, Ts i b = some o → H b = some o → H' b = some o) (hG : ∀ b o, H b = some o → G b = none → G' b = none) (hF : ∀ b, Fr b = none → Fr' b = none) (sG : ∀ a o, G a = some o → (G' a = some o) ∨ (∃ xs, o = .lst xs)) : RegsAt Ts Fr' G' H' as cs :=
  ⟨r.em, r.dj, fun i b o h => by obtain ⟨x, y, z, w⟩ := r.pl i b o h; exact ⟨hH i b o h x, hG b o x y, hF b z, w⟩, fun j t X a hc ha => by obtain ⟨x, y⟩ := r.ok j t X a hc ha; exact ⟨x, X.mono sG y⟩⟩
/-- a cell is written to or has become another one -/
theorem RegsAt.setCS {Ts : Nat → Hp} {Fr G H G' H' : Hp} {as : List Addr} {cs : List Cell} (r : RegsAt Ts Fr G H as cs) {j : Nat} {a : Addr} {c' : Cell} (ha : as[j]? = some a) (hc : ∀ t X, c' ≠ Cell.reg t X) (hH : ∀ b o, b ≠ a → H b = some o → H' b = some o) (hG : ∀ b o, b ≠ a → H b = some o → G b = none → G' b = none) (sG : Same G G') : ∃ Ts', RegsAt Ts' Fr G' H' as (cs.set j c') ∧ ∀ i b o, Ts' i b = some o → Ts i b = some o := by
  have ne : ∀ i t X, (cs.set j c')[i]? = some (Cell.reg t X) → i ≠ j ∧ cs[i]? = some (Cell.reg t X) := fun i t X h => by
    by_cases q : j = i
    · subst q
      rw [List.getElem?_set] at h
      split at h
      · split at h
        · exact absurd (Option.some.inj h) (hc t X)
        · cases h
      · rename_i z; exact absurd rfl z
    · rw [List.getElem?_set_ne q] at h
      exact ⟨fun z => q z.symm, h⟩
  refine r.subS (fun i t X h => ⟨(ne i t X h).2, rfl⟩) (fun i b h => .inr h) (fun i t X b o h hb => ?_) (fun a o z => .inl (sG a o z))
  obtain ⟨x, y, z, w⟩ := r.pl i b o hb
  have nb : b ≠ a := fun q => by subst q; exact (ne i t X h).1 (w j ha).symm
  exact ⟨hH b o nb x, hG b o nb x y, z⟩
theorem RegsAt.setC {Ts : Nat → Hp} {Fr G H G' H' : Hp} {as : List Addr} {cs : List Cell} (r : RegsAt Ts Fr G H as cs) {j : Nat} {a : Addr} {c' : Cell} (ha : as[j]? = some a) (hc : ∀ t X, c' ≠ Cell.reg t X) (hH : ∀ b o, b ≠ a → H b = some o → H' b = some o) (hG : ∀ b o, b ≠ a → H b = some o → G b = none → G' b = none) (sG : Same G G') : ∃ Ts', RegsAt Ts' Fr G' H' as (cs.set j c') := let ⟨Ts', h, _⟩ := r.setCS ha hc hH hG sG; ⟨Ts', h⟩
/-- a new cell -/
theorem RegsAt.addC {Ts : Nat → Hp} {Fr G H H' : Hp} {as : List Addr} {cs : List Cell} (r : RegsAt Ts Fr G H as cs) {p : Addr} {c' : Cell} (ln : as.length = cs.length) (hc : ∀ t X, c' ≠ Cell.reg t X) (hp : ∀ i o, Ts i p ≠ some o) (hH : ∀ b o, b ≠ p → H b = some o → H' b = some o) : ∃ Ts', RegsAt Ts' Fr G H' (as ++ [p]) (cs ++ [c']) := by
  refine ⟨Ts, fun j h b => r.em j (fun t X z => h t X ?_) b, r.dj, fun i b o h => ?_, fun j t X a h1 h2 => ?_⟩
  · rw [List.getElem?_append_left (List.getElem?_eq_some_iff.mp z).1]; exact z
  · obtain ⟨x, y, z, w⟩ := r.pl i b o h
    have nb : b ≠ p := fun q => by subst q; exact hp i o h
    refine ⟨hH b o nb x, y, z, fun j hj => ?_⟩
    by_cases q : j < as.length
    · rw [List.getElem?_append_left q] at hj; exact w j hj
    · rw [List.getElem?_append_right (by omega)] at hj
      exact absurd (List.mem_singleton.mp (List.mem_of_getElem? hj)) nb
  · by_cases q : j < cs.length
    · rw [List.getElem?_append_left q] at h1
      rw [List.getElem?_append_left (by omega)] at h2
      exact r.ok j t X a h1 h2
    · rw [List.getElem?_append_right (by omega)] at h1
      exact absurd (List.mem_singleton.mp (List.mem_of_getElem? h1)).symm (hc t X)
structure KpOk (K : PySem.W.Frag) (F : Fx) (H G : Hp) : Prop where
  n : KeptN K F.C0 F.Hn H G
  k : ∀ H' G', Same F.G0 G' → Same (er G') (er H') → (∀ a o, G' a = some o → F.G0 a = some o ∨ F.Fr a = none) → KeptN K F.C0 F.Hn H' G' → F.kx H'
structure EnvOk (K : PySem.W.Frag) (F : Fx) (ρ : En) (as : List Addr) (σ : L2.St) (H G : Hp) : Prop where
  kp : KpOk K F H G
  gh : Same (er G) (er H)
  fh : FrE F.Fr F.G0 H
  fg : ∀ a o, G a = some o → F.G0 a = some o ∨ F.Fr a = none
  g0 : Same F.G0 G
  nd : as.Nodup
  pr : F.as0 <+: as
  ln : as.length = ρ.ce.length
  ce : ∀ (j : Nat) (c : Cell) (a : Addr), ρ.ce[j]? = some c → as[j]? = some a → F.Fr a = none ∧ (∃ o, H a = some o) ∧ CellOk K G H a c
  sn : σ.length = ρ.sl.length
  sl : ∀ (i : Nat) (av : AV), ρ.sl[i]? = some (some av) → ∃ v, σ[i]? = some (some v) ∧ RepA K G as av v
  rg : ∃ Ts, RegsAt Ts F.Fr G H as ρ.ce
section
variable {K : PySem.W.Frag} {F : Fx} {ρ : En} {as : List Addr} {σ : L2.St} {H G : Hp} {a : Addr}
theorem EnvOk.gT {xs : List V} (e : EnvOk K F ρ as σ H G) (h : SqT K G a xs) : SqT K H a xs := er_gT e.gh h
theorem EnvOk.gS {xs : List V} (e : EnvOk K F ρ as σ H G) (h : SqL K G a xs) : SqL K H a xs := er_gS e.gh h
theorem EnvOk.gL {xs : List V} (e : EnvOk K F ρ as σ H G) (h : G a = some (.lst xs)) : H a = some (.lst xs) := er_gL e.gh h
theorem EnvOk.gO {C dx : Addr} {fs : List (Str × V)} (e : EnvOk K F ρ as σ H G) (h : G a = some (.ins C dx fs)) : ∃ gs, H a = some (.ins C dx gs) ∧ erF gs = erF fs := er_gO e.gh h
/-- for an error that goes out -/
theorem EnvOk.kx (e : EnvOk K F ρ as σ H G) : F.kx H := e.kp.k H G e.g0 e.gh e.fg e.kp.n
end
/-- more is frozen, more cells -/
structure Gr (G : Hp) (as : List Addr) (G' : Hp) (as' : List Addr) : Prop where
  g : Same G G'
  a : ∃ r, as' = as ++ r
theorem Gr.refl {G : Hp} {as : List Addr} : Gr G as G as := ⟨Same.refl _, [], by simp⟩
theorem Gr.trans {G G1 G2 : Hp} {as as1 as2 : List Addr} (x : Gr G as G1 as1) (y : Gr G1 as1 G2 as2) : Gr G as G2 as2 := by
  obtain ⟨g, r, rfl⟩ := x
  obtain ⟨g2, r2, rfl⟩ := y
  exact ⟨Same.trans g g2, r ++ r2, by simp⟩
mutual
theorem TNr.mono {K : PySem.W.Frag} {G G' : Hp} {as as' : List Addr} (g : Gr G as G' as') : ∀ (x : TN) (v : V), TNr K G as x v → TNr K G' as' x v
  | .dat d, v, h => by cases h with | dat r => exact .dat (Rep.mono g.g _ _ r)
  | .cel j, v, h => by
    cases h with
    | cel e =>
      obtain ⟨_, r, rfl⟩ := g
      exact .cel (by rw [List.getElem?_append_left (List.getElem?_eq_some_iff.mp e).1]; exact e)
  | .tup xs, v, h => by cases h with | tup s r => exact .tup (Same.seqT g.g s) (TNs.mono g xs _ r)
theorem TNs.mono {K : PySem.W.Frag} {G G' : Hp} {as as' : List Addr} (g : Gr G as G' as') : ∀ (xs : List TN) (vs : List V), TNs K G as xs vs → TNs K G' as' xs vs
  | [], _, h => by cases h; exact .nil
  | x :: xs, _, h => by cases h with | cons a b => exact .cons (TNr.mono g x _ a) (TNs.mono g xs _ b)
end
theorem RepA.mono {K : PySem.W.Frag} {G G' : Hp} {as as' : List Addr} (g : Gr G as G' as') : ∀ {av : AV} {v : V}, RepA K G as av v → RepA K G' as' av v
  | .dat d, v, h => Rep.mono g.g d v h
  | .cel j, v, ⟨a, e, q⟩ => by
    obtain ⟨_, r, rfl⟩ := g
    exact ⟨a, by rw [List.getElem?_append_left (List.getElem?_eq_some_iff.mp e).1]; exact e, q⟩
  | .tup xs, v, ⟨a, vs, e, s, r⟩ => ⟨a, vs, e, Same.seqT g.g s, TNs.mono g _ _ r⟩
inductive RepAs (K : PySem.W.Frag) (G : Hp) (as : List Addr) : List AV → List V → Prop
  | nil : RepAs K G as [] []
  | cons {x : AV} {xs : List AV} {v : V} {vs : List V} : RepA K G as x v → RepAs K G as xs vs → RepAs K G as (x :: xs) (v :: vs)
theorem RepAs.mono {K : PySem.W.Frag} {G G' : Hp} {as as' : List Addr} (g : Gr G as G' as') {xs : List AV} {vs : List V} (h : RepAs K G as xs vs) : RepAs K G' as' xs vs := by
  induction h with
  | nil => exact .nil
  | cons a _ ih => exact .cons (a.mono g) ih
theorem RepAs.length {K : PySem.W.Frag} {G : Hp} {as : List Addr} {xs : List AV} {vs : List V} (h : RepAs K G as xs vs) : vs.length = xs.length := by
  induction h with
  | nil => rfl
  | cons _ _ ih => exact congrArg (· + 1) ih
theorem RepAs.append {K : PySem.W.Frag} {G : Hp} {as : List Addr} {xs ys : List AV} {vs ws : List V} (h : RepAs K G as xs vs) (k : RepAs K G as ys ws) : RepAs K G as (xs ++ ys) (vs ++ ws) := by
  induction h with
  | nil => exact k
  | cons a _ ih => exact .cons a ih
/-! ### the wishes, by data -/
structure KS where
  nx : En → Prop
  rt : AV → En → Prop
  bk : En → Prop := fun _ => False
  ct : En → Prop := fun _ => False
section
variable (K : PySem.W.Frag) (F : Fx)
/-- what is wanted of a value that has come -/
def Got (ρ : En) (as : List Addr) (σ : L2.St) (G : Hp) (k : AV → En → Prop) (Q : VK) : Prop := ∀ av ρ' v as' H' G', k av ρ' → EnvOk K F ρ' as' σ H' G' → Gr G as G' as' → RepA K G' as' av v → Q v H'
def WpE (t : TE) (ρ : En) (k : AV → En → Prop) : Prop := ∀ as σ H G, EnvOk K F ρ as σ H G → ∀ Q : VK, Got K F ρ as σ G k Q → t σ H Q
def WpT (t : TT) (ρ : En) (k : Bool → En → Prop) : Prop := ∀ as σ H G, EnvOk K F ρ as σ H G → ∀ Q : Bool → Hp → Prop, (∀ b ρ' as' H' G', k b ρ' → EnvOk K F ρ' as' σ H' G' → Gr G as G' as' → Q b H') → t σ H Q
def WpA (t : TA) (ρ : En) (k : List AV → En → Prop) : Prop := ∀ as σ H G, EnvOk K F ρ as σ H G → ∀ Q : List V → Hp → Prop, (∀ avs ρ' vs as' H' G', k avs ρ' → EnvOk K F ρ' as' σ H' G' → Gr G as G' as' → RepAs K G' as' avs vs → Q vs H') → t σ H Q
def WpR (r : R2) (x y : AV) (ρ : En) (k : AV → En → Prop) : Prop := ∀ as σ H G vx vy, EnvOk K F ρ as σ H G → RepA K G as x vx → RepA K G as y vy → ∀ Q : VK, Got K F ρ as σ G k Q → r vx vy H Q
def WpU (r : V → Hp → VK → Prop) (x : AV) (ρ : En) (k : AV → En → Prop) : Prop := ∀ as σ H G vx, EnvOk K F ρ as σ H G → RepA K G as x vx → ∀ Q : VK, Got K F ρ as σ G k Q → r vx H Q
def WpC (r : List V → Hp → VK → Prop) (xs : List AV) (ρ : En) (k : AV → En → Prop) : Prop := ∀ as σ H G vs, EnvOk K F ρ as σ H G → RepAs K G as xs vs → ∀ Q : VK, Got K F ρ as σ G k Q → r vs H Q
def WpM (r : V → List V → Hp → VK → Prop) (x : AV) (xs : List AV) (ρ : En) (k : AV → En → Prop) : Prop := ∀ as σ H G v vs, EnvOk K F ρ as σ H G → RepA K G as x v → RepAs K G as xs vs → ∀ Q : VK, Got K F ρ as σ G k Q → r v vs H Q
def WpSp (sp : Sp) (E : L2.St → XK) (xs : List AV) (ρ : En) (k : AV → En → Prop) : Prop := ∀ as σ H G vs, EnvOk K F ρ as σ H G → RepAs K G as xs vs → ∀ Q : VK, Got K F ρ as σ G k Q → sp vs H Q (E σ)
def WpG (g : TG) (x : AV) (ρ : En) (k : En → Prop) : Prop := ∀ as σ H G v, EnvOk K F ρ as σ H G → RepA K G as x v → ∀ Q : L2.St → Hp → Prop, (∀ ρ' as' σ' H' G', k ρ' → EnvOk K F ρ' as' σ' H' G' → Gr G as G' as' → Q σ' H') → g v σ H Q
def WpGs (g : TGs) (xs : List AV) (ρ : En) (k : En → Prop) : Prop := ∀ as σ H G vs, EnvOk K F ρ as σ H G → RepAs K G as xs vs → ∀ Q : L2.St → Hp → Prop, (∀ ρ' as' σ' H' G', k ρ' → EnvOk K F ρ' as' σ' H' G' → Gr G as G' as' → Q σ' H') → g vs σ H Q
/-- the ends of a statement, by data -/
structure EndsOk (as : List Addr) (G : Hp) (k : KS) (D : Ends) : Prop where
  nx : ∀ ρ as' σ H G', k.nx ρ → EnvOk K F ρ as' σ H G' → Gr G as G' as' → D.nx σ H
  rt : ∀ av ρ v as' σ H G', k.rt av ρ → EnvOk K F ρ as' σ H G' → Gr G as G' as' → RepA K G' as' av v → D.rt v H
  bk : ∀ ρ as' σ H G', k.bk ρ → EnvOk K F ρ as' σ H G' → Gr G as G' as' → D.bk σ H
  ct : ∀ ρ as' σ H G', k.ct ρ → EnvOk K F ρ as' σ H G' → Gr G as G' as' → D.ct σ H
  fr : ∀ v H, F.fr v → D.rt v H
theorem EndsOk.grow {as as1 : List Addr} {G G1 : Hp} {k : KS} {D : Ends} (q : EndsOk K F as G k D) (g : Gr G as G1 as1) : EndsOk K F as1 G1 k D :=
  ⟨fun ρ as' σ H G' a b c => q.nx ρ as' σ H G' a b (g.trans c), fun av ρ v as' σ H G' a b c d => q.rt av ρ v as' σ H G' a b (g.trans c) d, fun ρ as' σ H G' a b c => q.bk ρ as' σ H G' a b (g.trans c), fun ρ as' σ H G' a b c => q.ct ρ as' σ H G' a b (g.trans c), q.fr⟩
def WpS (t : TS) (ρ : En) (k : KS) : Prop := ∀ as σ H G, EnvOk K F ρ as σ H G → ∀ D : Ends, EndsOk K F as G k D → t D σ H
end
/-! ### rules of the data layer: expressions -/
section
variable {K : PySem.W.Frag} {F : Fx} {ρ : En} {k : AV → En → Prop} {kb : Bool → En → Prop} {ks : KS} {t u : TS} {ta tb te : TE} {tt tu : TT}
theorem Got.imp {as : List Addr} {σ : L2.St} {G : Hp} {ρ1 : En} {as1 : List Addr} {G1 : Hp} {k1 : AV → En → Prop} {Q : VK} (g : Got K F ρ as σ G k Q) (gr : Gr G as G1 as1) (h : ∀ av ρ', k1 av ρ' → k av ρ') : Got K F ρ1 as1 σ G1 k1 Q :=
  fun av ρ' v as' H' G' hk e gr' r => g av ρ' v as' H' G' (h _ _ hk) e (gr.trans gr') r
theorem WpE.imp {k' : AV → En → Prop} (h : WpE K F te ρ k) (i : ∀ av ρ', k av ρ' → k' av ρ') : WpE K F te ρ k' := fun as σ H G e Q q => h as σ H G e Q (q.imp .refl i)
theorem we_var {i : Nat} {av : AV} (h : ρ.sl[i]? = some (some av)) (hk : k av ρ) : WpE K F (tVar i) ρ k := fun as σ H G e Q q => by
  obtain ⟨v, hv, r⟩ := e.sl i av h
  exact ⟨v, hv, q av ρ v as H G hk e .refl r⟩
theorem we_ci {i : Int} (hk : k (.dat (.int i)) ρ) : WpE K F (tC (.int i)) ρ k := fun as σ H G e Q q => q _ ρ _ as H G hk e .refl (Rep.int i)
theorem we_cb {b : Bool} (hk : k (.dat (.bl b)) ρ) : WpE K F (tC (.bl b)) ρ k := fun as σ H G e Q q => q _ ρ _ as H G hk e .refl (Rep.bl b)
theorem we_cn (hk : k (.dat .non) ρ) : WpE K F (tC .non) ρ k := fun as σ H G e Q q => q _ ρ _ as H G hk e .refl Rep.non
theorem we_cs {x : Str} (hk : k (.dat (.str x)) ρ) : WpE K F (tC (.str x)) ρ k := fun as σ H G e Q q => q _ ρ _ as H G hk e .refl (Rep.str x)
theorem we_ct {n : String} (hk : k (.dat (.ty n)) ρ) : WpE K F (tC (.ty n)) ρ k := fun as σ H G e Q q => q _ ρ _ as H G hk e .refl (Rep.ty n)
/-- a constant of the module -/
theorem we_cr {a : Addr} {d : D} (h : ∀ G, Rep K G d (.ref a)) (hk : k (.dat d) ρ) : WpE K F (tC (.ref a)) ρ k := fun as σ H G e Q q => q _ ρ _ as H G hk e .refl (h G)
theorem we_op {r : R2} (h : WpE K F ta ρ fun x ρ1 => WpE K F tb ρ1 fun y ρ2 => WpR K F r x y ρ2 k) : WpE K F (tOp r ta tb) ρ k := fun as σ H G e Q q =>
  h as σ H G e _ fun x ρ1 vx as1 H1 G1 h1 e1 g1 r1 => h1 as1 σ H1 G1 e1 _ fun y ρ2 vy as2 H2 G2 h2 e2 g2 r2 => h2 as2 σ H2 G2 vx vy e2 (r1.mono g2) r2 Q (q.imp (g1.trans g2) fun _ _ z => z)
theorem we_un {r : V → Hp → VK → Prop} (h : WpE K F ta ρ fun x ρ1 => WpU K F r x ρ1 k) : WpE K F (tUn r ta) ρ k := fun as σ H G e Q q =>
  h as σ H G e _ fun x ρ1 vx as1 H1 G1 h1 e1 g1 r1 => h1 as1 σ H1 G1 vx e1 r1 Q (q.imp g1 fun _ _ z => z)
theorem we_tCB {r : List V → Hp → VK → Prop} {t : TA} (h : WpA K F t ρ fun xs ρ1 => WpC K F r xs ρ1 k) : WpE K F (tCB r t) ρ k := fun as σ H G e Q q =>
  h as σ H G e _ fun xs ρ1 vs as1 H1 G1 h1 e1 g1 r1 => h1 as1 σ H1 G1 vs e1 r1 Q (q.imp g1 fun _ _ z => z)
theorem wa_nil {k : List AV → En → Prop} (hk : k [] ρ) : WpA K F tNil ρ k := fun as σ H G e Q q => q [] ρ [] as H G hk e .refl .nil
theorem wa_cons {k : List AV → En → Prop} {tr : TA} (h : WpE K F ta ρ fun x ρ1 => WpA K F tr ρ1 fun xs ρ2 => k (x :: xs) ρ2) : WpA K F (tCons ta tr) ρ k := fun as σ H G e Q q =>
  h as σ H G e _ fun x ρ1 vx as1 H1 G1 h1 e1 g1 r1 => h1 as1 σ H1 G1 e1 _ fun xs ρ2 vs as2 H2 G2 h2 e2 g2 r2 => q _ ρ2 _ as2 H2 G2 h2 e2 (g1.trans g2) (.cons (r1.mono g2) r2)
theorem wr_I0i {f : Int → Int → Int} {i j : Int} (hk : k (.dat (.int (f i j))) ρ) : WpR K F (rI0 fun i j => .int (f i j)) (.dat (.int i)) (.dat (.int j)) ρ k := fun as σ H G vx vy e r1 r2 Q q => by
  cases (show Rep K G (.int i) vx from r1); cases (show Rep K G (.int j) vy from r2)
  exact ⟨i, j, rfl, rfl, q _ ρ _ as H G hk e .refl (Rep.int _)⟩
theorem wr_I0b {f : Int → Int → Bool} {i j : Int} (hk : k (.dat (.bl (f i j))) ρ) : WpR K F (rI0 fun i j => .bl (f i j)) (.dat (.int i)) (.dat (.int j)) ρ k := fun as σ H G vx vy e r1 r2 Q q => by
  cases (show Rep K G (.int i) vx from r1); cases (show Rep K G (.int j) vy from r2)
  exact ⟨i, j, rfl, rfl, q _ ρ _ as H G hk e .refl (Rep.bl _)⟩
theorem wr_Ii {C : Int → Int → Prop} {f : Int → Int → Int} {i j : Int} (hc : C i j) (hk : k (.dat (.int (f i j))) ρ) : WpR K F (rI C fun i j => .int (f i j)) (.dat (.int i)) (.dat (.int j)) ρ k := fun as σ H G vx vy e r1 r2 Q q => by
  cases (show Rep K G (.int i) vx from r1); cases (show Rep K G (.int j) vy from r2)
  exact ⟨i, j, rfl, rfl, hc, q _ ρ _ as H G hk e .refl (Rep.int _)⟩
theorem wu_neg {i : Int} (hk : k (.dat (.int (-i))) ρ) : WpU K F (rU fun i => .int (-i)) (.dat (.int i)) ρ k := fun as σ H G vx e r1 Q q => by
  cases (show Rep K G (.int i) vx from r1)
  exact ⟨i, rfl, q _ ρ _ as H G hk e .refl (Rep.int _)⟩
theorem wc_abs {i : Int} (hk : k (.dat (.int (if i < 0 then -i else i))) ρ) : WpC K F (fun xs H Q => ∃ i, xs = [.int i] ∧ Q (.int (if i < 0 then -i else i)) H) [.dat (.int i)] ρ k := fun as σ H G vs e r Q q => by
  cases r with
  | cons a b =>
    cases b
    cases (show Rep K G (.int i) _ from a)
    exact ⟨i, rfl, q _ ρ _ as H G hk e .refl (Rep.int _)⟩
/-- == of scalars -/
def scalD : D → D → Bool
  | .non, .non => true | .non, .int _ => true | .int _, .non => true | .non, .bl _ => true | .bl _, .non => true | .non, .str _ => true | .str _, .non => true
  | .int _, .int _ => true | .bl _, .bl _ => true | .str _, .str _ => true | .int _, .str _ => true | .str _, .int _ => true | .bl _, .str _ => true | .str _, .bl _ => true
  | _, _ => false
def eqS : D → D → Bool
  | .non, .non => true
  | .int i, .int j => decide (i = j)
  | .bl a, .bl b => decide (a = b)
  | .str x, .str y => decide (x = y)
  | _, _ => false
theorem scal_rep {G : Hp} {d e : D} {v w : V} (h : scalD d e = true) (r1 : Rep K G d v) (r2 : Rep K G e w) : scal v w = true ∧ decide (v = w) = eqS d e := by
  cases d <;> cases e <;> first
    | (exact Bool.noConfusion (show false = true from h))
    | (cases r1; cases r2; refine ⟨rfl, ?_⟩; first | rfl | (simp [eqS]) | (exact decide_eq_false (fun z => nomatch z)))
theorem wr_eq {d e : D} (h : scalD d e = true) (hk : k (.dat (.bl (eqS d e))) ρ) : WpR K F rEq (.dat d) (.dat e) ρ k := fun as σ H G vx vy en r1 r2 Q q => by
  obtain ⟨a, b⟩ := scal_rep (K := K) (G := G) h r1 r2
  refine ⟨a, ?_⟩
  rw [b]
  exact q _ ρ _ as H G hk en .refl (Rep.bl _)
theorem wr_ne {d e : D} (h : scalD d e = true) (hk : k (.dat (.bl (!eqS d e))) ρ) : WpR K F rNe (.dat d) (.dat e) ρ k := fun as σ H G vx vy en r1 r2 Q q => by
  obtain ⟨a, b⟩ := scal_rep (K := K) (G := G) h r1 r2
  refine ⟨a, ?_⟩
  rw [b]
  exact q _ ρ _ as H G hk en .refl (Rep.bl _)
def isNon : AV → Bool
  | .dat .non => true
  | _ => false
theorem isNon_rep {G : Hp} {as : List Addr} {x : AV} {v : V} (r : RepA K G as x v) : decide (v = .non) = isNon x := by
  cases x with
  | cel j => obtain ⟨a, _, rfl⟩ := r; rfl
  | tup xs => obtain ⟨a, vs, rfl, _⟩ := r; rfl
  | dat d => cases d <;> cases (show Rep K G _ v from r) <;> rfl
theorem wr_isN {x : AV} (hk : k (.dat (.bl (isNon x))) ρ) : WpR K F (fun x y H Q => y = .non ∧ Q (.bl (decide (x = .non))) H) x (.dat .non) ρ k := fun as σ H G vx vy en r1 r2 Q q => by
  refine ⟨Rep.nonE r2, ?_⟩
  rw [isNon_rep r1]
  exact q _ ρ _ as H G hk en .refl (Rep.bl _)
theorem wr_notN {x : AV} (hk : k (.dat (.bl (!isNon x))) ρ) : WpR K F (fun x y H Q => y = .non ∧ Q (.bl (!decide (x = .non))) H) x (.dat .non) ρ k := fun as σ H G vx vy en r1 r2 Q q => by
  refine ⟨Rep.nonE r2, ?_⟩
  rw [isNon_rep r1]
  exact q _ ρ _ as H G hk en .refl (Rep.bl _)
theorem wr_isB {a b : Bool} (hk : k (.dat (.bl (decide (a = b)))) ρ) : WpR K F (fun x y H Q => ∃ a b, x = .bl a ∧ y = .bl b ∧ Q (.bl (decide (a = b))) H) (.dat (.bl a)) (.dat (.bl b)) ρ k := fun as σ H G vx vy en r1 r2 Q q =>
  ⟨a, b, Rep.blE r1, Rep.blE r2, q _ ρ _ as H G hk en .refl (Rep.bl _)⟩
theorem wr_isnotB {a b : Bool} (hk : k (.dat (.bl (!decide (a = b)))) ρ) : WpR K F (fun x y H Q => ∃ a b, x = .bl a ∧ y = .bl b ∧ Q (.bl (!decide (a = b))) H) (.dat (.bl a)) (.dat (.bl b)) ρ k := fun as σ H G vx vy en r1 r2 Q q =>
  ⟨a, b, Rep.blE r1, Rep.blE r2, q _ ρ _ as H G hk en .refl (Rep.bl _)⟩
/-! truth -/
theorem we_andV (h : WpE K F ta ρ fun x ρ1 => ∃ c, x = .dat (.bl c) ∧ if c = true then WpE K F tb ρ1 k else k (.dat (.bl false)) ρ1) : WpE K F (tAndV ta tb) ρ k := fun as σ H G e Q q =>
  h as σ H G e _ fun x ρ1 vx as1 H1 G1 ⟨c, ex, hc⟩ e1 g1 r1 => by
    subst ex
    refine ⟨c, Rep.blE r1, ?_⟩
    cases c with
    | true => exact (show WpE K F tb ρ1 k from hc) as1 σ H1 G1 e1 Q (q.imp g1 fun _ _ z => z)
    | false => exact q _ ρ1 _ as1 H1 G1 hc e1 g1 (Rep.bl _)
theorem we_orV (h : WpE K F ta ρ fun x ρ1 => ∃ c, x = .dat (.bl c) ∧ if c = true then k (.dat (.bl true)) ρ1 else WpE K F tb ρ1 k) : WpE K F (tOrV ta tb) ρ k := fun as σ H G e Q q =>
  h as σ H G e _ fun x ρ1 vx as1 H1 G1 ⟨c, ex, hc⟩ e1 g1 r1 => by
    subst ex
    refine ⟨c, Rep.blE r1, ?_⟩
    cases c with
    | false => exact (show WpE K F tb ρ1 k from hc) as1 σ H1 G1 e1 Q (q.imp g1 fun _ _ z => z)
    | true => exact q _ ρ1 _ as1 H1 G1 hc e1 g1 (Rep.bl _)
theorem we_notV (h : WpE K F ta ρ fun x ρ1 => ∃ c, x = .dat (.bl c) ∧ k (.dat (.bl (!c))) ρ1) : WpE K F (tNotV ta) ρ k := fun as σ H G e Q q =>
  h as σ H G e _ fun x ρ1 vx as1 H1 G1 ⟨c, ex, hc⟩ e1 g1 r1 => by
    subst ex
    exact ⟨c, Rep.blE r1, q _ ρ1 _ as1 H1 G1 hc e1 g1 (Rep.bl _)⟩
theorem we_if (h : WpT K F tt ρ fun b ρ1 => if b = true then WpE K F ta ρ1 k else WpE K F tb ρ1 k) : WpE K F (tIf tt ta tb) ρ k := fun as σ H G e Q q =>
  h as σ H G e _ fun b ρ1 as1 H1 G1 hb e1 g1 => by
    cases b with
    | true => exact (show WpE K F ta ρ1 k from hb) as1 σ H1 G1 e1 Q (q.imp g1 fun _ _ z => z)
    | false => exact (show WpE K F tb ρ1 k from hb) as1 σ H1 G1 e1 Q (q.imp g1 fun _ _ z => z)
theorem wt_test (h : WpE K F te ρ fun x ρ1 => ∃ b, x = .dat (.bl b) ∧ kb b ρ1) : WpT K F (tTest te) ρ kb := fun as σ H G e Q q =>
  h as σ H G e _ fun x ρ1 vx as1 H1 G1 ⟨c, ex, hc⟩ e1 g1 r1 => by
    subst ex
    exact ⟨c, Rep.blE r1, q _ ρ1 as1 H1 G1 hc e1 g1⟩
theorem wt_B (h : WpE K F te ρ fun x ρ1 => ∃ b, x = .dat (.bl b) ∧ kb b ρ1) : WpT K F (tB te) ρ kb := wt_test h
theorem wt_and (h : WpT K F tt ρ fun b ρ1 => if b = true then WpT K F tu ρ1 kb else kb false ρ1) : WpT K F (tAnd tt tu) ρ kb := fun as σ H G e Q q =>
  h as σ H G e _ fun b ρ1 as1 H1 G1 hb e1 g1 => by
    cases b with
    | true => exact (show WpT K F tu ρ1 kb from hb) as1 σ H1 G1 e1 Q fun b2 ρ2 as2 H2 G2 h2 e2 g2 => q _ _ _ _ _ h2 e2 (g1.trans g2)
    | false => exact q _ _ _ _ _ hb e1 g1
theorem wt_or (h : WpT K F tt ρ fun b ρ1 => if b = true then kb true ρ1 else WpT K F tu ρ1 kb) : WpT K F (tOr tt tu) ρ kb := fun as σ H G e Q q =>
  h as σ H G e _ fun b ρ1 as1 H1 G1 hb e1 g1 => by
    cases b with
    | false => exact (show WpT K F tu ρ1 kb from hb) as1 σ H1 G1 e1 Q fun b2 ρ2 as2 H2 G2 h2 e2 g2 => q _ _ _ _ _ h2 e2 (g1.trans g2)
    | true => exact q _ _ _ _ _ hb e1 g1
theorem wt_not (h : WpT K F tt ρ fun b ρ1 => kb (!b) ρ1) : WpT K F (tNot tt) ρ kb := fun as σ H G e Q q => h as σ H G e _ fun b ρ1 as1 H1 G1 hb e1 g1 => q _ _ _ _ _ hb e1 g1
theorem wt_yes (h : kb true ρ) : WpT K F tYes ρ kb := fun as σ H G e Q q => q _ _ _ _ _ h e .refl
/-! ### statements -/
theorem ws_seq (h : WpS K F t ρ { ks with nx := fun ρ1 => WpS K F u ρ1 ks }) : WpS K F (tSeq t u) ρ ks := fun as σ H G e D q =>
  h as σ H G e { D with nx := u D } ⟨fun ρ1 as1 σ1 H1 G1 k1 e1 g1 => k1 as1 σ1 H1 G1 e1 D (EndsOk.grow K F q g1), q.rt, q.bk, q.ct, q.fr⟩
theorem ws_next (h : ks.nx ρ) : WpS K F tNext ρ ks := fun as σ H G e D q => q.nx ρ as σ H G h e .refl
theorem ws_break (h : ks.bk ρ) : WpS K F tBreak ρ ks := fun as σ H G e D q => q.bk ρ as σ H G h e .refl
theorem ws_cont (h : ks.ct ρ) : WpS K F tCont ρ ks := fun as σ H G e D q => q.ct ρ as σ H G h e .refl
theorem ws_drop (h : WpE K F te ρ fun _ ρ1 => ks.nx ρ1) : WpS K F (tDrop te) ρ ks := fun as σ H G e D q => h as σ H G e _ fun x ρ1 vx as1 H1 G1 h1 e1 g1 r1 => q.nx ρ1 as1 σ H1 G1 h1 e1 g1
theorem ws_ret (h : WpE K F te ρ ks.rt) : WpS K F (tRet te) ρ ks := fun as σ H G e D q => h as σ H G e _ fun x ρ1 vx as1 H1 G1 h1 e1 g1 r1 => q.rt x ρ1 vx as1 σ H1 G1 h1 e1 g1 r1
theorem ws_retN (h : ks.rt (.dat .non) ρ) : WpS K F tRetN ρ ks := fun as σ H G e D q => q.rt _ ρ _ as σ H G h e .refl Rep.non
theorem ws_if (h : WpT K F tt ρ fun b ρ1 => if b = true then WpS K F t ρ1 ks else WpS K F u ρ1 ks) : WpS K F (tIfS tt t u) ρ ks := fun as σ H G e D q =>
  h as σ H G e _ fun b ρ1 as1 H1 G1 hb e1 g1 => by
    cases b with
    | true => exact (show WpS K F t ρ1 ks from hb) as1 σ H1 G1 e1 D (EndsOk.grow K F q g1)
    | false => exact (show WpS K F u ρ1 ks from hb) as1 σ H1 G1 e1 D (EndsOk.grow K F q g1)
theorem ws_asg {g : TG} (h : WpE K F te ρ fun x ρ1 => WpG K F g x ρ1 ks.nx) : WpS K F (tAsg te g) ρ ks := fun as σ H G e D q =>
  h as σ H G e _ fun x ρ1 vx as1 H1 G1 h1 e1 g1 r1 => h1 as1 σ H1 G1 vx e1 r1 _ fun ρ2 as2 σ2 H2 G2 h2 e2 g2 => q.nx ρ2 as2 σ2 H2 G2 h2 e2 (g1.trans g2)
def En.put (ρ : En) (i : Nat) (x : AV) : En := ⟨ρ.sl.set i (some x), ρ.ce⟩
theorem EnvOk.put {as : List Addr} {σ : L2.St} {H G : Hp} {i : Nat} {x : AV} {v : V} (e : EnvOk K F ρ as σ H G) (r : RepA K G as x v) : EnvOk K F (ρ.put i x) as (σ.set i (some v)) H G :=
  ⟨e.kp, e.gh, e.fh, e.fg, e.g0, e.nd, e.pr, e.ln, e.ce, by rw [List.length_set, e.sn]; exact (List.length_set).symm, fun j av hj => by
    show ∃ v', (σ.set i (some v))[j]? = some (some v') ∧ _
    have hj' : (ρ.sl.set i (some x))[j]? = some (some av) := hj
    by_cases hij : i = j
    · subst hij
      rw [List.getElem?_set] at hj' ⊢
      have hl : i < ρ.sl.length := by
        rcases Nat.lt_or_ge i ρ.sl.length with z | z
        · exact z
        · simp at hj'
          exact hj'.1
      simp [hl] at hj'
      subst hj'
      have hl2 : i < σ.length := by rw [e.sn]; exact hl
      exact ⟨v, by simp [hl2], r⟩
    · rw [List.getElem?_set_ne hij] at hj' ⊢
      exact e.sl j av hj', e.rg⟩
theorem wg_name {i : Nat} {x : AV} {kn : En → Prop} (h : kn (ρ.put i x)) : WpG K F (gName i) x ρ kn := fun as σ H G v e r Q q => q _ as _ H G h (e.put r) .refl
theorem wgs_nil {kn : En → Prop} (h : kn ρ) : WpGs K F gNil [] ρ kn := fun as σ H G vs e r Q q => by cases r; exact ⟨rfl, q _ _ _ _ _ h e .refl⟩
theorem wgs_cons {g : TG} {gs : TGs} {x : AV} {xs : List AV} {kn : En → Prop} (h : WpG K F g x ρ fun ρ1 => WpGs K F gs xs ρ1 kn) : WpGs K F (gCons g gs) (x :: xs) ρ kn := fun as σ H G vs e r Q q => by
  cases r with
  | cons a b => exact ⟨_, _, rfl, h as σ H G _ e a _ fun ρ1 as1 σ1 H1 G1 h1 e1 g1 => h1 as1 σ1 H1 G1 _ e1 (b.mono g1) Q fun ρ2 as2 σ2 H2 G2 h2 e2 g2 => q _ _ _ _ _ h2 e2 (g1.trans g2)⟩
theorem Reps.as {G : Hp} {as : List Addr} : ∀ {ds : List D} {vs : List V}, Reps K G ds vs → RepAs K G as (ds.map .dat) vs
  | [], _, h => by cases h; exact .nil
  | _ :: _, _, h => by cases h with | cons a b => exact .cons a (Reps.as b)
theorem wg_tup {n : Nat} {gs : TGs} {ds : List D} {kn : En → Prop} (hn : ds.length = n) (h : WpGs K F gs (ds.map .dat) ρ kn) : WpG K F (gTup K n gs) (.dat (.tup ds)) ρ kn := fun as σ H G v e r Q q => by
  obtain ⟨a, vs, rfl, hs, hr⟩ := Rep.tupE r
  exact ⟨a, vs, rfl, e.gT hs, by rw [hr.length]; exact hn, h as σ H G vs e hr.as Q q⟩
theorem ws_par {i j : Nat} {ta : TA} (h : WpA K F ta ρ fun xs ρ1 => ∃ x y, xs = [x, y] ∧ ks.nx ((ρ1.put i x).put j y)) : WpS K F (tPar i j ta) ρ ks := fun as σ H G e D q =>
  h as σ H G e _ fun xs ρ1 vs as1 H1 G1 ⟨x, y, ex, h1⟩ e1 g1 r1 => by
    subst ex
    cases r1 with
    | cons a b => cases b with | cons b c => cases c; exact ⟨_, _, rfl, q.nx _ as1 _ H1 G1 h1 ((e1.put a).put b) g1⟩
/-! ### lists and tuples -/
/-- the items of a list: data, or a cell -/
inductive IsL (ρ : En) : AV → List D → Prop
  | dat (ds : List D) : IsL ρ (.dat (.lst ds)) ds
  | scr (ds : List D) : IsL ρ (.dat (.scr ds)) ds
  | cel {j : Nat} {ds : List D} : ρ.ce[j]? = some (.lst ds) → IsL ρ (.cel j) ds
  | tag {j : Nat} {c : Addr} {ds : List D} : ρ.ce[j]? = some (.oth (lstX c ds)) → IsL ρ (.dat (.cls c)) ds
theorem IsL.rep {as : List Addr} {σ : L2.St} {H G : Hp} {x : AV} {ds : List D} {v : V} (e : EnvOk K F ρ as σ H G) (h : IsL ρ x ds) (r : RepA K G as x v) : ∃ a vs, v = .ref a ∧ SqL K H a vs ∧ Reps K G ds vs := by
  cases h with
  | dat => obtain ⟨a, vs, rfl, hs, hr⟩ := Rep.lstE r; exact ⟨a, vs, rfl, SqL.of (e.gL hs), hr⟩
  | scr => obtain ⟨a, vs, rfl, hs, hr⟩ := Rep.scrE r; exact ⟨a, vs, rfl, e.gS hs, hr⟩
  | cel hc =>
    obtain ⟨a, ha, rfl⟩ := r
    obtain ⟨_, _, _, vs, hv, hr⟩ := e.ce _ _ a hc ha
    exact ⟨a, vs, rfl, SqL.of hv, hr⟩
  | @tag j c _ hc =>
    cases (show Rep K G (.cls c) v from r)
    obtain ⟨a, ha⟩ : ∃ a, as[j]? = some a := ⟨_, List.getElem?_eq_getElem (by rw [e.ln]; exact (List.getElem?_eq_some_iff.mp hc).1)⟩
    obtain ⟨_, _, _, o, ho, rfl, vs, rfl, hr⟩ := e.ce _ _ a hc ha
    exact ⟨a, vs, rfl, SqL.of ho, hr K G⟩
theorem atI_reps {G : Hp} {ds : List D} {vs : List V} {i : Int} {d : D} (h : Reps K G ds vs) (e : atI ds i = some d) : ∃ v, atI vs i = some v ∧ Rep K G d v := by
  unfold atI at *
  rw [h.length]
  cases q : ixN ds.length i with
  | none => rw [q] at e; cases e
  | some j =>
    rw [q] at e
    exact h.get e
theorem wr_ixL {x : AV} {ds : List D} {i : Int} {d : D} (hx : IsL ρ x ds) (hi : atI ds i = some d) (hk : k (.dat d) ρ) : WpR K F (rIxL K) x (.dat (.int i)) ρ k := fun as σ H G vx vy e r1 r2 Q q => by
  obtain ⟨a, vs, rfl, hs, hr⟩ := hx.rep e r1
  obtain ⟨v, hv, r⟩ := atI_reps hr hi
  exact ⟨a, vs, i, v, rfl, Rep.intE r2, hs, hv, q _ ρ _ as H G hk e .refl r⟩
theorem wr_ixT {ds : List D} {i : Int} {d : D} (hi : atI ds i = some d) (hk : k (.dat d) ρ) : WpR K F (rIxT K) (.dat (.tup ds)) (.dat (.int i)) ρ k := fun as σ H G vx vy e r1 r2 Q q => by
  obtain ⟨a, vs, rfl, hs, hr⟩ := Rep.tupE r1
  obtain ⟨v, hv, r⟩ := atI_reps hr hi
  exact ⟨a, vs, i, v, rfl, Rep.intE r2, e.gT hs, hv, q _ ρ _ as H G hk e .refl r⟩
theorem wc_lenL {x : AV} {ds : List D} (hx : IsL ρ x ds) (hk : k (.dat (.int ds.length)) ρ) : WpC K F (fun xs H Q => ∃ p ys, xs = [.ref p] ∧ (SqL K H p ys ∨ SqT K H p ys) ∧ Q (.int ys.length) H) [x] ρ k := fun as σ H G vs e r Q q => by
  cases r with
  | cons r c =>
    cases c
    obtain ⟨a, vs, rfl, hs, hr⟩ := hx.rep e r
    refine ⟨a, vs, rfl, .inl hs, ?_⟩
    rw [hr.length]
    exact q _ ρ _ as H G hk e .refl (Rep.int _)
theorem wc_lenT {ds : List D} (hk : k (.dat (.int ds.length)) ρ) : WpC K F (fun xs H Q => ∃ p ys, xs = [.ref p] ∧ (SqL K H p ys ∨ SqT K H p ys) ∧ Q (.int ys.length) H) [.dat (.tup ds)] ρ k := fun as σ H G vs e r Q q => by
  cases r with
  | cons r c =>
    cases c
    obtain ⟨a, vs, rfl, hs, hr⟩ := Rep.tupE r
    refine ⟨a, vs, rfl, .inr (e.gT hs), ?_⟩
    rw [hr.length]
    exact q _ ρ _ as H G hk e .refl (Rep.int _)
/-! new things -/
/-- a new frozen object -/
theorem EnvOk.newG {as : List Addr} {σ : L2.St} {H G : Hp} {p : Addr} {o : HO} (e : EnvOk K F ρ as σ H G) (hp : H p = none) (oo : okO o := by trivial) : EnvOk K F ρ as σ (upd H p o) (upd G p o) ∧ Gr G as (upd G p o) as := by
  have gp : G p = none := er_gN e.gh hp
  have fp : F.Fr p = none := e.fh.none hp
  have sg : Same G (upd G p o) := Same.new (Same.refl _) gp
  refine ⟨⟨⟨e.kp.n.newG oo gp, e.kp.k⟩, fun a u h => ?_, e.fh.put fp, fun a u h => ?_, Same.trans e.g0 sg, e.nd, e.pr, e.ln, fun j c a hc ha => ?_, e.sn, fun i av hi => ?_, ?_⟩, ⟨sg, [], by simp⟩⟩
  · by_cases q : a = p
    · subst q; rw [er_at] at h ⊢; exact h
    · rw [er_ne q] at h ⊢; exact e.gh _ _ h
  · by_cases q : a = p
    · subst q; exact .inr fp
    · rw [upd_ne q] at h; exact e.fg _ _ h
  · obtain ⟨f, ⟨u, hu⟩, ok⟩ := e.ce j c a hc ha
    have na : a ≠ p := ne_of_none hu hp
    refine ⟨f, ⟨u, upd_old hp hu⟩, ?_⟩
    cases c with
    | gone => trivial
    | lst ds => obtain ⟨g, vs, h, r⟩ := ok; exact ⟨by rw [upd_ne na]; exact g, vs, upd_old hp h, Reps.mono sg _ _ r⟩
    | ins C9 ns9 ds => obtain ⟨g, dx9, vs, h, ln9, r⟩ := ok; exact ⟨by rw [upd_ne na]; exact g, dx9, vs, upd_old hp h, ln9, Reps.mono sg _ _ r⟩
    | drw => obtain ⟨g, vs, h, r⟩ := ok; exact ⟨by rw [upd_ne na]; exact g, vs, upd_old hp h, r⟩
    | reg t X => show upd G p o a = none; rw [upd_ne na]; exact ok
    | oth X => obtain ⟨g, o9, h, r⟩ := ok; exact ⟨by rw [upd_ne na]; exact g, o9, upd_old hp h, X.mono (fun _ _ z => .inl (sg _ _ z)) r⟩
  · obtain ⟨v, hv, r⟩ := e.sl i av hi
    exact ⟨v, hv, r.mono ⟨sg, [], by simp⟩⟩
  · obtain ⟨Ts, r⟩ := e.rg
    exact ⟨Ts, r.same (fun _ _ _ _ h => upd_old hp h) (fun b u h g => by rw [upd_ne (ne_of_none h hp)]; exact g) (fun _ z => z) fun _ _ z => .inl (sg _ _ z)⟩
/-- a new cell -/
theorem EnvOk.newO {as : List Addr} {σ : L2.St} {H G : Hp} {p : Addr} {o : HO} {c0 : Cell} (e : EnvOk K F ρ as σ H G) (hp : H p = none) (ok0 : G p = none → CellOk K G (upd H p o) p c0) (nr : ∀ t X, c0 ≠ Cell.reg t X := by intro t X z; cases z) : EnvOk K F ⟨ρ.sl, ρ.ce ++ [c0]⟩ (as ++ [p]) σ (upd H p o) G ∧ Gr G as G (as ++ [p]) := by
  have gp : G p = none := er_gN e.gh hp
  have fp : F.Fr p = none := e.fh.none hp
  have gr : Gr G as G (as ++ [p]) := ⟨Same.refl _, [p], rfl⟩
  refine ⟨⟨⟨e.kp.n.put gp, e.kp.k⟩, fun a u h => er_old hp (e.gh _ _ h), e.fh.put fp, e.fg, e.g0, ?_, e.pr.trans (List.prefix_append _ _), by rw [List.length_append, List.length_append, e.ln]; rfl, fun j c a hc ha => ?_, e.sn, fun i av hi => ?_, ?_⟩, gr⟩
  · rw [List.nodup_append]
    refine ⟨e.nd, by simp, fun a ha b hb => ?_⟩
    rw [List.mem_singleton] at hb
    subst hb
    obtain ⟨j, hj⟩ := List.getElem?_of_mem ha
    have hl : j < ρ.ce.length := by rw [← e.ln]; exact (List.getElem?_eq_some_iff.mp hj).1
    obtain ⟨_, ⟨u, hu⟩, _⟩ := e.ce j _ a (List.getElem?_eq_getElem hl) hj
    exact ne_of_none hu hp
  · by_cases hj : j < ρ.ce.length
    · rw [List.getElem?_append_left hj] at hc
      rw [List.getElem?_append_left (by rw [e.ln]; exact hj)] at ha
      obtain ⟨f, ⟨u, hu⟩, ok⟩ := e.ce j c a hc ha
      refine ⟨f, ⟨u, upd_old hp hu⟩, ?_⟩
      cases c with
      | gone => trivial
      | lst ds => obtain ⟨g, vs, h, r⟩ := ok; exact ⟨g, vs, upd_old hp h, r⟩
      | ins C9 ns9 ds => obtain ⟨g, dx9, vs, h, ln9, r⟩ := ok; exact ⟨g, dx9, vs, upd_old hp h, ln9, r⟩
      | drw => obtain ⟨g, vs, h, r⟩ := ok; exact ⟨g, vs, upd_old hp h, r⟩
      | reg t X => exact ok
      | oth X => obtain ⟨g, o9, h, r⟩ := ok; exact ⟨g, o9, upd_old hp h, r⟩
    · have hj2 : ρ.ce.length ≤ j := by omega
      rw [List.getElem?_append_right hj2] at hc
      rw [List.getElem?_append_right (by rw [e.ln]; exact hj2), e.ln] at ha
      cases z : j - ρ.ce.length with
      | zero =>
        rw [z] at hc ha
        cases hc
        cases ha
        exact ⟨fp, ⟨_, upd_same⟩, ok0 gp⟩
      | succ m => rw [z] at hc; simp at hc
  · obtain ⟨v, hv, r⟩ := e.sl i av hi
    exact ⟨v, hv, r.mono gr⟩
  · obtain ⟨Ts, r⟩ := e.rg
    exact r.addC e.ln nr (fun i u h => by have := (r.pl i p u h).1; rw [hp] at this; cases this) fun b u _ h => upd_old hp h
theorem EnvOk.newC {as : List Addr} {σ : L2.St} {H G : Hp} {p : Addr} {vs : List V} {ds : List D} (e : EnvOk K F ρ as σ H G) (hp : H p = none) (hr : Reps K G ds vs) : EnvOk K F ⟨ρ.sl, ρ.ce ++ [.lst ds]⟩ (as ++ [p]) σ (upd H p (.lst vs)) G ∧ Gr G as G (as ++ [p]) := e.newO hp fun gp => ⟨gp, vs, upd_same, hr⟩
/-- a cell is written -/
theorem EnvOk.setO {as : List Addr} {σ : L2.St} {H G : Hp} {j : Nat} {a : Addr} {c c' : Cell} {o : HO} (e : EnvOk K F ρ as σ H G) (hj : ρ.ce[j]? = some c) (ha : as[j]? = some a) (g : G a = none) (ok : CellOk K G (upd H a o) a c') (nr : ∀ t X, c' ≠ Cell.reg t X := by intro t X z; cases z) : EnvOk K F ⟨ρ.sl, ρ.ce.set j c'⟩ as σ (upd H a o) G := by
  obtain ⟨fa, ⟨u, hu⟩, _⟩ := e.ce j c a hj ha
  have hl : j < ρ.ce.length := (List.getElem?_eq_some_iff.mp hj).1
  refine ⟨⟨e.kp.n.put g, e.kp.k⟩, fun b u h => er_oth (ne_of_none h (er_none g)) (e.gh _ _ h), e.fh.put fa, e.fg, e.g0, e.nd, e.pr, by rw [e.ln]; exact (List.length_set).symm, fun i c2 b hc hb => ?_, e.sn, e.sl, by obtain ⟨Ts, r⟩ := e.rg; exact r.setC ha nr (fun b u n h => upd_oth n h) (fun _ _ _ _ z => z) (Same.refl _)⟩
  have hc' : (ρ.ce.set j c')[i]? = some c2 := hc
  by_cases hij : j = i
  · subst hij
    rw [List.getElem?_set_self hl] at hc'
    cases hc'
    rw [ha] at hb
    cases hb
    exact ⟨fa, ⟨_, upd_same⟩, ok⟩
  · rw [List.getElem?_set_ne hij] at hc'
    obtain ⟨f, ⟨u2, hu2⟩, ok2⟩ := e.ce i c2 b hc' hb
    have nb : b ≠ a := fun z => by
      subst z
      exact hij ((List.getElem?_inj (List.getElem?_eq_some_iff.mp ha).1 e.nd).mp (ha.trans hb.symm))
    refine ⟨f, ⟨u2, upd_oth nb hu2⟩, ?_⟩
    cases c2 with
    | gone => trivial
    | lst ds => obtain ⟨g, vs, h, r⟩ := ok2; exact ⟨g, vs, upd_oth nb h, r⟩
    | ins C9 ns9 ds => obtain ⟨g, dx9, vs, h, ln9, r⟩ := ok2; exact ⟨g, dx9, vs, upd_oth nb h, ln9, r⟩
    | drw => obtain ⟨g, vs, h, r⟩ := ok2; exact ⟨g, vs, upd_oth nb h, r⟩
    | reg t X => exact ok2
    | oth X => obtain ⟨g, o9, h, r⟩ := ok2; exact ⟨g, o9, upd_oth nb h, r⟩
theorem EnvOk.setC {as : List Addr} {σ : L2.St} {H G : Hp} {j : Nat} {a : Addr} {c c' : Cell} {xs : List V} (e : EnvOk K F ρ as σ H G) (hj : ρ.ce[j]? = some c) (ha : as[j]? = some a) (g : G a = none) (ok : CellOk K G (upd H a (.lst xs)) a c') (nr : ∀ t X, c' ≠ Cell.reg t X := by intro t X z; cases z) : EnvOk K F ⟨ρ.sl, ρ.ce.set j c'⟩ as σ (upd H a (.lst xs)) G := e.setO hj ha g ok nr
mutual
/-- a cell is frozen -/
def frzT (j : Nat) (d : D) : TN → TN
  | .dat e => .dat e
  | .cel i => if i = j then .dat d else .cel i
  | .tup xs => .tup (frzTs j d xs)
def frzTs (j : Nat) (d : D) : List TN → List TN
  | [] => []
  | x :: xs => frzT j d x :: frzTs j d xs
end
def frzA (j : Nat) (d : D) : AV → AV
  | .dat e => .dat e
  | .cel i => if i = j then .dat d else .cel i
  | .tup xs => .tup (frzTs j d xs)
section
variable {G G' : Hp} {as : List Addr} {j : Nat} {a : Addr} {d : D}
mutual
theorem TNr.frz (sg : Same G G') (ha : as[j]? = some a) (ra : Rep K G' d (.ref a)) : ∀ (x : TN) (v : V), TNr K G as x v → TNr K G' as (frzT j d x) v
  | .dat e, v, h => by cases h with | dat r => rw [frzT]; exact .dat (Rep.mono sg _ _ r)
  | .cel i, v, h => by
    cases h with
    | @cel _ b e =>
      rw [frzT]
      by_cases q : i = j
      · subst q
        rw [if_pos rfl]
        rw [ha] at e
        cases e
        exact .dat ra
      · rw [if_neg q]
        exact .cel e
  | .tup xs, v, h => by cases h with | tup s r => rw [frzT]; exact .tup (Same.seqT sg s) (TNs.frz sg ha ra xs _ r)
theorem TNs.frz (sg : Same G G') (ha : as[j]? = some a) (ra : Rep K G' d (.ref a)) : ∀ (xs : List TN) (vs : List V), TNs K G as xs vs → TNs K G' as (frzTs j d xs) vs
  | [], _, h => by cases h; rw [frzTs]; exact .nil
  | x :: xs, _, h => by cases h with | cons a b => rw [frzTs]; exact .cons (TNr.frz sg ha ra x _ a) (TNs.frz sg ha ra xs _ b)
end
end
def En.frzD (ρ : En) (j : Nat) (d : D) : En := ⟨ρ.sl.map (fun o => o.map (frzA j d)), ρ.ce.set j .gone⟩
abbrev En.frz (ρ : En) (j : Nat) (ds : List D) : En := ρ.frzD j (.lst ds)
/-- the data that a cell holds -/
def isNonD : D → Bool
  | .non => true
  | _ => false
def okI : List Str → List D → Bool
  | n :: ns, d :: ds => (!hidN n || isNonD d) && okI ns ds
  | _, _ => true
/-- fields that keep what was made once hold nothing yet -/
def okFz (ns : List Str) (ds : List D) : Bool := !ns.any (· == ("leading" : Str)) || okI ns ds
def celD : Cell → Option D
  | .lst ds => some (.lst ds)
  | .ins C ns ds => if okFz ns ds = true then some (.obj C ns ds) else none
  | _ => none
theorem isLn_zip : ∀ {ns : List Str} {vs : List V}, ns.length = vs.length → isLn (ns.zip vs) = ns.any (· == ("leading" : Str))
  | [], _, _ => by simp [isLn]
  | _ :: _, [], h => by cases h
  | n :: ns, v :: vs, h => by
    show (n == "leading" || isLn (ns.zip vs)) = (n == "leading" || ns.any (· == ("leading" : Str)))
    rw [isLn_zip (Nat.succ.inj h)]
theorem okI_non {G : Hp} {n : Str} {v : V} : ∀ {ns : List Str} {ds : List D} {vs : List V}, okI ns ds = true → Reps K G ds vs → hidN n = true → (ns.zip vs).lookup n = some v → v = .non
  | [], _, _, _, _, _, m => by simp at m
  | _ :: _, [], _, _, r, _, m => by cases r; simp at m
  | m0 :: ns, d :: ds, _, h, r, q, m => by
    cases r with
    | cons a b =>
      rw [okI, Bool.and_eq_true] at h
      rw [List.zip_cons_cons, List.lookup_cons] at m
      cases w : n == m0 with
      | true =>
        rw [w] at m
        cases m
        rw [← beq_iff_eq.mp w, q] at h
        cases d with
        | non => exact Rep.nonE a
        | _ => exact Bool.noConfusion (show false = true from h.1)
      | false => rw [w] at m; exact okI_non h.2 b q m
/-- a cell becomes data d, told in the frozen heap by u -/
theorem EnvOk.frzU {as : List Addr} {σ : L2.St} {H G : Hp} {j : Nat} {a : Addr} {c0 : Cell} {d : D} {u : HO} (e : EnvOk K F ρ as σ H G) (hj : ρ.ce[j]? = some c0) (ha : as[j]? = some a) (hu : er H a = some (erO u)) (g : G a = none) (ra : Rep K (upd G a u) d (.ref a)) (ko : ∀ C dx fs, u = .ins C dx fs → isLn fs = true → ∀ gs, H a = some (.ins C dx gs) → ∀ n v, hidN n = true → gs.lookup n = some v → v = .non) : EnvOk K F (ρ.frzD j d) as σ H (upd G a u) ∧ Gr G as (upd G a u) as ∧ Rep K (upd G a u) d (.ref a) := by
  have sg : Same G (upd G a u) := Same.new (Same.refl _) g
  have hl : j < ρ.ce.length := (List.getElem?_eq_some_iff.mp hj).1
  obtain ⟨fa, hw, _⟩ := e.ce j _ a hj ha
  refine ⟨⟨⟨e.kp.n.frz g ko, e.kp.k⟩, fun b o h => ?_, e.fh, fun b o h => ?_, Same.trans e.g0 sg, e.nd, e.pr, by rw [e.ln]; exact (List.length_set).symm, fun i c b hc hb => ?_, by rw [e.sn]; exact (List.length_map _).symm, fun i av hi => ?_, by obtain ⟨Ts, r⟩ := e.rg; exact r.setC ha (fun _ _ z => by cases z) (fun b u _ h => h) (fun b _ n _ z => by rw [upd_ne n]; exact z) sg⟩, ⟨sg, [], by simp⟩, ra⟩
  · by_cases q : b = a
    · subst q; rw [er_at] at h; rw [hu]; exact h
    · rw [er_ne q] at h; exact e.gh _ _ h
  · by_cases q : b = a
    · subst q; exact .inr fa
    · rw [upd_ne q] at h; exact e.fg _ _ h
  · have hc' : (ρ.ce.set j .gone)[i]? = some c := hc
    by_cases hij : j = i
    · subst hij
      rw [List.getElem?_set_self hl] at hc'
      cases hc'
      rw [ha] at hb
      cases hb
      exact ⟨fa, hw, trivial⟩
    · rw [List.getElem?_set_ne hij] at hc'
      obtain ⟨f, hu2, ok2⟩ := e.ce i c b hc' hb
      have nb : b ≠ a := fun z => by
        subst z
        exact hij ((List.getElem?_inj (List.getElem?_eq_some_iff.mp ha).1 e.nd).mp (ha.trans hb.symm))
      refine ⟨f, hu2, ?_⟩
      cases c with
      | gone => trivial
      | lst ds => obtain ⟨g, vs, h, r⟩ := ok2; exact ⟨by rw [upd_ne nb]; exact g, vs, h, Reps.mono sg _ _ r⟩
      | ins C9 ns9 ds => obtain ⟨g, dx9, vs, h, ln9, r⟩ := ok2; exact ⟨by rw [upd_ne nb]; exact g, dx9, vs, h, ln9, Reps.mono sg _ _ r⟩
      | drw => obtain ⟨g, vs, h, r⟩ := ok2; exact ⟨by rw [upd_ne nb]; exact g, vs, h, r⟩
      | reg t X => show upd G a u b = none; rw [upd_ne nb]; exact ok2
      | oth X => obtain ⟨g, o9, h, r⟩ := ok2; exact ⟨by rw [upd_ne nb]; exact g, o9, h, X.mono (fun _ _ z => .inl (sg _ _ z)) r⟩
  · have hi' : (ρ.sl.map (fun o => o.map (frzA j d)))[i]? = some (some av) := hi
    rw [List.getElem?_map] at hi'
    obtain ⟨o, ho, eo⟩ := Option.map_eq_some_iff.mp hi'
    obtain ⟨x, rfl, rfl⟩ := Option.map_eq_some_iff.mp eo
    obtain ⟨v, hv2, r⟩ := e.sl i x ho
    refine ⟨v, hv2, ?_⟩
    cases x with
    | dat d => exact Rep.mono sg _ _ r
    | tup xs =>
      obtain ⟨p, vs, rfl, s, rs⟩ := r
      exact ⟨p, vs, rfl, Same.seqT sg s, TNs.frz sg ha ra _ _ rs⟩
    | cel m =>
      obtain ⟨b, hb, rfl⟩ := r
      show RepA K _ as (if m = j then .dat d else .cel m) _
      by_cases q : m = j
      · subst q
        rw [if_pos rfl]
        rw [ha] at hb
        cases hb
        exact ra
      · rw [if_neg q]
        exact ⟨b, hb, rfl⟩
theorem EnvOk.frzD {as : List Addr} {σ : L2.St} {H G : Hp} {j : Nat} {a : Addr} {c0 : Cell} {d : D} (e : EnvOk K F ρ as σ H G) (hj : ρ.ce[j]? = some c0) (ha : as[j]? = some a) (hd : celD c0 = some d) : ∃ o, EnvOk K F (ρ.frzD j d) as σ H (upd G a o) ∧ Gr G as (upd G a o) as ∧ Rep K (upd G a o) d (.ref a) := by
  obtain ⟨fa, ⟨u, hu⟩, ok⟩ := e.ce j _ a hj ha
  obtain ⟨⟨g, ra⟩, ko⟩ : (G a = none ∧ Rep K (upd G a u) d (.ref a)) ∧ ∀ C dx fs, u = .ins C dx fs → isLn fs = true → ∀ gs, H a = some (.ins C dx gs) → ∀ n v, hidN n = true → gs.lookup n = some v → v = .non := by
    cases c0 with
    | gone => cases hd
    | drw => cases hd
    | oth _ => cases hd
    | reg _ _ => cases hd
    | lst ds =>
      cases hd
      obtain ⟨g, vs, hv, hr⟩ := ok
      rw [hu] at hv
      cases hv
      exact ⟨⟨g, .lst upd_same (Reps.mono (Same.new (Same.refl _) g) _ _ hr)⟩, fun _ _ _ z => by cases z⟩
    | ins C ns ds =>
      have hd : (if okFz ns ds = true then some (D.obj C ns ds) else none) = some d := hd
      split at hd
      · rename_i fz
        cases hd
        obtain ⟨g, dx, vs, hv, hl, hr⟩ := ok
        rw [hu] at hv
        cases hv
        refine ⟨⟨g, .obj upd_same hl (Reps.mono (Same.new (Same.refl _) g) _ _ hr)⟩, fun C2 dx2 fs z l gs hg n v q m => ?_⟩
        cases z
        rw [hu] at hg
        cases hg
        rw [isLn_zip (by rw [hr.length]; exact hl)] at l
        unfold okFz at fz
        rw [l] at fz
        exact okI_non fz hr q m
      · cases hd
  exact ⟨u, e.frzU hj ha (er_of hu) g ra ko⟩
theorem EnvOk.frz {as : List Addr} {σ : L2.St} {H G : Hp} {j : Nat} {a : Addr} {ds : List D} (e : EnvOk K F ρ as σ H G) (hj : ρ.ce[j]? = some (.lst ds)) (ha : as[j]? = some a) : ∃ o, EnvOk K F (ρ.frz j ds) as σ H (upd G a o) ∧ Gr G as (upd G a o) as ∧ Rep K (upd G a o) (.lst ds) (.ref a) := e.frzD hj ha rfl
/-- values that become data -/
inductive Frz : List AV → En → List D → En → Prop
  | nil {ρ : En} : Frz [] ρ [] ρ
  | dat {d : D} {xs : List AV} {ρ ρ' : En} {ds : List D} : Frz xs ρ ds ρ' → Frz (.dat d :: xs) ρ (d :: ds) ρ'
  | cel {j : Nat} {es : List D} {xs : List AV} {ρ ρ' : En} {ds : List D} : ρ.ce[j]? = some (.lst es) → Frz xs (ρ.frz j es) ds ρ' → Frz (.cel j :: xs) ρ (.lst es :: ds) ρ'
  | ins {j : Nat} {C : Addr} {ns : List Str} {es : List D} {xs : List AV} {ρ ρ' : En} {ds : List D} (fz : okFz ns es = true := by rfl) : ρ.ce[j]? = some (.ins C ns es) → Frz xs (ρ.frzD j (.obj C ns es)) ds ρ' → Frz (.cel j :: xs) ρ (.obj C ns es :: ds) ρ'
theorem Frz.run {xs : List AV} {ρ' : En} {ds : List D} (f : Frz xs ρ ds ρ') : ∀ {as : List Addr} {σ : L2.St} {H G : Hp} {vs : List V}, EnvOk K F ρ as σ H G → RepAs K G as xs vs → ∃ G', EnvOk K F ρ' as σ H G' ∧ Gr G as G' as ∧ Reps K G' ds vs := by
  induction f with
  | nil => intro as σ H G vs e r; cases r; exact ⟨G, e, .refl, .nil⟩
  | dat _ ih =>
    intro as σ H G vs e r
    cases r with
    | cons a b =>
      obtain ⟨G', e', g, r'⟩ := ih e b
      exact ⟨G', e', g, .cons (Rep.mono g.g _ _ a) r'⟩
  | cel hc _ ih =>
    intro as σ H G vs e r
    cases r with
    | cons a b =>
      obtain ⟨p, hp, rfl⟩ := a
      obtain ⟨ws, e1, g1, r1⟩ := e.frz hc hp
      obtain ⟨G', e', g, r'⟩ := ih e1 (b.mono g1)
      exact ⟨G', e', g1.trans g, .cons (Rep.mono g.g _ _ r1) r'⟩
  | ins fz hc _ ih =>
    intro as σ H G vs e r
    cases r with
    | cons a b =>
      obtain ⟨p, hp, rfl⟩ := a
      obtain ⟨ws, e1, g1, r1⟩ := e.frzD hc hp (if_pos fz)
      obtain ⟨G', e', g, r'⟩ := ih e1 (b.mono g1)
      exact ⟨G', e', g1.trans g, .cons (Rep.mono g.g _ _ r1) r'⟩
theorem we_tup {t : TA} (h : WpA K F t ρ fun xs ρ1 => ∃ ds ρ2, Frz xs ρ1 ds ρ2 ∧ Nat.ble ds.length 1000 = true ∧ k (.dat (.tup ds)) ρ2) : WpE K F (tTup t) ρ k := fun as σ H G e Q q =>
  h as σ H G e _ fun xs ρ1 vs as1 H1 G1 ⟨ds, ρ2, fz, hl, hk⟩ e1 g1 r1 => by
    obtain ⟨G2, e2, g2, r2⟩ := fz.run e1 r1
    refine ⟨sz (by rw [r2.length]; exact hl), fun p hp => ?_⟩
    obtain ⟨e3, g3⟩ := e2.newG (o := .tup vs) hp
    exact q _ _ _ _ _ _ hk e3 (g1.trans (g2.trans g3)) (Rep.tup (SqT.of upd_same) (Reps.mono g3.g _ _ r2))
def En.add (ρ : En) (ds : List D) : En := ⟨ρ.sl, ρ.ce ++ [.lst ds]⟩
theorem RepA.last {as : List Addr} {G : Hp} {p : Addr} {n : Nat} (h : as.length = n) : RepA K G (as ++ [p]) (.cel n) (.ref p) := ⟨p, by rw [List.getElem?_append_right (by omega), h]; simp, rfl⟩
theorem we_lst {t : TA} (h : WpA K F t ρ fun xs ρ1 => ∃ ds ρ2, Frz xs ρ1 ds ρ2 ∧ Nat.ble ds.length 1000 = true ∧ k (.cel ρ2.ce.length) (ρ2.add ds)) : WpE K F (tLst t) ρ k := fun as σ H G e Q q =>
  h as σ H G e _ fun xs ρ1 vs as1 H1 G1 ⟨ds, ρ2, fz, hl, hk⟩ e1 g1 r1 => by
    obtain ⟨G2, e2, g2, r2⟩ := fz.run e1 r1
    refine ⟨sz (by rw [r2.length]; exact hl), fun p hp => ?_⟩
    obtain ⟨e3, g3⟩ := e2.newC hp r2
    exact q _ _ _ _ _ _ hk e3 (g1.trans (g2.trans g3)) (RepA.last e2.ln)
end
/-! ### rules of the data layer: lists that are written to, loops, comprehensions -/
section
variable {K : PySem.W.Frag} {F : Fx} {ρ : En} {k : AV → En → Prop} {kb : Bool → En → Prop} {ks : KS} {t u : TS} {ta tb te : TE} {tt tu : TT}
def lstC : Cell → Bool
  | .lst _ => true
  | .drw => true
  | _ => false
def En.cell (ρ : En) (j : Nat) (c : Cell) : En := ⟨ρ.sl, ρ.ce.set j c⟩
theorem we_bm {r : V → List V → Hp → VK → Prop} {t : TA} (h : WpE K F ta ρ fun x ρ1 => (∃ j c, x = .cel j ∧ ρ1.ce[j]? = some c ∧ lstC c = true) ∧ WpA K F t ρ1 fun xs ρ2 => WpM K F r x xs ρ2 k) : WpE K F (tBM K "list" r ta t) ρ k := fun as σ H G e Q q =>
  h as σ H G e _ fun x ρ1 vx as1 H1 G1 ⟨⟨j, c, ex, hc, hg⟩, h1⟩ e1 g1 r1 => by
    subst ex
    obtain ⟨a, ha, rfl⟩ := id r1
    refine ⟨.inl ⟨rfl, ?_⟩, h1 as1 σ H1 G1 e1 _ fun xs ρ2 vs as2 H2 G2 h2 e2 g2 r2 => h2 as2 σ H2 G2 _ vs e2 (r1.mono g2) r2 Q (q.imp (g1.trans g2) fun _ _ z => z)⟩
    obtain ⟨_, _, ok⟩ := e1.ce j c a hc ha
    cases c with
    | gone => cases hg
    | oth _ => cases hg
    | reg _ _ => cases hg
    | ins _ _ _ => cases hg
    | lst ds => obtain ⟨_, vs, h, _⟩ := ok; exact ⟨vs, SqL.of h⟩
    | drw => obtain ⟨_, vs, h, _⟩ := ok; exact ⟨vs, SqL.of h⟩
theorem we_bm0 {r : V → List V → Hp → VK → Prop} (h : WpE K F ta ρ fun x ρ1 => (∃ j c, x = .cel j ∧ ρ1.ce[j]? = some c ∧ lstC c = true) ∧ WpM K F r x [] ρ1 k) : WpE K F (tBM0 K "list" r ta) ρ k := fun as σ H G e Q q =>
  h as σ H G e _ fun x ρ1 vx as1 H1 G1 ⟨⟨j, c, ex, hc, hg⟩, h1⟩ e1 g1 r1 => by
    subst ex
    obtain ⟨a, ha, rfl⟩ := id r1
    refine ⟨.inl ⟨rfl, ?_⟩, h1 as1 σ H1 G1 _ [] e1 r1 .nil Q (q.imp g1 fun _ _ z => z)⟩
    obtain ⟨_, _, ok⟩ := e1.ce j c a hc ha
    cases c with
    | gone => cases hg
    | oth _ => cases hg
    | reg _ _ => cases hg
    | ins _ _ _ => cases hg
    | lst ds => obtain ⟨_, vs, h, _⟩ := ok; exact ⟨vs, SqL.of h⟩
    | drw => obtain ⟨_, vs, h, _⟩ := ok; exact ⟨vs, SqL.of h⟩
theorem wm_append {j : Nat} {x : AV} {ds : List D} {d : D} {ρ2 : En} (fz : Frz [x] ρ [d] ρ2) (hc : ρ2.ce[j]? = some (.lst ds)) (hl : ds.length < 16000000) (hk : k (.dat .non) (ρ2.cell j (.lst (ds ++ [d])))) : WpM K F rAppend (.cel j) [x] ρ k := fun as σ H G v vs e r1 r2 Q q => by
  obtain ⟨G2, e2, g2, r3⟩ := fz.run e r2
  obtain ⟨a, ha, rfl⟩ := r1
  cases r3 with
  | cons y z =>
    cases z
    obtain ⟨_, _, g, ws, hw, hr⟩ := e2.ce j _ a hc ha
    refine ⟨a, ws, _, rfl, rfl, hw, szbl (by rw [hr.length]; omega), q _ _ _ as _ G2 hk (e2.setC hc ha g ⟨g, _, upd_same, hr.append (.cons y .nil)⟩) g2 Rep.non⟩
theorem wm_clear {j : Nat} {ds : List D} (hc : ρ.ce[j]? = some (.lst ds)) (hk : k (.dat .non) (ρ.cell j (.lst []))) : WpM K F rClear (.cel j) [] ρ k := fun as σ H G v vs e r1 r2 Q q => by
  obtain ⟨a, ha, rfl⟩ := r1
  cases r2
  obtain ⟨_, _, g, ws, hw, hr⟩ := e.ce j _ a hc ha
  exact ⟨a, ws, rfl, rfl, hw, q _ _ _ as _ G hk (e.setC hc ha g ⟨g, _, upd_same, .nil⟩) .refl Rep.non⟩
/-- the answer is a new list -/
theorem new_list {as : List Addr} {σ : L2.St} {H G : Hp} {p : Addr} {vs : List V} {ds : List D} {Q : VK} (e : EnvOk K F ρ as σ H G) (q : Got K F ρ as σ G k Q) (hr : Reps K G ds vs) (hk : k (.cel ρ.ce.length) (ρ.add ds)) (hp : H p = none) : Q (.ref p) (upd H p (.lst vs)) := by
  obtain ⟨e3, g3⟩ := e.newC hp hr
  exact q _ _ _ _ _ _ hk e3 g3 (RepA.last e.ln)
theorem wc_list {x : AV} {ds : List D} (hx : IsL ρ x ds) (hk : k (.cel ρ.ce.length) (ρ.add ds)) : WpC K F (fun xs H Q => ∃ p ys, xs = [.ref p] ∧ (SqL K H p ys ∨ SqT K H p ys) ∧ ∀ l, H l = none → Q (.ref l) (upd H l (.lst ys))) [x] ρ k := fun as σ H G vs e r Q q => by
  cases r with
  | cons r c =>
    cases c
    obtain ⟨a, vs, rfl, hs, hr⟩ := hx.rep e r
    exact ⟨a, vs, rfl, .inl hs, fun p hp => new_list e q hr hk hp⟩
theorem wc_listT {ds : List D} (hk : k (.cel ρ.ce.length) (ρ.add ds)) : WpC K F (fun xs H Q => ∃ p ys, xs = [.ref p] ∧ (SqL K H p ys ∨ SqT K H p ys) ∧ ∀ l, H l = none → Q (.ref l) (upd H l (.lst ys))) [.dat (.tup ds)] ρ k := fun as σ H G vs e r Q q => by
  cases r with
  | cons r c =>
    cases c
    obtain ⟨a, vs, rfl, hs, hr⟩ := Rep.tupE r
    exact ⟨a, vs, rfl, .inr (e.gT hs), fun p hp => new_list e q hr hk hp⟩
theorem wc_tuple {x : AV} {ds : List D} (hx : IsL ρ x ds) (hk : k (.dat (.tup ds)) ρ) : WpC K F (fun xs H Q => ∃ p ys, xs = [.ref p] ∧ ((SqL K H p ys ∧ ∀ l, H l = none → Q (.ref l) (upd H l (.tup ys))) ∨ (SqT K H p ys ∧ Q (.ref p) H))) [x] ρ k := fun as σ H G vs e r Q q => by
  cases r with
  | cons r c =>
    cases c
    obtain ⟨a, vs, rfl, hs, hr⟩ := hx.rep e r
    refine ⟨a, vs, rfl, .inl ⟨hs, fun p hp => ?_⟩⟩
    obtain ⟨e3, g3⟩ := e.newG (o := .tup vs) hp
    exact q _ _ _ _ _ _ hk e3 g3 (Rep.tup (SqT.of upd_same) (Reps.mono g3.g _ _ hr))
theorem wr_cat {x y : AV} {ds es : List D} (hx : IsL ρ x ds) (hy : IsL ρ y es) (hl : ds.length + es.length ≤ 16000000) (hk : k (.cel ρ.ce.length) (ρ.add (ds ++ es))) : WpR K F (rCatF K) x y ρ k := fun as σ H G vx vy e r1 r2 Q q => by
  obtain ⟨a, vs, rfl, hs, hr⟩ := hx.rep e r1
  obtain ⟨b, ws, rfl, hs2, hr2⟩ := hy.rep e r2
  exact ⟨a, b, vs, ws, rfl, rfl, hs, hs2, szb (by rw [hr.length, hr2.length]; exact hl), fun p hp => new_list e q (hr.append hr2) hk hp⟩
/-- a list that may be copied whole: data, or a cell -/
inductive IsP (ρ : En) : AV → List D → Prop
  | dat (ds : List D) : IsP ρ (.dat (.lst ds)) ds
  | cel {j : Nat} {ds : List D} : ρ.ce[j]? = some (.lst ds) → IsP ρ (.cel j) ds
theorem IsP.rep {as : List Addr} {σ : L2.St} {H G : Hp} {x : AV} {ds : List D} {v : V} (e : EnvOk K F ρ as σ H G) (h : IsP ρ x ds) (r : RepA K G as x v) : ∃ a vs, v = .ref a ∧ H a = some (.lst vs) ∧ Reps K G ds vs := by
  cases h with
  | dat => obtain ⟨a, vs, rfl, hs, hr⟩ := Rep.lstE r; exact ⟨a, vs, rfl, e.gL hs, hr⟩
  | cel hc =>
    obtain ⟨a, ha, rfl⟩ := r
    obtain ⟨_, _, _, vs, hv, hr⟩ := e.ce _ _ a hc ha
    exact ⟨a, vs, rfl, hv, hr⟩
theorem wr_rep {x : AV} {ds : List D} {n : Int} (hx : IsP ρ x ds) (h0 : 0 ≤ n) (h1 : n < 1000000) (hl : ds.length * n.toNat ≤ 16000000) (hk : k (.cel ρ.ce.length) (ρ.add (List.replicate n.toNat ds).flatten)) : WpR K F rRep x (.dat (.int n)) ρ k := fun as σ H G vx vy e r1 r2 Q q => by
  obtain ⟨a, vs, rfl, hs, hr⟩ := hx.rep e r1
  exact ⟨a, n, vs, rfl, Rep.intE r2, hs, by omega, by omega, szb (by rw [hr.length]; exact hl), fun p hp => new_list e q (hr.rep n.toNat) hk hp⟩
theorem wm_extend {j : Nat} {x : AV} {ds es : List D} (hx : IsP ρ x es) (hc : ρ.ce[j]? = some (.lst ds)) (hl : ds.length + es.length ≤ 16000000) (hk : k (.dat .non) (ρ.cell j (.lst (ds ++ es)))) : WpM K F rExtend (.cel j) [x] ρ k := fun as σ H G v vs e r1 r2 Q q => by
  obtain ⟨a, ha, rfl⟩ := r1
  cases r2 with
  | cons r2 r3 =>
    cases r3
    obtain ⟨b, ws, rfl, hw, hr⟩ := hx.rep e r2
    obtain ⟨_, _, g, us, hu, hr2⟩ := e.ce j _ a hc ha
    exact ⟨a, b, us, ws, rfl, rfl, hu, hw, szb (by rw [hr.length, hr2.length]; omega), q _ _ _ as _ G hk (e.setC hc ha g ⟨g, _, upd_same, hr2.append hr⟩) .refl Rep.non⟩
def cutD (xs : List D) (lo hi : Option Int) : List D := (xs.drop (HT.sIx xs.length 0 lo)).take (HT.sIx xs.length xs.length hi - HT.sIx xs.length 0 lo)
theorem Reps.cut {G : Hp} {ds : List D} {vs : List V} (h : Reps K G ds vs) (lo hi : Option Int) : Reps K G (cutD ds lo hi) (cutV vs lo hi) := by
  unfold cutD cutV
  rw [h.length]
  exact (h.drop _).take _
def WpO (K : PySem.W.Frag) (F : Fx) (t : TO) (ρ : En) (k : Option Int → En → Prop) : Prop := ∀ as σ H G, EnvOk K F ρ as σ H G → ∀ Q : Option Int → Hp → Prop, (∀ b ρ' as' H' G', k b ρ' → EnvOk K F ρ' as' σ H' G' → Gr G as G' as' → Q b H') → t σ H Q
theorem wo_none {ko : Option Int → En → Prop} (h : ko none ρ) : WpO K F tNoPart ρ ko := fun as σ H G e Q q => q _ _ _ _ _ h e .refl
theorem wo_some {ko : Option Int → En → Prop} (h : WpE K F te ρ fun x ρ1 => ∃ i, x = .dat (.int i) ∧ ko (some i) ρ1) : WpO K F (tPart te) ρ ko := fun as σ H G e Q q =>
  h as σ H G e _ fun x ρ1 vx as1 H1 G1 ⟨c, ex, hc⟩ e1 g1 r1 => by
    subst ex
    exact ⟨c, Rep.intE r1, q _ _ _ _ _ hc e1 g1⟩
theorem we_slL {tl th : TO} (h : WpE K F te ρ fun x ρ1 => WpO K F tl ρ1 fun lo ρ2 => WpO K F th ρ2 fun hi ρ3 => ∃ ds, IsL ρ3 x ds ∧ k (.cel ρ3.ce.length) (ρ3.add (cutD ds lo hi))) : WpE K F (tSl (rSlL K) te tl th) ρ k := fun as σ H G e Q q =>
  h as σ H G e _ fun x ρ1 vx as1 H1 G1 h1 e1 g1 r1 => h1 as1 σ H1 G1 e1 _ fun lo ρ2 as2 H2 G2 h2 e2 g2 => h2 as2 σ H2 G2 e2 _ fun hi ρ3 as3 H3 G3 ⟨ds, hd, h3⟩ e3 g3 => by
    obtain ⟨a, vs, rfl, hs, hr⟩ := hd.rep e3 (r1.mono (g2.trans g3))
    exact ⟨a, vs, rfl, hs, fun p hp => new_list e3 (q.imp (g1.trans (g2.trans g3)) fun _ _ z => z) (hr.cut lo hi) h3 hp⟩
/-! what is walked -/
def ItS (K : PySem.W.Frag) (F : Fx) (J : It) (ds : List D) (gd : En → Prop) (as0 : List Addr) (G0 : Hp) : Prop := ∀ ρ as σ H G, EnvOk K F ρ as σ H G → Gr G0 as0 G as → gd ρ →
  (∀ i, i < ds.length → J.go i H) ∧ J.stop ds.length H ∧ ∀ i x H', i < ds.length → J.yld i H x H' → ∃ d G', ds[i]? = some d ∧ (∀ σ', EnvOk K F ρ as σ' H G → EnvOk K F ρ as σ' H' G') ∧ Gr G as G' as ∧ Rep K G' d x
def WpI (K : PySem.W.Frag) (F : Fx) (wi : TI) (ρ : En) (k : List D → (En → Prop) → En → Prop) : Prop := ∀ as σ H G, EnvOk K F ρ as σ H G → ∀ R : It → Hp → Prop, (∀ ds gd J ρ' as' H' G', k ds gd ρ' → EnvOk K F ρ' as' σ H' G' → Gr G as G' as' → ItS K F J ds gd as' G' → R J H') → wi σ H R
theorem wi_list {ki : List D → (En → Prop) → En → Prop} {tl : TE} (h : WpE K F tl ρ fun x ρ1 => ∃ ds, IsL ρ1 x ds ∧ ki ds (fun ρ2 => IsL ρ2 x ds) ρ1) : WpI K F (iList K tl) ρ ki := fun as σ H G e R q =>
  h as σ H G e _ fun x ρ1 vx as1 H1 G1 ⟨ds, hx, h1⟩ e1 g1 r1 => by
    obtain ⟨a, vs, rfl, hs, hr⟩ := hx.rep e1 r1
    refine ⟨a, rfl, ⟨vs, hs⟩, q _ _ _ _ _ _ _ h1 e1 g1 fun ρ2 as2 σ2 H2 G2 e2 g2 hx2 => ?_⟩
    obtain ⟨a2, ws, ea, hs2, hr2⟩ := hx2.rep e2 (r1.mono g2)
    cases ea
    have w := walk_list (K := K) (a := a) (xs := ws)
    rw [hr2.length] at w
    refine ⟨fun i hi => w.goes i H2 hi hs2, w.stops H2 hs2, fun i x H' hi y => ?_⟩
    obtain ⟨rfl, hx⟩ := w.yields i H2 x H' hi hs2 y
    obtain ⟨d, hd⟩ : ∃ d, ds[i]? = some d := ⟨_, List.getElem?_eq_getElem hi⟩
    obtain ⟨v, hv, rv⟩ := hr2.get hd
    rw [hx] at hv
    cases hv
    exact ⟨d, G2, hd, fun _ z => z, .refl, rv⟩
theorem wi_tup {ki : List D → (En → Prop) → En → Prop} {tl : TE} (h : WpE K F tl ρ fun x ρ1 => ∃ ds, x = .dat (.tup ds) ∧ ki ds (fun _ => True) ρ1) : WpI K F (iTup K tl) ρ ki := fun as σ H G e R q =>
  h as σ H G e _ fun x ρ1 vx as1 H1 G1 ⟨ds, ex, h1⟩ e1 g1 r1 => by
    subst ex
    obtain ⟨a, vs, rfl, hs, hr⟩ := Rep.tupE r1
    refine ⟨a, rfl, ⟨vs, e1.gT hs⟩, q _ _ _ _ _ _ _ h1 e1 g1 fun ρ2 as2 σ2 H2 G2 e2 g2 _ => ?_⟩
    have hs2 := e2.gT (Same.seqT g2.g hs)
    have w := walk_tup (K := K) (a := a) (xs := vs)
    rw [hr.length] at w
    refine ⟨fun i hi => w.goes i H2 hi hs2, w.stops H2 hs2, fun i x H' hi y => ?_⟩
    obtain ⟨rfl, hx⟩ := w.yields i H2 x H' hi hs2 y
    obtain ⟨d, hd⟩ : ∃ d, ds[i]? = some d := ⟨_, List.getElem?_eq_getElem hi⟩
    obtain ⟨v, hv, rv⟩ := hr.get hd
    rw [hx] at hv
    cases hv
    exact ⟨d, G2, hd, fun _ z => z, .refl, Rep.mono g2.g _ _ rv⟩
def rngD (lo : Int) (n : Nat) : List D := (List.range n).map fun (i : Nat) => D.int (lo + i)
theorem its_range {lo : Int} {n : Nat} {as : List Addr} {G : Hp} : ItS K F (Itr lo n) (rngD lo n) (fun _ => True) as G := fun ρ2 as2 σ2 H2 G2 e2 g2 _ => by
  have w := walk_range (lo := lo) (n := n)
  have ln : (rngD lo n).length = n := by unfold rngD; rw [List.length_map, List.length_range]
  refine ⟨fun i hi => w.goes i H2 (ln ▸ hi) trivial, by rw [ln]; exact w.stops H2 trivial, fun i x H' hi y => ?_⟩
  obtain ⟨rfl, rfl⟩ := w.yields i H2 x H' (ln ▸ hi) trivial y
  exact ⟨.int (lo + i), G2, by unfold rngD; rw [List.getElem?_map, List.getElem?_range (ln ▸ hi)]; rfl, fun _ z => z, .refl, Rep.int _⟩
theorem wi_rng1 {ki : List D → (En → Prop) → En → Prop} {t : TA} (h : WpA K F t ρ fun xs ρ1 => ∃ j : Int, xs = [.dat (.int j)] ∧ (-(2 ^ 62) ≤ j ∧ j < 2 ^ 62) ∧ ki (rngD 0 j.toNat) (fun _ => True) ρ1) : WpI K F (iRng1 t) ρ ki := fun as σ H G e R q =>
  h as σ H G e _ fun xs ρ1 vs as1 H1 G1 ⟨j, ex, hj, h1⟩ e1 g1 r1 => by
    subst ex
    cases r1 with
    | cons a b => cases b; exact ⟨j, by rw [Rep.intE a], hj.1, hj.2, q _ _ _ _ _ _ _ h1 e1 g1 its_range⟩
theorem wi_rng2 {ki : List D → (En → Prop) → En → Prop} {t : TA} (h : WpA K F t ρ fun xs ρ1 => ∃ i j : Int, xs = [.dat (.int i), .dat (.int j)] ∧ (-(2 ^ 62) ≤ i ∧ i < 2 ^ 62 ∧ -(2 ^ 62) ≤ j ∧ j < 2 ^ 62) ∧ ki (rngD i (j - i).toNat) (fun _ => True) ρ1) : WpI K F (iRng2 t) ρ ki := fun as σ H G e R q =>
  h as σ H G e _ fun xs ρ1 vs as1 H1 G1 ⟨i, j, ex, hj, h1⟩ e1 g1 r1 => by
    subst ex
    cases r1 with
    | cons a b => cases b with | cons b c => cases c; exact ⟨i, j, by rw [Rep.intE a, Rep.intE b], hj, q _ _ _ _ _ _ _ h1 e1 g1 its_range⟩
/-! for -/
/-- cells that a turn made are forgotten -/
def truA (n : Nat) : AV → Option AV
  | .cel j => if j < n then some (.cel j) else none
  | .dat d => some (.dat d)
  | .tup _ => none
theorem pre_take {α : Type} {xs ys : List α} {n : Nat} (h : xs <+: ys) (hn : xs.length ≤ n) : xs <+: ys.take n := by
  obtain ⟨r, rfl⟩ := h
  rw [List.take_append, List.take_of_length_le hn]
  exact List.prefix_append _ _
def En.trunc (ρ : En) (n : Nat) : En := ⟨ρ.sl.map (fun o => o.bind (truA n)), ρ.ce.take n⟩
theorem EnvOk.trunc {as : List Addr} {σ : L2.St} {H G : Hp} (e : EnvOk K F ρ as σ H G) (n : Nat) (hn : F.as0.length ≤ n) : EnvOk K F (ρ.trunc n) (as.take n) σ H G := by
  refine ⟨e.kp, e.gh, e.fh, e.fg, e.g0, List.Nodup.sublist (List.take_sublist n as) e.nd, pre_take e.pr hn, ?_, fun j c a hc ha => ?_, ?_, fun i av hi => ?_, ?_⟩
  · show (as.take n).length = (ρ.ce.take n).length
    rw [List.length_take, List.length_take, e.ln]
  · have hc : (ρ.ce.take n)[j]? = some c := hc
    rw [List.getElem?_take] at hc ha
    split at hc
    · rename_i h
      rw [if_pos h] at ha
      exact e.ce j c a hc ha
    · cases hc
  · show σ.length = (ρ.sl.map _).length
    rw [List.length_map]
    exact e.sn
  · have hi : (ρ.sl.map (fun o => o.bind (truA n)))[i]? = some (some av) := hi
    rw [List.getElem?_map] at hi
    obtain ⟨o, ho, eo⟩ := Option.map_eq_some_iff.mp hi
    obtain ⟨x, rfl, ex⟩ := Option.bind_eq_some_iff.mp eo
    obtain ⟨v, hv, r⟩ := e.sl i x ho
    refine ⟨v, hv, ?_⟩
    cases x with
    | dat d => cases ex; exact r
    | tup xs => cases ex
    | cel j =>
      have ex : (if j < n then some (AV.cel j) else none) = some av := ex
      split at ex
      · rename_i h
        cases ex
        obtain ⟨a, ha, rfl⟩ := r
        exact ⟨a, by rw [List.getElem?_take, if_pos h]; exact ha, rfl⟩
      · cases ex
  · obtain ⟨Ts, r⟩ := e.rg
    refine r.sub (fun i t X h => ?_) (fun i b h => ?_) (fun i t X b o _ hb => ⟨(r.pl i b o hb).1, (r.pl i b o hb).2.1, (r.pl i b o hb).2.2.1⟩) (fun _ _ z => .inl z)
    · have h : (ρ.ce.take n)[i]? = some (Cell.reg t X) := h
      rw [List.getElem?_take] at h
      split at h
      · rename_i hi
        exact ⟨h, by rw [List.getElem?_take, if_pos hi]⟩
      · cases h
    · rw [List.getElem?_take] at h
      split at h
      · exact .inr h
      · cases h
theorem Gr.trunc {G0 G : Hp} {as0 as : List Addr} {n : Nat} (g : Gr G0 as0 G as) (h : as0.length ≤ n) : Gr G0 as0 G (as.take n) := by
  obtain ⟨g, r, rfl⟩ := g
  exact ⟨g, r.take (n - as0.length), by rw [List.take_append, List.take_of_length_le h]⟩
/-- .. all but one, which is then the next -/
def kepA (n j : Nat) : AV → Option AV
  | .cel i => if i = j then some (.cel n) else if i < n then some (.cel i) else none
  | .dat d => some (.dat d)
  | .tup _ => none
def En.keep (ρ : En) (n j : Nat) : En := ⟨ρ.sl.map (fun o => o.bind (kepA n j)), ρ.ce.take n ++ (ρ.ce[j]?).toList⟩
theorem EnvOk.keep {as : List Addr} {σ : L2.St} {H G : Hp} (e : EnvOk K F ρ as σ H G) {n j : Nat} (hn : F.as0.length ≤ n) (h1 : n ≤ j) (h2 : j < ρ.ce.length) : EnvOk K F (ρ.keep n j) (as.take n ++ (as[j]?).toList) σ H G := by
  have ja : j < as.length := by rw [e.ln]; exact h2
  have ea : as[j]? = some as[j] := List.getElem?_eq_getElem ja
  have ec : ρ.ce[j]? = some ρ.ce[j] := List.getElem?_eq_getElem h2
  have la : (as.take n).length = n := by rw [List.length_take]; omega
  have lc : (ρ.ce.take n).length = n := by rw [List.length_take]; omega
  have at_a : ∀ i, (as.take n ++ (as[j]?).toList)[i]? = if i < n then as[i]? else if i = n then some as[j] else none := fun i => by
    rw [ea]
    by_cases c : i < n
    · rw [if_pos c, List.getElem?_append_left (by rw [la]; exact c), List.getElem?_take, if_pos c]
    · rw [if_neg c, List.getElem?_append_right (by rw [la]; omega), la]
      by_cases c2 : i = n
      · rw [if_pos c2, c2, Nat.sub_self]; rfl
      · rw [if_neg c2]
        exact List.getElem?_eq_none (by show 1 ≤ i - n; omega)
  have at_c : ∀ i, (ρ.ce.take n ++ (ρ.ce[j]?).toList)[i]? = if i < n then ρ.ce[i]? else if i = n then some ρ.ce[j] else none := fun i => by
    rw [ec]
    by_cases c : i < n
    · rw [if_pos c, List.getElem?_append_left (by rw [lc]; exact c), List.getElem?_take, if_pos c]
    · rw [if_neg c, List.getElem?_append_right (by rw [lc]; omega), lc]
      by_cases c2 : i = n
      · rw [if_pos c2, c2, Nat.sub_self]; rfl
      · rw [if_neg c2]
        exact List.getElem?_eq_none (by show 1 ≤ i - n; omega)
  have sub : (as.take n ++ (as[j]?).toList).Sublist as := by
    rw [ea]
    conv => rhs; rw [← List.take_append_drop n as]
    refine List.Sublist.append (List.Sublist.refl _) (List.singleton_sublist.mpr ?_)
    refine List.mem_of_getElem? (i := j - n) ?_
    rw [List.getElem?_drop, show n + (j - n) = j by omega]
    exact ea
  refine ⟨e.kp, e.gh, e.fh, e.fg, e.g0, List.Nodup.sublist sub e.nd, (pre_take e.pr hn).trans (List.prefix_append _ _), ?_, fun i c a hc ha => ?_, ?_, fun i av hi => ?_, ?_⟩
  · show (as.take n ++ _).length = (ρ.ce.take n ++ _).length
    rw [List.length_append, List.length_append, la, lc, ea, ec]; rfl
  · have hc : (ρ.ce.take n ++ (ρ.ce[j]?).toList)[i]? = some c := hc
    rw [at_c] at hc
    rw [at_a] at ha
    split at hc
    · rename_i h
      rw [if_pos h] at ha
      exact e.ce i c a hc ha
    · rename_i h
      rw [if_neg h] at ha
      split at hc
      · rename_i h3
        rw [if_pos h3] at ha
        exact e.ce j c a (ec.trans hc) (ea.trans ha)
      · cases hc
  · show σ.length = (ρ.sl.map _).length
    rw [List.length_map]
    exact e.sn
  · have hi : (ρ.sl.map (fun o => o.bind (kepA n j)))[i]? = some (some av) := hi
    rw [List.getElem?_map] at hi
    obtain ⟨o, ho, eo⟩ := Option.map_eq_some_iff.mp hi
    obtain ⟨x, rfl, ex⟩ := Option.bind_eq_some_iff.mp eo
    obtain ⟨v, hv, r⟩ := e.sl i x ho
    refine ⟨v, hv, ?_⟩
    cases x with
    | dat d => cases ex; exact r
    | tup xs => cases ex
    | cel k =>
      have ex : (if k = j then some (AV.cel n) else if k < n then some (AV.cel k) else none) = some av := ex
      obtain ⟨a, ha, rfl⟩ := r
      split at ex
      · rename_i h
        cases ex
        subst h
        exact ⟨a, by rw [at_a, if_neg (Nat.lt_irrefl _), if_pos rfl]; exact ea.symm.trans ha, rfl⟩
      · split at ex
        · rename_i h
          cases ex
          exact ⟨a, by rw [at_a, if_pos h]; exact ha, rfl⟩
        · cases ex
  · obtain ⟨Ts, r⟩ := e.rg
    have at_g : ∀ i t X, (ρ.keep n j).ce[i]? = some (Cell.reg t X) → (i < n ∧ ρ.ce[i]? = some (Cell.reg t X)) ∨ (i = n ∧ ρ.ce[j]? = some (Cell.reg t X)) := fun i t X h => by
      have h : (ρ.ce.take n ++ (ρ.ce[j]?).toList)[i]? = some (Cell.reg t X) := h
      rw [at_c] at h
      split at h
      · rename_i q; exact .inl ⟨q, h⟩
      · split at h
        · rename_i q; exact .inr ⟨q, by rw [ec]; exact h⟩
        · cases h
    refine ⟨_, r.map (fun i => match (ρ.keep n j).ce[i]? with | some (.reg _ _) => (if i < n then some i else some j) | _ => none) (fun i t X h => ?_) (fun i i0 h => ?_) (fun i k l h1 h2 => ?_) (fun i b h => ?_) (fun i i0 b o h hb => ⟨(r.pl i0 b o hb).1, (r.pl i0 b o hb).2.1, (r.pl i0 b o hb).2.2.1⟩) (fun _ _ z => .inl z)⟩
    · rcases at_g i t X h with ⟨q, z⟩ | ⟨q, z⟩
      · exact ⟨i, by simp only [h, if_pos q], z, by rw [at_a, if_pos q]⟩
      · subst q
        exact ⟨j, by simp only [h, if_neg (Nat.lt_irrefl _)], z, by rw [at_a, if_neg (Nat.lt_irrefl _), if_pos rfl, ea]⟩
    · split at h
      · rename_i t X z; exact ⟨t, X, z⟩
      · cases h
    · have lt : ∀ {i l}, (match (ρ.keep n j).ce[i]? with | some (.reg _ _) => (if i < n then some i else some j) | _ => none) = some l → (i < n ∧ l = i) ∨ (i = n ∧ l = j) := fun {i l} h => by
        split at h
        · rename_i t X z
          rcases at_g i t X z with ⟨q, _⟩ | ⟨q, _⟩
          · rw [if_pos q] at h; cases h; exact .inl ⟨q, rfl⟩
          · rw [if_neg (by omega)] at h; cases h; exact .inr ⟨q, rfl⟩
        · cases h
      rcases lt h1 with ⟨a1, a2⟩ | ⟨a1, a2⟩ <;> rcases lt h2 with ⟨b1, b2⟩ | ⟨b1, b2⟩ <;> omega
    · refine .inr ?_
      rw [at_a] at h
      split at h
      · rename_i q
        refine ⟨i, h, fun k hk => ?_⟩
        split at hk
        · split at hk
          · cases hk; rfl
          · cases hk; omega
        · cases hk
      · split at h
        · rename_i q
          refine ⟨j, by rw [ea]; exact h, fun k hk => ?_⟩
          split at hk
          · rename_i t X z
            rcases at_g k t X z with ⟨q2, _⟩ | ⟨q2, _⟩
            · rw [if_pos q2] at hk; cases hk; omega
            · omega
          · cases hk
        · cases h
theorem Gr.keep {G0 G : Hp} {as0 as r : List Addr} {n : Nat} (g : Gr G0 as0 G as) (h : as0.length ≤ n) : Gr G0 as0 G (as.take n ++ r) := by
  obtain ⟨g, s, rfl⟩ := g
  exact ⟨g, s.take (n - as0.length) ++ r, by rw [List.take_append, List.take_of_length_le h, List.append_assoc]⟩
/-- .. the cells from n to j are forgotten, what stands behind them moves up -/
def drpA (n j : Nat) : AV → Option AV
  | .cel i => if i < n then some (.cel i) else if i < j then none else some (.cel (i - (j - n)))
  | .dat d => some (.dat d)
  | .tup _ => none
def En.drp (ρ : En) (n j : Nat) : En := ⟨ρ.sl.map (fun o => o.bind (drpA n j)), ρ.ce.take n ++ ρ.ce.drop j⟩
theorem EnvOk.drp {as : List Addr} {σ : L2.St} {H G : Hp} (e : EnvOk K F ρ as σ H G) {n j : Nat} (hn : F.as0.length ≤ n) (h1 : n ≤ j) (h2 : j ≤ ρ.ce.length) : EnvOk K F (ρ.drp n j) (as.take n ++ as.drop j) σ H G := by
  have gen : ∀ {α : Type} (l : List α) (i : Nat), j ≤ l.length → (l.take n ++ l.drop j)[i]? = if i < n then l[i]? else l[i + (j - n)]? := fun l i hl => by
    have lt : (l.take n).length = n := by rw [List.length_take]; omega
    by_cases c : i < n
    · rw [if_pos c, List.getElem?_append_left (by rw [lt]; exact c), List.getElem?_take, if_pos c]
    · rw [if_neg c, List.getElem?_append_right (by rw [lt]; omega), lt, List.getElem?_drop]
      congr 1
      omega
  have ja : j ≤ as.length := by rw [e.ln]; exact h2
  have at_a := fun i => gen as i ja
  have at_c := fun i => gen ρ.ce i h2
  have sub : (as.take n ++ as.drop j).Sublist as := by
    conv => rhs; rw [← List.take_append_drop n as]
    refine List.Sublist.append (List.Sublist.refl _) ?_
    rw [show j = n + (j - n) by omega, ← List.drop_drop]
    exact List.drop_sublist _ _
  refine ⟨e.kp, e.gh, e.fh, e.fg, e.g0, List.Nodup.sublist sub e.nd, (pre_take e.pr hn).trans (List.prefix_append _ _), ?_, fun i c a hc ha => ?_, ?_, fun i av hi => ?_, ?_⟩
  · show (as.take n ++ as.drop j).length = (ρ.ce.take n ++ ρ.ce.drop j).length
    rw [List.length_append, List.length_append, List.length_take, List.length_take, List.length_drop, List.length_drop, e.ln]
  · have hc : (ρ.ce.take n ++ ρ.ce.drop j)[i]? = some c := hc
    rw [at_c] at hc
    rw [at_a] at ha
    split at hc
    · rename_i q; rw [if_pos q] at ha; exact e.ce i c a hc ha
    · rename_i q; rw [if_neg q] at ha; exact e.ce _ c a hc ha
  · show σ.length = (ρ.sl.map _).length
    rw [List.length_map]
    exact e.sn
  · have hi : (ρ.sl.map (fun o => o.bind (drpA n j)))[i]? = some (some av) := hi
    rw [List.getElem?_map] at hi
    obtain ⟨o, ho, eo⟩ := Option.map_eq_some_iff.mp hi
    obtain ⟨x, rfl, ex⟩ := Option.bind_eq_some_iff.mp eo
    obtain ⟨v, hv, r⟩ := e.sl i x ho
    refine ⟨v, hv, ?_⟩
    cases x with
    | dat d => cases ex; exact r
    | tup xs => cases ex
    | cel k =>
      have ex : (if k < n then some (AV.cel k) else if k < j then none else some (AV.cel (k - (j - n)))) = some av := ex
      obtain ⟨a, ha, rfl⟩ := r
      split at ex
      · rename_i q
        cases ex
        exact ⟨a, by rw [at_a, if_pos q]; exact ha, rfl⟩
      · split at ex
        · cases ex
        · rename_i q1 q2
          cases ex
          exact ⟨a, by rw [at_a, if_neg (by omega), show k - (j - n) + (j - n) = k by omega]; exact ha, rfl⟩
  · obtain ⟨Ts, r⟩ := e.rg
    refine ⟨_, r.map (fun i => match (ρ.drp n j).ce[i]? with | some (.reg _ _) => (if i < n then some i else some (i + (j - n))) | _ => none) (fun i t X h => ?_) (fun i i0 h => ?_) (fun i k l h1 h2 => ?_) (fun i b h => ?_) (fun i i0 b o h hb => ⟨(r.pl i0 b o hb).1, (r.pl i0 b o hb).2.1, (r.pl i0 b o hb).2.2.1⟩) (fun _ _ z => .inl z)⟩
    · have hc : (ρ.ce.take n ++ ρ.ce.drop j)[i]? = some (Cell.reg t X) := h
      rw [at_c] at hc
      by_cases q : i < n
      · rw [if_pos q] at hc
        exact ⟨i, by simp only [h, if_pos q], hc, by rw [at_a, if_pos q]⟩
      · rw [if_neg q] at hc
        exact ⟨_, by simp only [h, if_neg q], hc, by rw [at_a, if_neg q]⟩
    · split at h
      · rename_i t X z; exact ⟨t, X, z⟩
      · cases h
    · have lt : ∀ {i l}, (match (ρ.drp n j).ce[i]? with | some (.reg _ _) => (if i < n then some i else some (i + (j - n))) | _ => none) = some l → (i < n ∧ l = i) ∨ (n ≤ i ∧ l = i + (j - n)) := fun {i l} h => by
        split at h
        · by_cases q : i < n
          · rw [if_pos q] at h; cases h; exact .inl ⟨q, rfl⟩
          · rw [if_neg q] at h; cases h; exact .inr ⟨by omega, rfl⟩
        · cases h
      rcases lt h1 with ⟨a1, a2⟩ | ⟨a1, a2⟩ <;> rcases lt h2 with ⟨b1, b2⟩ | ⟨b1, b2⟩ <;> omega
    · refine .inr ?_
      rw [at_a] at h
      split at h
      · rename_i q
        refine ⟨i, h, fun k hk => ?_⟩
        split at hk
        · split at hk
          · cases hk; rfl
          · cases hk; omega
        · cases hk
      · rename_i q
        refine ⟨_, h, fun k hk => ?_⟩
        split at hk
        · split at hk
          · have := Option.some.inj hk; omega
          · have := Option.some.inj hk; omega
        · cases hk
/-- a turn's end: as it is, or without the turn's own cells -/
inductive Tr (n : Nat) (ρ : En) : En → Prop
  | all : Tr n ρ ρ
  | cut : Tr n ρ (ρ.trunc n)
  | keep (j : Nat) (h1 : n ≤ j) (h2 : j < ρ.ce.length) : Tr n ρ (ρ.keep n j)
  | drop (j : Nat) (h1 : n ≤ j) (h2 : j ≤ ρ.ce.length) : Tr n ρ (ρ.drp n j)
theorem Tr.run {n : Nat} {ρ' : En} {as as0 : List Addr} {σ : L2.St} {H G G0 : Hp} (t : Tr n ρ ρ') (e : EnvOk K F ρ as σ H G) (g : Gr G0 as0 G as) (h : as0.length ≤ n) (h0 : F.as0.length ≤ n) : ∃ as', EnvOk K F ρ' as' σ H G ∧ Gr G0 as0 G as' := by
  cases t with
  | all => exact ⟨as, e, g⟩
  | cut => exact ⟨_, e.trunc n h0, g.trunc h⟩
  | keep j h1 h2 => exact ⟨_, e.keep h0 h1 h2, g.keep h⟩
  | drop j h1 h2 => exact ⟨_, e.drp h0 h1 h2, g.keep h⟩
def Loop (K : PySem.W.Frag) (F : Fx) (n : Nat) (gd : En → Prop) (g : TG) (tb : TS) (ks : KS) : List D → En → Prop
  | [], ρ => gd ρ ∧ ks.nx ρ
  | d :: ds, ρ => gd ρ ∧ WpG K F g (.dat d) ρ fun ρ1 => WpS K F tb ρ1 { nx := fun ρ2 => ∃ ρ3, Tr n ρ2 ρ3 ∧ Loop K F n gd g tb ks ds ρ3, rt := ks.rt, ct := fun ρ2 => ∃ ρ3, Tr n ρ2 ρ3 ∧ Loop K F n gd g tb ks ds ρ3, bk := ks.nx }
theorem Loop.gd {n : Nat} {gd : En → Prop} {g : TG} {tb : TS} : ∀ {ds : List D} {ρ : En}, Loop K F n gd g tb ks ds ρ → gd ρ
  | [], _, h => h.1
  | _ :: _, _, h => h.1
theorem ws_for {wi : TI} {g : TG} {tb : TS} (h : WpI K F wi ρ fun ds gd ρ1 => Loop K F ρ1.ce.length gd g tb ks ds ρ1) : WpS K F (tFor wi g tb) ρ ks := fun as σ H G e D q =>
  h as σ H G e _ fun ds gd J ρ1 as1 H1 G1 h1 e1 g1 its => by
    have ln1 : as1.length ≤ ρ1.ce.length := by rw [e1.ln]; exact Nat.le_refl _
    have ln0 : F.as0.length ≤ ρ1.ce.length := Nat.le_trans e1.pr.length_le ln1
    refine ⟨fun i m σ' H' => m = ds.length - i ∧ i ≤ ds.length ∧ ∃ ρ2 as2 G2, EnvOk K F ρ2 as2 σ' H' G2 ∧ Gr G1 as1 G2 as2 ∧ Loop K F ρ1.ce.length gd g tb ks (ds.drop i) ρ2, ⟨_, rfl, Nat.zero_le _, ρ1, as1, G1, e1, .refl, h1⟩, ?_⟩
    rintro i m σ' H' ⟨rfl, hi, ρ2, as2, G2, e2, g2, lp⟩
    obtain ⟨go, st, yl⟩ := its ρ2 as2 σ' H' G2 e2 g2 lp.gd
    by_cases hlt : i < ds.length
    · obtain ⟨d, hd⟩ : ∃ d, ds[i]? = some d := ⟨_, List.getElem?_eq_getElem hlt⟩
      have ed : ds.drop i = d :: ds.drop (i + 1) := by
        rw [List.drop_eq_getElem_cons hlt]
        rw [List.getElem?_eq_getElem hlt] at hd
        cases hd
        rfl
      rw [ed] at lp
      refine .inr ⟨go i hlt, fun σ3 H3 => ∃ ρ3 as3 G3, EnvOk K F ρ3 as3 σ3 H3 G3 ∧ Gr G1 as1 G3 as3 ∧ Loop K F ρ1.ce.length gd g tb ks (ds.drop (i + 1)) ρ3, fun σ3 H3 ⟨ρ3, as3, G3, e3, g3, l3⟩ => ⟨_, by omega, rfl, hlt, ρ3, as3, G3, e3, g3, l3⟩, fun x H3 y => ?_⟩
      obtain ⟨d', G3, hd', e3, g3, rx⟩ := yl i x H3 hlt y
      rw [hd] at hd'
      cases hd'
      refine lp.2 as2 σ' H3 G3 x (e3 _ e2) rx _ fun ρ4 as4 σ4 H4 G4 h4 e4 g4 => ?_
      refine h4 as4 σ4 H4 G4 e4 _ ⟨fun ρ5 as5 σ5 H5 G5 ⟨ρ6, tr, h5⟩ e5 g5 => ?_, fun av ρ5 v as5 σ5 H5 G5 h5 e5 g5 r5 => q.rt av ρ5 v as5 σ5 H5 G5 h5 e5 (g1.trans (g2.trans (g3.trans (g4.trans g5)))) r5, fun ρ5 as5 σ5 H5 G5 h5 e5 g5 => q.nx ρ5 as5 σ5 H5 G5 h5 e5 (g1.trans (g2.trans (g3.trans (g4.trans g5)))), fun ρ5 as5 σ5 H5 G5 ⟨ρ6, tr, h5⟩ e5 g5 => ?_, q.fr⟩
      · obtain ⟨as6, e6, g6⟩ := tr.run e5 (g2.trans (g3.trans (g4.trans g5))) ln1 ln0
        exact ⟨ρ6, as6, G5, e6, g6, h5⟩
      · obtain ⟨as6, e6, g6⟩ := tr.run e5 (g2.trans (g3.trans (g4.trans g5))) ln1 ln0
        exact ⟨ρ6, as6, G5, e6, g6, h5⟩
    · have ei : i = ds.length := by omega
      subst ei
      rw [List.drop_length] at lp
      exact .inl ⟨st, q.nx ρ2 as2 σ' H' G2 lp.2 e2 (g1.trans g2)⟩
/-! while -/
theorem ws_while {tc : TT} {tb : TS} (W : Nat → En → Prop) (m0 : Nat) (h0 : W m0 ρ) (hs : ∀ m ρ1, W m ρ1 → WpT K F tc ρ1 fun b ρ2 => if b = true then WpS K F tb ρ2 { nx := fun ρ3 => ∃ m', m' < m ∧ W m' ρ3, rt := ks.rt, ct := fun ρ3 => ∃ m', m' < m ∧ W m' ρ3, bk := ks.nx } else ks.nx ρ2) : WpS K F (tWhile tc tb) ρ ks := fun as σ H G e D q => by
  refine ⟨fun m σ' H' => ∃ ρ2 as2 G2, EnvOk K F ρ2 as2 σ' H' G2 ∧ Gr G as G2 as2 ∧ W m ρ2, ⟨m0, ρ, as, G, e, .refl, h0⟩, ?_⟩
  rintro m σ' H' ⟨ρ2, as2, G2, e2, g2, hw⟩
  refine hs m ρ2 hw as2 σ' H' G2 e2 _ fun b ρ3 as3 H3 G3 h3 e3 g3 => ?_
  cases b with
  | true =>
    refine ⟨fun σ4 H4 => ∃ m', m' < m ∧ ∃ ρ4 as4 G4, EnvOk K F ρ4 as4 σ4 H4 G4 ∧ Gr G as G4 as4 ∧ W m' ρ4, fun σ4 H4 z => z, ?_⟩
    refine (show WpS K F tb ρ3 _ from h3) as3 σ' H3 G3 e3 _ ⟨fun ρ4 as4 σ4 H4 G4 ⟨m', hm, w4⟩ e4 g4 => ⟨m', hm, ρ4, as4, G4, e4, g2.trans (g3.trans g4), w4⟩, fun av ρ4 v as4 σ4 H4 G4 h4 e4 g4 r4 => q.rt av ρ4 v as4 σ4 H4 G4 h4 e4 (g2.trans (g3.trans g4)) r4, fun ρ4 as4 σ4 H4 G4 h4 e4 g4 => q.nx ρ4 as4 σ4 H4 G4 h4 e4 (g2.trans (g3.trans g4)), fun ρ4 as4 σ4 H4 G4 ⟨m', hm, w4⟩ e4 g4 => ⟨m', hm, ρ4, as4, G4, e4, g2.trans (g3.trans g4), w4⟩, q.fr⟩
  | false => exact q.nx ρ3 as3 σ' H3 G3 h3 e3 (g2.trans g3)
end
/-! ### rules of the data layer: promises and calls -/
inductive RV where
  | dat (d : D)
  | new (ds : List D)
  | prt (xs ds ys : List D)
  | reg (X : RegX)
  | ext (d : D) (X : CellX)
def FrX (as : List Addr) (Ts : Nat → Hp) (G H H' : Hp) : Prop := ∀ a o, a ∉ as → (∀ i, Ts i a = none) → H a = some o → ∃ u, H' a = some u ∧ erO u = erO o ∧ (G a = none → u = o)
def NewA (H : Hp) (as : List Addr) (Ts : Nat → Hp) (a : Addr) : Prop := (H a = none ∨ ∃ i, Ts i a ≠ none) ∧ a ∉ as
def NewG (H G G' : Hp) (Ts : Nat → Hp) : Prop := ∀ a o, G' a = some o → G a = some o ∨ H a = none ∨ ∃ i, Ts i a ≠ none
/-- .. behind an error, where what was lent may be frozen as well -/
def NewX (H G G' : Hp) (as : List Addr) (Ts : Nat → Hp) : Prop := ∀ a o, G' a = some o → G a = some o ∨ H a = none ∨ a ∈ as ∨ ∃ i, Ts i a ≠ none
def noGone : List Cell → Bool
  | [] => true
  | .gone :: _ => false
  | .lst _ :: r => noGone r
  | .drw :: r => noGone r
  | .oth _ :: r => noGone r
  | .reg _ _ :: r => noGone r
  | .ins _ _ _ :: r => noGone r
structure CellsOk (K : PySem.W.Frag) (G H : Hp) (as : List Addr) (cs : List Cell) : Prop where
  ln : as.length = cs.length
  nd : as.Nodup
  ok : ∀ (j : Nat) (c : Cell) (a : Addr), cs[j]? = some c → as[j]? = some a → (∃ o, H a = some o) ∧ CellOk K G H a c
def RepR (K : PySem.W.Frag) (H G' H' : Hp) (as : List Addr) (Ts Ts' : Nat → Hp) : RV → V → Prop
  | .dat d, v => Rep K G' d v
  | .new ds, v => ∃ a vs, v = .ref a ∧ NewA H as Ts a ∧ (∀ i, Ts' i a = none) ∧ G' a = none ∧ H' a = some (.lst vs) ∧ Reps K G' ds vs
  | .prt xs ds ys, v => ∃ p a ws us vs, v = .ref p ∧ SqT K G' p (ws ++ .ref a :: us) ∧ Reps K G' xs ws ∧ Reps K G' ys us ∧ NewA H as Ts a ∧ (∀ i, Ts' i a = none) ∧ G' a = none ∧ H' a = some (.lst vs) ∧ Reps K G' ds vs
  | .reg X, v => ∃ a T, v = .ref a ∧ NewA H as Ts a ∧ (∀ i, Ts' i a = none) ∧ G' a = none ∧ (∃ o, H' a = some o) ∧ X.ok T G' a ∧ ∀ b o, T b = some o → H' b = some o ∧ G' b = none ∧ NewA H as Ts b ∧ ∀ i, Ts' i b = none
  | .ext d X, v => Rep K G' d v ∧ ∃ a o, NewA H as Ts a ∧ (∀ i, Ts' i a = none) ∧ G' a = none ∧ H' a = some o ∧ X.ok G' a o
abbrev PW0 := List AV → List Cell → (RV → List Cell → Prop) → (Addr → Prop) → Prop
/-- a def's promise by data: W tells what is asked of the arguments and what comes -/
def spG (K : PySem.W.Frag) (W : PW0) : Sp := fun vs H Q E => ∃ G as Ts xs cs post exc, Same (er G) (er H) ∧ CellsOk K G H as cs ∧ RegsAt Ts (fun _ => none) G H as cs ∧ RepAs K G as xs vs ∧ W xs cs post exc ∧ ∃ Ck, (KeptG K H G Ck ∧ Same Ck G) ∧
  (∀ r cs' v H' G' Ts', post r cs' → FrX as Ts G H H' → Same G G' → Same (er G') (er H') → NewG H G G' Ts → CellsOk K G' H' as cs' → RegsAt Ts' (fun _ => none) G' H' as cs' → (∀ i b o, Ts' i b = some o → H b = none ∨ b ∈ as ∨ ∃ j, Ts j b ≠ none) → RepR K H G' H' as Ts Ts' r v → KeptN K Ck H H' G' → Q v H') ∧ (∀ C H' G', exc C → FrX as Ts G H H' → Same G G' → Same (er G') (er H') → NewX H G G' as Ts → KeptN K Ck H H' G' → E (.ref C) none H')
theorem RegsAt.noreg {Ts : Nat → Hp} {Fr G H : Hp} {as : List Addr} {cs cs' : List Cell} (r : RegsAt Ts Fr G H as cs) (h : ∀ (j : Nat) t X, cs[j]? ≠ some (Cell.reg t X)) (h' : ∀ (j : Nat) t X, cs'[j]? ≠ some (Cell.reg t X)) : RegsAt Ts Fr G H as cs' := ⟨fun j _ b => r.em j (h j) b, r.dj, r.pl, fun j t X a hc => absurd hc (h' j t X)⟩
theorem RegsAt.no {Fr G H : Hp} {as : List Addr} {cs : List Cell} (h : ∀ (j : Nat) t X, cs[j]? ≠ some (Cell.reg t X)) : RegsAt (fun _ _ => none) Fr G H as cs := ⟨fun _ _ _ => rfl, (fun i j b o u h => nomatch h), (fun i b o h => nomatch h), fun j t X a hc => absurd hc (h j t X)⟩
section
variable {K : PySem.W.Frag} {F : Fx} {ρ : En} {k : AV → En → Prop} {kb : Bool → En → Prop} {ks : KS} {t u : TS} {ta tb te : TE} {tt tu : TT}
/-- what a def hands back: data, or a list that it made -/
inductive FinR (n : Nat) (ρ : En) : AV → RV → Prop
  | dat (d : D) : FinR n ρ (.dat d) (.dat d)
  | cel {j : Nat} {ds : List D} : n ≤ j → ρ.ce[j]? = some (.lst ds) → FinR n ρ (.cel j) (.new ds)
  | prt {j : Nat} {xs ds ys : List D} : n ≤ j → ρ.ce[j]? = some (.lst ds) → FinR n ρ (.tup (xs.map .dat ++ .cel j :: ys.map .dat)) (.prt xs ds ys)
  | ext {j : Nat} {d : D} {X : CellX} : n ≤ j → ρ.ce[j]? = some (.oth X) → FinR n ρ (.dat d) (.ext d X)
  | reg {j : Nat} {t : Option Addr} {X : RegX} : n ≤ j → ρ.ce[j]? = some (Cell.reg t X) → FinR n ρ (.cel j) (.reg X)
def KS.fin (n : Nat) (post : RV → List Cell → Prop) : KS where
  nx := fun ρ => noGone (ρ.ce.take n) = true ∧ post (.dat .non) (ρ.ce.take n)
  rt := fun x ρ => ∃ r, FinR n ρ x r ∧ noGone (ρ.ce.take n) = true ∧ post r (ρ.ce.take n)
theorem noGone_at {cs : List Cell} (h : noGone cs = true) : ∀ {j : Nat}, cs[j]? ≠ some .gone := by
  induction cs with
  | nil => intro j e; simp at e
  | cons c cs ih =>
    intro j e
    cases j with
    | zero => simp at e; subst e; rw [noGone] at h; cases h
    | succ j =>
      have h' : noGone cs = true := by
        cases c <;> first | (rw [noGone] at h; exact h) | (rw [noGone] at h; cases h)
      exact ih h' (by simpa using e)
theorem CellOk.none {G H : Hp} {a : Addr} {c : Cell} (h : CellOk K G H a c) (n : c ≠ .gone) : G a = none := by
  cases c with
  | gone => exact absurd rfl n
  | reg t X => exact h
  | lst ds => exact h.1
  | drw => exact h.1
  | oth X => exact h.1
  | ins C ns ds => exact h.1
theorem RepAs.get {G : Hp} {as : List Addr} {xs : List AV} {vs : List V} (h : RepAs K G as xs vs) : ∀ {i : Nat} {x : AV}, xs[i]? = some x → ∃ v, vs[i]? = some v ∧ RepA K G as x v := by
  induction h with
  | nil => intro i x e; simp at e
  | cons a _ ih =>
    intro i x e
    cases i with
    | zero => simp at e; subst e; exact ⟨_, rfl, a⟩
    | succ i => obtain ⟨v, q, r⟩ := ih (i := i) (by simpa using e); exact ⟨v, by simpa using q, r⟩
theorem TNs.append {G : Hp} {as : List Addr} {xs ys : List TN} {vs ws : List V} (h : TNs K G as xs vs) (k : TNs K G as ys ws) : TNs K G as (xs ++ ys) (vs ++ ws) := by
  induction xs generalizing vs with
  | nil => cases h; exact k
  | cons x xs ih => cases h with | cons a b => exact .cons a (ih b)
theorem TNs.split {G : Hp} {as : List Addr} {xs ys : List TN} {vs : List V} (h : TNs K G as (xs ++ ys) vs) : ∃ ws us, vs = ws ++ us ∧ TNs K G as xs ws ∧ TNs K G as ys us := by
  induction xs generalizing vs with
  | nil => exact ⟨[], vs, rfl, .nil, h⟩
  | cons x xs ih =>
    cases h with
    | cons a b =>
      obtain ⟨ws, us, rfl, h1, h2⟩ := ih b
      exact ⟨_ :: ws, us, rfl, .cons a h1, h2⟩
theorem TNs.of {G : Hp} {as : List Addr} {ds : List D} {vs : List V} (h : Reps K G ds vs) : TNs K G as (ds.map .dat) vs := by
  induction ds generalizing vs with
  | nil => cases h; exact .nil
  | cons d ds ih => cases h with | cons a b => exact .cons (.dat a) (ih b)
theorem TNs.dats {G : Hp} {as : List Addr} {ds : List D} {vs : List V} (h : TNs K G as (ds.map .dat) vs) : Reps K G ds vs := by
  induction ds generalizing vs with
  | nil => cases h; exact .nil
  | cons d ds ih =>
    cases h with
    | cons a b =>
      cases a with
      | dat r => exact .cons r (ih b)
/-- the slots at a def's begin -/
def En.start (n : Nat) (xs : List AV) (cs : List Cell) : En := ⟨xs.map some ++ List.replicate (n - xs.length) none, cs⟩
open Classical in
/-- a def's body by data -/
theorem enterB {N : List Str} {W : PW0} {vs : List V} {H : Hp} {Q : VK} {E : XK} {t : TS} (frv : V → Prop) (hfr : ∀ v H', frv v → Q v H') (h : spG K W vs H Q E) (body : ∀ F xs cs post, (cs = [] → ∀ a, F.Fr a = none → F.Hn a = none) → F.fr = frv → F.E = E → RepAs K F.G0 F.as0 xs vs → W xs cs post F.ex → WpS K F t (En.start N.length xs cs) (KS.fin cs.length post)) : t { nx := fun _ H' => Q .non H', rt := Q } (L2.start N vs) H := by
  obtain ⟨G, as, Ts, xs, cs, post, exc, gh, ok, rg, rx, hw, Ck, ⟨hk1, hk2⟩, hq, he⟩ := h
  let Own : Addr → Prop := fun a => a ∈ as ∨ ∃ i, Ts i a ≠ none
  let Fr : Hp := fun a => if Own a then none else H a
  have fr : ∀ H', FrE Fr G H' → FrX as Ts G H H' := fun H' s a o na nt ha => s a o (by
    show (if Own a then none else H a) = some o
    rw [if_neg (fun z => z.elim na fun ⟨i, z⟩ => z (nt i))]
    exact ha)
  have frN : ∀ {a : Addr}, Fr a = none → H a = none ∨ Own a := fun {a} z => by
    have z' : (if Own a then none else H a) = none := z
    by_cases q : Own a
    · exact .inr q
    · rw [if_neg q] at z'; exact .inl z'
  let F : Fx := ⟨Fr, G, E, exc, Ck, H, fun H' => ∃ G', Same G G' ∧ Same (er G') (er H') ∧ (∀ a o, G' a = some o → G a = some o ∨ Fr a = none) ∧ KeptN K Ck H H' G', fun C H' hc s ⟨G', k1, k2, k3, k4⟩ => he C H' G' hc (fr H' s) k1 k2 (fun a o z => (k3 a o z).imp id fun w => (frN w).imp id id) k4, frv, as⟩
  have ln := rx.length
  have e0 : EnvOk K F (En.start N.length xs cs) as (L2.start N vs) H G := by
    refine ⟨⟨⟨⟨Ck, hk1, hk2, fun _ _ z => .inl z⟩, fun _ z => z⟩, fun H' G' k1 k2 k3 k4 => ⟨G', k1, k2, k3, k4⟩⟩, gh, fun a o h => ?_, fun a o h => .inl h, Same.refl _, ok.nd, List.prefix_refl _, ok.ln, fun j c a hc ha => ?_, ?_, fun i av hi => ?_, ⟨Ts, rg.em, rg.dj, fun i b o h => ?_, rg.ok⟩⟩
    · have h' : (if Own a then none else H a) = some o := h
      by_cases q : Own a
      · rw [if_pos q] at h'; cases h'
      · rw [if_neg q] at h'; exact ⟨o, h', rfl, fun _ => rfl⟩
    · refine ⟨?_, ok.ok j c a hc ha⟩
      show (if Own a then none else H a) = none
      rw [if_pos (.inl (List.mem_of_getElem? ha))]
    · show (vs.map some ++ List.replicate (N.length - vs.length) none).length = (xs.map some ++ List.replicate (N.length - xs.length) none).length
      simp only [List.length_append, List.length_map, List.length_replicate]
      omega
    · have hi' : (xs.map some ++ List.replicate (N.length - xs.length) none)[i]? = some (some av) := hi
      by_cases q : i < xs.length
      · rw [List.getElem?_append_left (by rw [List.length_map]; exact q), List.getElem?_map] at hi'
        obtain ⟨x, hx, ex⟩ := Option.map_eq_some_iff.mp hi'
        cases ex
        obtain ⟨v, hv, r⟩ := rx.get hx
        refine ⟨v, ?_, r⟩
        show (vs.map some ++ List.replicate (N.length - vs.length) none)[i]? = some (some v)
        rw [List.getElem?_append_left (by rw [List.length_map]; omega), List.getElem?_map, hv]
        rfl
      · rw [List.getElem?_append_right (by rw [List.length_map]; omega), List.getElem?_replicate] at hi'
        split at hi' <;> cases hi'
    · obtain ⟨x, y, _, w⟩ := rg.pl i b o h
      refine ⟨x, y, ?_, w⟩
      show (if Own b then none else H b) = none
      rw [if_pos (.inr ⟨i, by rw [h]; exact fun z => nomatch z⟩)]
  -- how it ends
  have fin : ∀ {ρ' : En} {as' : List Addr} {σ' : L2.St} {H' G' : Hp} {Ts1 : Nat → Hp} {r : RV} {v : V}, EnvOk K F ρ' as' σ' H' G' → RegsAt Ts1 F.Fr G' H' as' ρ'.ce → Gr G as G' as' → noGone (ρ'.ce.take cs.length) = true → post r (ρ'.ce.take cs.length) → (∀ Ts', (∀ i b, Ts1 i b = none → Ts' i b = none) → (∀ i b, cs.length ≤ i → Ts' i b = none) → RepR K H G' H' as Ts Ts' r v) → Q v H' := by
    intro ρ' as' σ' H' G' Ts1 r v e rg1 g ng hp rr
    obtain ⟨sg, rs, ea⟩ := g
    have lc : cs.length ≤ ρ'.ce.length := by rw [← e.ln, ea, List.length_append, ok.ln]; omega
    have lt : as.length = (ρ'.ce.take cs.length).length := by rw [List.length_take, ok.ln]; omega
    have ce : ∀ (j : Nat) (c : Cell) (a : Addr), (ρ'.ce.take cs.length)[j]? = some c → as[j]? = some a → ρ'.ce[j]? = some c ∧ as'[j]? = some a := fun j c a hc ha => by
      have hj : j < as.length := (List.getElem?_eq_some_iff.mp ha).1
      refine ⟨?_, by rw [ea, List.getElem?_append_left hj]; exact ha⟩
      rw [List.getElem?_take] at hc
      rw [if_pos (by rw [← ok.ln]; exact hj)] at hc
      exact hc
    obtain ⟨Ts', rg2, sub⟩ := rg1.subS (Fr' := fun _ => none) (G' := G') (H' := H') (as' := as) (cs' := ρ'.ce.take cs.length) (fun i t X h => by
        rw [List.getElem?_take] at h
        split at h
        · rename_i q
          exact ⟨h, by rw [ea, List.getElem?_append_left (by rw [ok.ln]; exact q)]⟩
        · cases h) (fun i b h => .inr (by rw [ea, List.getElem?_append_left (List.getElem?_eq_some_iff.mp h).1]; exact h)) (fun i t X b o _ hb => ⟨(rg1.pl i b o hb).1, (rg1.pl i b o hb).2.1, rfl⟩) (fun _ _ z => .inl z)
    have sub2 : ∀ i b, Ts1 i b = none → Ts' i b = none := fun i b z => by
      cases q : Ts' i b with
      | none => rfl
      | some o => rw [sub i b o q] at z; cases z
    have sub3 : ∀ i b, cs.length ≤ i → Ts' i b = none := fun i b q => rg2.em i (fun t X z => by
      rw [List.getElem?_take] at z
      rw [if_neg (by omega)] at z
      cases z) b
    refine hq r _ v H' G' Ts' hp (fr H' e.fh) sg e.gh (fun a o ha => ?_) ⟨lt, ok.nd, fun j c a hc ha => ?_⟩ rg2 (fun i b o hb => ?_) (rr Ts' sub2 sub3) e.kp.n
    · rcases e.fg a o ha with z | z
      · exact .inl z
      · rcases frN z with z | q
        · exact .inr (.inl z)
        · rcases q with q | ⟨i, q⟩
          · exfalso
            obtain ⟨j, hj⟩ := List.getElem?_of_mem q
            have hl : j < (ρ'.ce.take cs.length).length := by rw [← lt]; exact (List.getElem?_eq_some_iff.mp hj).1
            have hc := List.getElem?_eq_getElem hl
            obtain ⟨h1, h2⟩ := ce j _ a hc hj
            obtain ⟨_, _, okc⟩ := e.ce j _ a h1 h2
            have gn := CellOk.none okc fun z => noGone_at ng (by rw [hc, z])
            rw [gn] at ha
            cases ha
          · exact .inr (.inr ⟨i, q⟩)
    · obtain ⟨h1, h2⟩ := ce j c a hc ha
      exact (e.ce j c a h1 h2).2
    · rcases frN (rg1.pl i b o (sub i b o hb)).2.2.1 with z | z | ⟨j, z⟩
      · exact .inl z
      · exact .inr (.inl z)
      · exact .inr (.inr ⟨j, z⟩)
  refine body F xs cs post (fun z a w => by
    rcases frN w with w | w | ⟨i, w⟩
    · exact w
    · have : as = [] := List.length_eq_zero_iff.mp (by rw [ok.ln, z]; rfl)
      rw [this] at w; cases w
    · exact absurd (rg.em i (fun t X q => by rw [z] at q; simp at q) a) w) rfl rfl rx hw as _ H G e0 _ ⟨fun ρ' as' σ' H' G' ⟨ng, hp⟩ e g => ?_, fun av ρ' v as' σ' H' G' ⟨r, fr', ng, hp⟩ e g ra => ?_, fun ρ' as' σ' H' G' h _ _ => h.elim, fun ρ' as' σ' H' G' h _ _ => h.elim, fun v H' z => hfr v H' z⟩
  · obtain ⟨Ts1, rg1⟩ := e.rg
    exact fin (r := .dat .non) e rg1 g ng hp fun _ _ _ => Rep.non
  obtain ⟨Ts1, rg1⟩ := e.rg
  have newA : ∀ {j : Nat} {b a : Addr}, cs.length ≤ j → as'[j]? = some a → (∀ k, as'[k]? = some b → k = j) → F.Fr b = none → NewA H as Ts b := fun {j b a} nj ha hb fb => by
    obtain ⟨_, rs, ea⟩ := g
    have nb : b ∉ as := fun q => by
      obtain ⟨i, hi⟩ := List.getElem?_of_mem q
      have hil : i < as.length := (List.getElem?_eq_some_iff.mp hi).1
      have := hb i (by rw [ea, List.getElem?_append_left hil]; exact hi)
      rw [ok.ln] at hil
      omega
    refine ⟨?_, nb⟩
    rcases frN fb with z | z | z
    · exact .inl z
    · exact absurd z nb
    · exact .inr z
  have inj : ∀ {j : Nat} {a : Addr}, as'[j]? = some a → ∀ k, as'[k]? = some a → k = j := fun {j a} ha k hk => (List.getElem?_inj (List.getElem?_eq_some_iff.mp hk).1 e.nd).mp (hk.trans ha.symm)
  have new : ∀ {j : Nat} {a : Addr} {ds : List D}, cs.length ≤ j → ρ'.ce[j]? = some (.lst ds) → as'[j]? = some a → NewA H as Ts a ∧ (∀ i, Ts1 i a = none) ∧ G' a = none ∧ ∃ ws, H' a = some (.lst ws) ∧ Reps K G' ds ws := by
    intro j a ds nj hc ha
    obtain ⟨fa, _, ga, ws, hw2, hr⟩ := e.ce j _ a hc ha
    refine ⟨newA nj ha (inj ha) fa, fun i => ?_, ga, ws, hw2, hr⟩
    cases q : Ts1 i a with
    | none => rfl
    | some o =>
      have := (rg1.pl i a o q).2.2.2 j ha
      subst this
      obtain ⟨t, X, z⟩ := rg1.is q
      rw [hc] at z
      cases z
  cases fr' with
  | dat d => exact fin (r := .dat d) e rg1 g ng hp fun _ _ _ => ra
  | @cel j ds nj hc =>
    obtain ⟨a, ha, rfl⟩ := ra
    obtain ⟨h1, h0, h2, ws, h3, h4⟩ := new nj hc ha
    exact fin (r := .new ds) e rg1 g ng hp fun Ts' s2 _ => ⟨a, ws, rfl, h1, fun i => s2 i a (h0 i), h2, h3, h4⟩
  | @prt j xs ds ys nj hc =>
    obtain ⟨p, us, rfl, sq, ti⟩ := ra
    obtain ⟨w1, w2, rfl, r1, r2⟩ := TNs.split ti
    cases r2 with
    | cons rc r3 =>
      cases rc with
      | @cel _ a ha =>
        obtain ⟨h1, h0, h2, ws, h3, h4⟩ := new nj hc ha
        exact fin (r := .prt xs ds ys) e rg1 g ng hp fun Ts' s2 _ => ⟨p, a, w1, _, ws, rfl, sq, TNs.dats r1, TNs.dats r3, h1, fun i => s2 i a (h0 i), h2, h3, h4⟩
  | @ext j d X nj hc =>
    obtain ⟨a, ha⟩ : ∃ a, as'[j]? = some a := ⟨_, List.getElem?_eq_getElem (by rw [e.ln]; exact (List.getElem?_eq_some_iff.mp hc).1)⟩
    obtain ⟨fa, _, ga, o, ho, ox⟩ := e.ce j _ a hc ha
    refine fin (r := .ext d X) e rg1 g ng hp fun Ts' s2 _ => ⟨ra, a, o, newA nj ha (inj ha) fa, fun i => s2 i a ?_, ga, ho, ox⟩
    cases q : Ts1 i a with
    | none => rfl
    | some o2 =>
      have := (rg1.pl i a o2 q).2.2.2 j ha
      subst this
      obtain ⟨t, Y, z⟩ := rg1.is q
      rw [hc] at z
      cases z
  | @reg j t X nj hc =>
    obtain ⟨a, ha, rfl⟩ := ra
    obtain ⟨fa, ho, ga⟩ := e.ce j _ a hc ha
    refine fin (r := .reg X) e rg1 g ng hp fun Ts' s2 s3 => ⟨a, Ts1 j, rfl, newA nj ha (inj ha) fa, fun i => ?_, ga, ho, (rg1.ok j t X a hc ha).2, fun b o hb => ?_⟩
    · by_cases q : cs.length ≤ i
      · exact s3 i a q
      · refine s2 i a ?_
        cases z : Ts1 i a with
        | none => rfl
        | some o => have := (rg1.pl i a o z).2.2.2 j ha; omega
    · obtain ⟨x, y, z, w⟩ := rg1.pl j b o hb
      refine ⟨x, y, newA nj ha w z, fun i => ?_⟩
      by_cases q : cs.length ≤ i
      · exact s3 i b q
      · refine s2 i b ?_
        cases u : Ts1 i b with
        | none => rfl
        | some o2 => have := rg1.dj i j b o2 o u hb; omega
theorem enterG {N : List Str} {W : PW0} {vs : List V} {H : Hp} {Q : VK} {E : XK} {t : TS} (frv : V → Prop) (hfr : ∀ v H', frv v → Q v H') (h : spG K W vs H Q E) (body : ∀ F xs cs post, F.fr = frv → F.E = E → RepAs K F.G0 F.as0 xs vs → W xs cs post F.ex → WpS K F t (En.start N.length xs cs) (KS.fin cs.length post)) : t { nx := fun _ H' => Q .non H', rt := Q } (L2.start N vs) H := enterB frv hfr h fun F xs cs post _ => body F xs cs post
/-- a def that is lent nothing: what was not there ahead of it is new -/
theorem enterK {N : List Str} {W : PW0} {vs : List V} {H : Hp} {Q : VK} {E : XK} {t : TS} (h : spG K W vs H Q E) (body : ∀ F xs cs post, (cs = [] → ∀ a, F.Fr a = none → F.Hn a = none) → F.E = E → W xs cs post F.ex → WpS K F t (En.start N.length xs cs) (KS.fin cs.length post)) : t { nx := fun _ H' => Q .non H', rt := Q } (L2.start N vs) H := enterB (fun _ => False) (fun _ _ z => z.elim) h fun F xs cs post hN _ hE _ hw => body F xs cs post hN hE hw
theorem enterF {N : List Str} {W : PW0} {vs : List V} {H : Hp} {Q : VK} {E : XK} {t : TS} (frv : V → Prop) (hfr : ∀ v H', frv v → Q v H') (h : spG K W vs H Q E) (body : ∀ F xs cs post, F.fr = frv → F.E = E → W xs cs post F.ex → WpS K F t (En.start N.length xs cs) (KS.fin cs.length post)) : t { nx := fun _ H' => Q .non H', rt := Q } (L2.start N vs) H := enterG frv hfr h fun F xs cs post hf hE _ hw => body F xs cs post hf hE hw
/-- a def that ends without a return -/
theorem enterN {N : List Str} {W : PW0} {vs : List V} {H : Hp} {Q : VK} {E : XK} {t : TS} (h : spG K W vs H Q E) (body : ∀ F xs cs post, F.E = E → W xs cs post F.ex → WpS K F (tSeq t tRetN) (En.start N.length xs cs) (KS.fin cs.length post)) : t { nx := fun _ H' => Q .non H', rt := Q } (L2.start N vs) H := enterF (t := tSeq t tRetN) (fun _ => False) (fun _ _ z => z.elim) h fun F xs cs post _ hE hw => body F xs cs post hE hw
theorem enter {N : List Str} {W : PW0} {vs : List V} {H : Hp} {Q : VK} {E : XK} {t : TS} (h : spG K W vs H Q E) (body : ∀ F xs cs post, F.E = E → W xs cs post F.ex → WpS K F t (En.start N.length xs cs) (KS.fin cs.length post)) : t { nx := fun _ H' => Q .non H', rt := Q } (L2.start N vs) H := enterF (fun _ => False) (fun _ _ z => z.elim) h fun F xs cs post _ hE hw => body F xs cs post hE hw
/-! calls -/
theorem we_call {sp : Sp} {E : XK} {t : TA} (h : WpA K F t ρ fun xs ρ1 => WpSp K F sp (fun _ => E) xs ρ1 k) : WpE K F (tCall sp [] E t) ρ k := fun as σ H G e Q q =>
  h as σ H G e _ fun xs ρ1 vs as1 H1 G1 h1 e1 g1 r1 => by
    rw [List.append_nil]
    exact h1 as1 σ H1 G1 vs e1 r1 Q (q.imp g1 fun _ _ z => z)
theorem we_call1 {sp : Sp} {v : V} {x : AV} {E : XK} {t : TA} (hv : ∀ G as, RepA K G as x v) (h : WpA K F t ρ fun xs ρ1 => WpSp K F sp (fun _ => E) (xs ++ [x]) ρ1 k) : WpE K F (tCall sp [v] E t) ρ k := fun as σ H G e Q q =>
  h as σ H G e _ fun xs ρ1 vs as1 H1 G1 h1 e1 g1 r1 => h1 as1 σ H1 G1 _ e1 (r1.append (.cons (hv _ _) .nil)) Q (q.imp g1 fun _ _ z => z)
theorem we_callS {sp : Sp} {E : L2.St → XK} {t : TA} (h : WpA K F t ρ fun xs ρ1 => WpSp K F sp E xs ρ1 k) : WpE K F (tCallS sp E t) ρ k := fun as σ H G e Q q =>
  h as σ H G e _ fun xs ρ1 vs as1 H1 G1 h1 e1 g1 r1 => h1 as1 σ H1 G1 vs e1 r1 Q (q.imp g1 fun _ _ z => z)
theorem we_callK {sp : Sp} {gV : List V → List V → List V} {gA : List AV → List AV → List AV} {E : XK} {t tk : TA} (hg : ∀ G as xs ys vs ws, RepAs K G as xs vs → RepAs K G as ys ws → RepAs K G as (gA xs ys) (gV vs ws)) (h : WpA K F t ρ fun xs ρ1 => WpA K F tk ρ1 fun ys ρ2 => WpSp K F sp (fun _ => E) (gA xs ys) ρ2 k) : WpE K F (tCallK sp gV E t tk) ρ k := fun as σ H G e Q q =>
  h as σ H G e _ fun xs ρ1 vs as1 H1 G1 h1 e1 g1 r1 => h1 as1 σ H1 G1 e1 _ fun ys ρ2 ws as2 H2 G2 h2 e2 g2 r2 => h2 as2 σ H2 G2 _ e2 (hg _ _ _ _ _ _ (r1.mono g2) r2) Q (q.imp (g1.trans g2) fun _ _ z => z)
/-- a cell of a list that stands already -/
theorem EnvOk.ownC {as : List Addr} {σ : L2.St} {H G : Hp} {p : Addr} {vs : List V} {ds : List D} (e : EnvOk K F ρ as σ H G) (hp : H p = some (.lst vs)) (gp : G p = none) (fp : F.Fr p = none) (np : p ∉ as) (nt : ∃ Ts, RegsAt Ts F.Fr G H as ρ.ce ∧ ∀ i, Ts i p = none) (hr : Reps K G ds vs) : EnvOk K F (ρ.add ds) (as ++ [p]) σ H G := by
  have gr : Gr G as G (as ++ [p]) := ⟨Same.refl _, [p], rfl⟩
  refine ⟨e.kp, e.gh, e.fh, e.fg, e.g0, ?_, e.pr.trans (List.prefix_append _ _), by show (as ++ [p]).length = (ρ.ce ++ [Cell.lst ds]).length; rw [List.length_append, List.length_append, e.ln]; rfl, fun j c a hc ha => ?_, e.sn, fun i av hi => ?_, by
    obtain ⟨Ts, r, n⟩ := nt
    exact r.addC e.ln (fun _ _ z => nomatch z) (fun i o z => by rw [n i] at z; cases z) fun _ _ _ h => h⟩
  · rw [List.nodup_append]
    refine ⟨e.nd, by simp, fun a ha b hb => ?_⟩
    rw [List.mem_singleton] at hb
    subst hb
    exact fun z => np (z ▸ ha)
  · have hc : (ρ.ce ++ [Cell.lst ds])[j]? = some c := hc
    by_cases hj : j < ρ.ce.length
    · rw [List.getElem?_append_left hj] at hc
      rw [List.getElem?_append_left (by rw [e.ln]; exact hj)] at ha
      exact e.ce j c a hc ha
    · have hj2 : ρ.ce.length ≤ j := by omega
      rw [List.getElem?_append_right hj2] at hc
      rw [List.getElem?_append_right (by rw [e.ln]; exact hj2), e.ln] at ha
      cases z : j - ρ.ce.length with
      | zero =>
        rw [z] at hc ha
        cases hc
        cases ha
        exact ⟨fp, ⟨_, hp⟩, gp, vs, hp, hr⟩
      | succ m => rw [z] at hc; simp at hc
  · obtain ⟨v, hv, r⟩ := e.sl i av hi
    exact ⟨v, hv, r.mono gr⟩
def En.addX (ρ : En) (X : RegX) : En := ⟨ρ.sl, ρ.ce ++ [.reg none X]⟩
def En.addT (ρ : En) (X : CellX) : En := ⟨ρ.sl, ρ.ce ++ [.oth X]⟩
/-- a cell of another thing that stands already -/
theorem EnvOk.ownT {as : List Addr} {σ : L2.St} {H G : Hp} {p : Addr} {o : HO} {X : CellX} (e : EnvOk K F ρ as σ H G) (hp : H p = some o) (gp : G p = none) (fp : F.Fr p = none) (np : p ∉ as) (nt : ∃ Ts, RegsAt Ts F.Fr G H as ρ.ce ∧ ∀ i, Ts i p = none) (ok : X.ok G p o) : EnvOk K F (ρ.addT X) (as ++ [p]) σ H G := by
  have gr : Gr G as G (as ++ [p]) := ⟨Same.refl _, [p], rfl⟩
  refine ⟨e.kp, e.gh, e.fh, e.fg, e.g0, ?_, e.pr.trans (List.prefix_append _ _), by show (as ++ [p]).length = (ρ.ce ++ [Cell.oth X]).length; rw [List.length_append, List.length_append, e.ln]; rfl, fun j c a hc ha => ?_, e.sn, fun i av hi => ?_, by
    obtain ⟨Ts, r, n⟩ := nt
    exact r.addC e.ln (fun _ _ z => nomatch z) (fun i o z => by rw [n i] at z; cases z) fun _ _ _ h => h⟩
  · rw [List.nodup_append]
    refine ⟨e.nd, by simp, fun a ha b hb => ?_⟩
    rw [List.mem_singleton] at hb
    subst hb
    exact fun z => np (z ▸ ha)
  · have hc : (ρ.ce ++ [Cell.oth X])[j]? = some c := hc
    by_cases hj : j < ρ.ce.length
    · rw [List.getElem?_append_left hj] at hc
      rw [List.getElem?_append_left (by rw [e.ln]; exact hj)] at ha
      exact e.ce j c a hc ha
    · rw [List.getElem?_append_right (by omega)] at hc
      rw [List.getElem?_append_right (by rw [e.ln]; omega), e.ln] at ha
      cases z : j - ρ.ce.length with
      | zero =>
        rw [z] at hc ha
        cases hc
        cases ha
        exact ⟨fp, ⟨_, hp⟩, gp, o, hp, ok⟩
      | succ m => rw [z] at hc; simp at hc
  · obtain ⟨v, hv, r⟩ := e.sl i av hi
    exact ⟨v, hv, r.mono gr⟩
/-- a private part that stands already becomes a cell -/
theorem EnvOk.ownX {as : List Addr} {σ : L2.St} {H G : Hp} {p : Addr} {T : Hp} {X : RegX} {Ts : Nat → Hp} (e : EnvOk K F ρ as σ H G) (r : RegsAt Ts F.Fr G H as ρ.ce) (hp : ∃ o, H p = some o) (gp : G p = none) (fp : F.Fr p = none) (np : p ∉ as) (nt : ∀ i, Ts i p = none) (ok : X.ok T G p)
    (ht : ∀ b o, T b = some o → H b = some o ∧ G b = none ∧ F.Fr b = none ∧ b ∉ as ∧ ∀ i, Ts i b = none) : EnvOk K F (ρ.addX X) (as ++ [p]) σ H G := by
  have gr : Gr G as G (as ++ [p]) := ⟨Same.refl _, [p], rfl⟩
  have ats : ∀ j c a, (ρ.ce ++ [Cell.reg none X])[j]? = some c → (as ++ [p])[j]? = some a → (j < ρ.ce.length ∧ ρ.ce[j]? = some c ∧ as[j]? = some a) ∨ (j = ρ.ce.length ∧ c = .reg none X ∧ a = p) := fun j c a hc ha => by
    by_cases hj : j < ρ.ce.length
    · rw [List.getElem?_append_left hj] at hc
      rw [List.getElem?_append_left (by rw [e.ln]; exact hj)] at ha
      exact .inl ⟨hj, hc, ha⟩
    · rw [List.getElem?_append_right (by omega)] at hc
      rw [List.getElem?_append_right (by rw [e.ln]; omega), e.ln] at ha
      cases z : j - ρ.ce.length with
      | zero => rw [z] at hc ha; cases hc; cases ha; exact .inr ⟨by omega, rfl, rfl⟩
      | succ m => rw [z] at hc; simp at hc
  have le : ∀ i, ρ.ce.length ≤ i → ∀ b, Ts i b = none := fun i hi b => r.em i (fun t X z => by rw [List.getElem?_eq_none hi] at z; cases z) b
  refine ⟨e.kp, e.gh, e.fh, e.fg, e.g0, ?_, e.pr.trans (List.prefix_append _ _), by show (as ++ [p]).length = (ρ.ce ++ [Cell.reg none X]).length; rw [List.length_append, List.length_append, e.ln]; rfl, fun j c a hc ha => ?_, e.sn, fun i av hi => ?_, fun i b => if i = ρ.ce.length then T b else Ts i b, fun j h b => ?_, fun i j b o u h1 h2 => ?_, fun i b o h => ?_, fun j t X2 a hc ha => ?_⟩
  · rw [List.nodup_append]
    refine ⟨e.nd, by simp, fun a ha b hb => ?_⟩
    rw [List.mem_singleton] at hb
    subst hb
    exact fun z => np (z ▸ ha)
  · rcases ats j c a hc ha with ⟨_, h1, h2⟩ | ⟨_, rfl, rfl⟩
    · exact e.ce j c a h1 h2
    · exact ⟨fp, hp, gp⟩
  · obtain ⟨v, hv, r⟩ := e.sl i av hi
    exact ⟨v, hv, r.mono gr⟩
  · show (if j = ρ.ce.length then T b else Ts j b) = none
    by_cases q : j = ρ.ce.length
    · exact absurd (show (ρ.ce ++ [Cell.reg none X])[j]? = some (.reg none X) by rw [q, List.getElem?_append_right (Nat.le_refl _), Nat.sub_self]; rfl) (h none X)
    · rw [if_neg q]
      refine r.em j (fun t X2 z => h t X2 ?_) b
      show (ρ.ce ++ [Cell.reg none X])[j]? = _
      rw [List.getElem?_append_left (List.getElem?_eq_some_iff.mp z).1]
      exact z
  · have h1 : (if i = ρ.ce.length then T b else Ts i b) = some o := h1
    have h2 : (if j = ρ.ce.length then T b else Ts j b) = some u := h2
    by_cases q1 : i = ρ.ce.length
    · by_cases q2 : j = ρ.ce.length
      · rw [q1, q2]
      · rw [if_pos q1] at h1
        rw [if_neg q2] at h2
        have := (ht b o h1).2.2.2.2 j
        rw [h2] at this
        cases this
    · rw [if_neg q1] at h1
      by_cases q2 : j = ρ.ce.length
      · rw [if_pos q2] at h2
        have := (ht b u h2).2.2.2.2 i
        rw [h1] at this
        cases this
      · rw [if_neg q2] at h2
        exact r.dj i j b o u h1 h2
  · have h : (if i = ρ.ce.length then T b else Ts i b) = some o := h
    by_cases q : i = ρ.ce.length
    · rw [if_pos q] at h
      obtain ⟨x, y, z, w, _⟩ := ht b o h
      refine ⟨x, y, z, fun j hj => ?_⟩
      by_cases l : j < as.length
      · rw [List.getElem?_append_left l] at hj
        exact absurd (List.mem_of_getElem? hj) w
      · have : j < (as ++ [p]).length := (List.getElem?_eq_some_iff.mp hj).1
        rw [List.length_append, e.ln] at this
        simp only [List.length] at this
        rw [e.ln] at l
        omega
    · rw [if_neg q] at h
      obtain ⟨x, y, z, w⟩ := r.pl i b o h
      refine ⟨x, y, z, fun j hj => ?_⟩
      by_cases l : j < as.length
      · rw [List.getElem?_append_left l] at hj
        exact w j hj
      · rw [List.getElem?_append_right (by omega)] at hj
        have := List.mem_singleton.mp (List.mem_of_getElem? hj)
        subst this
        rw [nt i] at h
        cases h
  · rcases ats j _ a hc ha with ⟨hj, h1, h2⟩ | ⟨hj, h1, rfl⟩
    · obtain ⟨x, y⟩ := r.ok j t X2 a h1 h2
      refine ⟨x, ?_⟩
      show X2.ok (fun b => if j = ρ.ce.length then T b else Ts j b) G a
      simp only [if_neg (Nat.ne_of_lt hj)]
      exact y
    · cases h1
      refine ⟨(fun g z => nomatch z), ?_⟩
      show X.ok (fun b => if j = ρ.ce.length then T b else Ts j b) G a
      simp only [if_pos hj]
      exact ok
mutual
/-- the cells that an item holds -/
def TN.cels : TN → List Nat
  | .dat _ => []
  | .cel j => [j]
  | .tup xs => TN.celss xs
def TN.celss : List TN → List Nat
  | [] => []
  | x :: xs => TN.cels x ++ TN.celss xs
end
def AV.cels : AV → List Nat
  | .dat _ => []
  | .cel j => [j]
  | .tup xs => TN.celss xs
mutual
inductive OfT (ρ : En) : TN → D → Prop
  | dat (d : D) : OfT ρ (.dat d) d
  | cel {j : Nat} {ds : List D} : ρ.ce[j]? = some (.lst ds) → OfT ρ (.cel j) (.lst ds)
  | tup {xs : List TN} {ds : List D} : OfTs ρ xs ds → OfT ρ (.tup xs) (.tup ds)
inductive OfTs (ρ : En) : List TN → List D → Prop
  | nil : OfTs ρ [] []
  | cons {x : TN} {d : D} {xs : List TN} {ds : List D} : OfT ρ x d → OfTs ρ xs ds → OfTs ρ (x :: xs) (d :: ds)
end
mutual
theorem OfT.mem {j : Nat} : ∀ (x : TN) (d : D), OfT ρ x d → j ∈ x.cels → ∃ es, ρ.ce[j]? = some (.lst es)
  | .dat e, d, h, m => by rw [TN.cels] at m; cases m
  | .cel i, d, h, m => by
    rw [TN.cels, List.mem_singleton] at m
    subst m
    cases h with | cel hc => exact ⟨_, hc⟩
  | .tup xs, d, h, m => by
    rw [TN.cels] at m
    cases h with | tup h2 => exact OfTs.mem xs _ h2 m
theorem OfTs.mem {j : Nat} : ∀ (xs : List TN) (ds : List D), OfTs ρ xs ds → j ∈ TN.celss xs → ∃ es, ρ.ce[j]? = some (.lst es)
  | [], _, h, m => by rw [TN.celss] at m; cases m
  | x :: xs, _, h, m => by
    rw [TN.celss] at m
    cases h with
    | cons h1 h2 =>
      rcases List.mem_append.mp m with m | m
      · exact OfT.mem x _ h1 m
      · exact OfTs.mem xs _ h2 m
end
/-- arguments as data: cells are lent to be read -/
inductive AsD (ρ : En) : List AV → List D → Prop
  | nil : AsD ρ [] []
  | dat {d : D} {xs : List AV} {ds : List D} : AsD ρ xs ds → AsD ρ (.dat d :: xs) (d :: ds)
  | cel {j : Nat} {es : List D} {xs : List AV} {ds : List D} : ρ.ce[j]? = some (.lst es) → AsD ρ xs ds → AsD ρ (.cel j :: xs) (.lst es :: ds)
  | tup {ts : List TN} {es : List D} {xs : List AV} {ds : List D} : OfTs ρ ts es → AsD ρ xs ds → AsD ρ (.tup ts :: xs) (.tup es :: ds)
def nocel : List AV → Bool
  | [] => true
  | .cel _ :: _ => false
  | .tup _ :: _ => false
  | .dat _ :: r => nocel r
theorem nocel_mem {xs : List AV} (h : nocel xs = true) {j : Nat} : ∀ x ∈ xs, j ∉ x.cels := by
  induction xs with
  | nil => intro x m; cases m
  | cons x xs ih =>
    cases x with
    | cel i => rw [nocel] at h; cases h
    | tup xs => rw [nocel] at h; cases h
    | dat d =>
      rw [nocel] at h
      intro y m
      rcases List.mem_cons.mp m with rfl | m
      · exact fun z => nomatch (show j ∈ ([] : List Nat) from z)
      · exact ih h y m
theorem AsD.mem {xs : List AV} {ds : List D} (h : AsD ρ xs ds) {j : Nat} {x : AV} (m : x ∈ xs) (mj : j ∈ x.cels) : ∃ es, ρ.ce[j]? = some (.lst es) := by
  induction h with
  | nil => cases m
  | dat _ ih =>
    rcases List.mem_cons.mp m with rfl | m
    · exact nomatch (show j ∈ ([] : List Nat) from mj)
    · exact ih m
  | cel hc _ ih =>
    rcases List.mem_cons.mp m with rfl | m
    · have := List.mem_singleton.mp (show j ∈ [_] from mj)
      subst this
      exact ⟨_, hc⟩
    · exact ih m
  | tup ht _ ih =>
    rcases List.mem_cons.mp m with rfl | m
    · exact OfTs.mem _ _ ht mj
    · exact ih m
/-- what follows a call by data -/
def aft (ρ : En) (xs : List AV) (k : AV → En → Prop) : RV → Prop
  | .dat d => (nocel xs || hard d) = true ∧ k (.dat d) ρ
  | .new es => (nocel xs || hards es) = true ∧ k (.cel ρ.ce.length) (ρ.add es)
  | .prt as es bs => (nocel xs || (hards as && hards es && hards bs)) = true ∧ k (.tup (as.map .dat ++ .cel ρ.ce.length :: bs.map .dat)) (ρ.add es)
  | .reg X => k (.cel ρ.ce.length) (ρ.addX X)
  | .ext d X => (nocel xs || hard d) = true ∧ k (.dat d) (ρ.addT X)
mutual
theorem OfT.repG {as : List Addr} {G G1 : Hp} (s1 : Same G G1) : ∀ (x : TN) (d : D) (v : V), (∀ (j : Nat) (p : Addr) (es : List D), j ∈ x.cels → ρ.ce[j]? = some (.lst es) → as[j]? = some p → Rep K G1 (.lst es) (.ref p)) → OfT ρ x d → TNr K G as x v → Rep K G1 d v
  | .dat e, d, v, c, h, r => by cases h; cases r with | dat r => exact Rep.mono s1 _ _ r
  | .cel j, d, v, c, h, r => by
    cases h with
    | cel hc =>
      cases r with
      | cel ha => exact c j _ _ (by rw [TN.cels]; exact List.mem_singleton.mpr rfl) hc ha
  | .tup xs, d, v, c, h, r => by
    cases h with
    | tup h2 =>
      cases r with
      | tup sq r2 => exact .tup (Same.seqT s1 sq) (OfTs.repG0 s1 xs _ _ (fun j p es m => c j p es (by rw [TN.cels]; exact m)) h2 r2)
theorem OfTs.repG0 {as : List Addr} {G G1 : Hp} (s1 : Same G G1) : ∀ (xs : List TN) (ds : List D) (vs : List V), (∀ (j : Nat) (p : Addr) (es : List D), j ∈ TN.celss xs → ρ.ce[j]? = some (.lst es) → as[j]? = some p → Rep K G1 (.lst es) (.ref p)) → OfTs ρ xs ds → TNs K G as xs vs → Reps K G1 ds vs
  | [], _, _, c, h, r => by cases h; cases r; exact .nil
  | x :: xs, _, _, c, h, r => by
    cases h with
    | cons h1 h2 =>
      cases r with
      | cons r1 r2 => exact .cons (OfT.repG s1 x _ _ (fun j p es m => c j p es (by rw [TN.celss]; exact List.mem_append_left _ m)) h1 r1) (OfTs.repG0 s1 xs _ _ (fun j p es m => c j p es (by rw [TN.celss]; exact List.mem_append_right _ m)) h2 r2)
end
/-- the frame, behind a call -/
theorem EnvOk.step {as : List Addr} {σ : L2.St} {H H' G G1 : Hp} (e : EnvOk K F ρ as σ H G) (fr : ∀ a o, F.Fr a ≠ none → H a = some o → ∃ u, H' a = some u ∧ erO u = erO o ∧ (G1 a = none → u = o)) (g1 : ∀ a, F.Fr a ≠ none → G a = none → G1 a = none) : FrE F.Fr F.G0 H' := fun a o h => by
  have nf : F.Fr a ≠ none := fun z => by rw [z] at h; cases h
  obtain ⟨u, hu, eu, xu⟩ := e.fh a o h
  obtain ⟨v, hv, ev, xv⟩ := fr a u nf hu
  refine ⟨v, hv, ev.trans eu, fun z => ?_⟩
  have g : G a = none := by
    cases q : G a with
    | none => rfl
    | some w =>
      rcases e.fg a w q with y | y
      · rw [z] at y; cases y
      · exact absurd y nf
  rw [xv (g1 a nf g), xu z]
open Classical in
theorem wsp0 {W : PW0} {E : L2.St → XK} {xs : List AV} {ds : List D} {exc : Addr → Prop} (ha : AsD ρ xs ds) (hE : ∀ C as σ H G, exc C → EnvOk K F ρ as σ H G → E σ (.ref C) none H) (hw : W (ds.map .dat) [] (fun r _ => aft ρ xs k r) exc) : WpSp K F (spG K W) E xs ρ k := by
  intro as σ H G vs e rx Q q
  let B : Addr → Prop := fun b => ∃ (j : Nat) (x : AV), x ∈ xs ∧ j ∈ x.cels ∧ as[j]? = some b
  have bcell : ∀ b, B b → G b = none ∧ ∃ ws, H b = some (.lst ws) := fun b ⟨j, x, m, mj, hj⟩ => by
    obtain ⟨es, hc⟩ := ha.mem m mj
    obtain ⟨_, _, g, ws, hw, _⟩ := e.ce j _ b hc hj
    exact ⟨g, ws, hw⟩
  have bas : ∀ b, B b → b ∈ as := fun b ⟨_, _, _, _, hj⟩ => List.mem_of_getElem? hj
  let G1 : Hp := fun b => if B b then H b else G b
  have g1 : ∀ b, B b → G1 b = H b := fun b h => if_pos h
  have g2 : ∀ b, ¬ B b → G1 b = G b := fun b h => if_neg h
  have s1 : Same G G1 := fun b o h => by
    rw [g2 b fun z => by rw [(bcell b z).1] at h; cases h]; exact h
  have h1 : Same (er G1) (er H) := fun b o h => by
    by_cases z : B b
    · obtain ⟨u, hu, eu⟩ := er_some h
      rw [g1 b z] at hu
      rw [er_of hu, eu]
    · obtain ⟨u, hu, eu⟩ := er_some h
      rw [g2 b z] at hu
      exact e.gh _ _ (by rw [er_of hu, eu])
  have rd : RepAs K G1 [] (ds.map .dat) vs := by
    have cell : ∀ {j : Nat} {p : Addr} {es : List D}, B p → ρ.ce[j]? = some (.lst es) → as[j]? = some p → Rep K G1 (.lst es) (.ref p) := fun {j p es} hb hc hp => by
      obtain ⟨_, _, g, us, hu, hr⟩ := e.ce j _ p hc hp
      exact Rep.lst (by rw [g1 p hb]; exact hu) (Reps.mono s1 _ _ hr)
    have main : ∀ (ys : List AV) (es : List D) (ws : List V), (∀ y ∈ ys, y ∈ xs) → AsD ρ ys es → RepAs K G as ys ws → RepAs K G1 [] (es.map .dat) ws := by
      intro ys es ws sub hd
      induction hd generalizing ws with
      | nil => intro r; cases r; exact .nil
      | dat _ ih =>
        intro r
        cases r with
        | cons a b => exact .cons (Rep.mono s1 _ _ a) (ih _ (fun y m => sub y (List.mem_cons_of_mem _ m)) b)
      | @cel j es2 ys2 ds2 hc _ ih =>
        intro r
        cases r with
        | cons a b =>
          obtain ⟨p, hp, rfl⟩ := a
          exact .cons (cell ⟨j, _, sub _ List.mem_cons_self, List.mem_singleton.mpr rfl, hp⟩ hc hp) (ih _ (fun y m => sub y (List.mem_cons_of_mem _ m)) b)
      | @tup ts es2 ys2 ds2 ht _ ih =>
        intro r
        cases r with
        | cons a b =>
          obtain ⟨p, us, rfl, sq, rs⟩ := a
          refine .cons (Rep.tup (Same.seqT s1 sq) ?_) (ih _ (fun y m => sub y (List.mem_cons_of_mem _ m)) b)
          exact OfTs.repG0 s1 ts _ _ (fun j p es mj hc hp => cell ⟨j, _, sub _ List.mem_cons_self, mj, hp⟩ hc hp) ht rs
    exact main xs ds vs (fun _ m => m) ha rx
  obtain ⟨Ts0, r0⟩ := e.rg
  obtain ⟨⟨Ck, kc1, kc2, kc3⟩, kc4⟩ := e.kp.n
  have envB : ∀ {H' G1' : Hp}, (∀ a o, H a = some o → ∃ u, H' a = some u ∧ erO u = erO o ∧ (G1 a = none → u = o)) → (∀ a o, H a = some o → G a = none → H' a = some o) → Same G1 G1' → Same (er G1') (er H') → (∀ a o, G1' a = some o → G1 a = some o ∨ H a = none ∨ False) → KeptN K Ck H H' G1' → EnvOk K F ρ as σ H' (fun b => if B b then none else G1' b) := by
    intro H' G1' hh0 hh sg gh' nw kn
    let G' : Hp := fun b => if B b then none else G1' b
    show EnvOk K F ρ as σ H' G'
    have k1 : ∀ b, B b → G' b = none := fun b h => if_pos h
    have k2 : ∀ b, ¬ B b → G' b = G1' b := fun b h => if_neg h
    have le : ∀ a o, G' a = some o → G1' a = some o := fun a o h => by
      by_cases z : B a
      · rw [k1 a z] at h; cases h
      · rw [k2 a z] at h; exact h
    have sG : Same G G' := fun b o h => by
      have nb : ¬ B b := fun z => by rw [(bcell b z).1] at h; cases h
      rw [k2 b nb]; exact sg _ _ (s1 _ _ h)
    have keep : ∀ a o, G' a = some o → G a = some o ∨ H a = none := fun a o h => by
      by_cases z : B a
      · rw [k1 a z] at h; cases h
      · rw [k2 a z] at h
        rcases nw a o h with y | y | y
        · rw [g2 a z] at y; exact .inl y
        · exact .inr y
        · exact y.elim
    have gn : ∀ {a : Addr} {o : HO}, H a = some o → G a = none → G' a = none := fun {a o} ho g => by
      cases z : G' a with
      | none => rfl
      | some o2 =>
        rcases keep a o2 z with y | y
        · rw [g] at y; cases y
        · rw [ho] at y; cases y
    have r1 : RegsAt Ts0 F.Fr G' H' as ρ.ce := r0.same (fun i b o h hb => hh b o hb (r0.pl i b o h).2.1) (fun b o ho g => gn ho g) (fun _ z => z) fun _ _ z => .inl (sG _ _ z)
    have nbF : ∀ a, F.Fr a ≠ none → ¬ B a := fun a n ⟨j, x, m, mj, hj⟩ => by
      obtain ⟨es, hc⟩ := ha.mem m mj
      exact n (e.ce j _ a hc hj).1
    refine ⟨⟨KeptN.trans kc3 kc4 (kn.trim le fun a o h1 h2 => ?_), e.kp.k⟩, fun a o h => ?_, e.step (fun a o _ h => hh0 a o h) (fun a n g => by rw [g2 a (nbF a n)]; exact g), fun a o h => ?_, Same.trans e.g0 sG, e.nd, e.pr, e.ln, fun j c a hc hj => ?_, e.sn, fun i av hi => ?_, ⟨Ts0, r1⟩⟩
    · have nb : ¬ B a := fun z => by
        obtain ⟨gb, ws, hw⟩ := bcell a z
        rcases h2 with h2 | h2 | h2
        · rw [kc2 a o h2] at gb; cases gb
        · rw [hw] at h2; cases h2
        · have := sg a _ (by rw [g1 a z]; exact hw)
          rw [h1] at this
          cases this
          exact h2 ws rfl
      rw [k2 a nb]; exact h1
    · obtain ⟨u, hu, eu⟩ := er_some h
      exact gh' _ _ (by rw [er_of (le _ _ hu), eu])
    · rcases keep a o h with y | y
      · exact e.fg _ _ y
      · exact .inr (e.fh.none y)
    · obtain ⟨fa, ⟨o, ho⟩, ok⟩ := e.ce j c a hc hj
      have al : ∃ o, H' a = some o := by obtain ⟨u, hu, _⟩ := hh0 _ _ ho; exact ⟨u, hu⟩
      refine ⟨fa, al, ?_⟩
      cases c with
      | gone => trivial
      | reg t X => exact gn ho ok
      | lst es => obtain ⟨g, ws, hw, r⟩ := ok; exact ⟨gn ho g, ws, hh _ _ hw g, Reps.mono sG _ _ r⟩
      | ins C9 ns9 es => obtain ⟨g, dx9, ws, hw, ln9, r⟩ := ok; exact ⟨gn ho g, dx9, ws, hh _ _ hw g, ln9, Reps.mono sG _ _ r⟩
      | drw => obtain ⟨g, ws, hw, r⟩ := ok; exact ⟨gn ho g, ws, hh _ _ hw g, r⟩
      | oth X => obtain ⟨g, o9, hw, r⟩ := ok; exact ⟨gn ho g, o9, hh _ _ hw g, X.mono (fun _ _ z => .inl (sG _ _ z)) r⟩
    · obtain ⟨v, hv, r⟩ := e.sl i av hi
      exact ⟨v, hv, r.mono ⟨sG, [], by simp⟩⟩
  refine ⟨G1, [], fun _ _ => none, ds.map .dat, [], _, exc, h1, ⟨rfl, List.nodup_nil, fun j c a hc => by simp at hc⟩, RegsAt.no (fun j t X z => by simp at z), rd, hw, Ck, ⟨fun a C dx fs n g h l m q gs v hg mv => kc1 a C dx fs n g (by
    by_cases z : B a
    · obtain ⟨_, ws, hw⟩ := bcell a z
      rw [g1 a z, hw] at h; cases h
    · rw [g2 a z] at h; exact h) l m q gs v hg mv, Same.trans kc2 s1⟩, ?_, ?_⟩
  · intro r cs' v H' G1' Ts' hp fr sg gh' nw _ _ _ rr kn
    have hh0 : ∀ a o, H a = some o → ∃ u, H' a = some u ∧ erO u = erO o ∧ (G1 a = none → u = o) := fun a o h => fr a o (by simp) (fun _ => rfl) h
    have hh : ∀ a o, H a = some o → G a = none → H' a = some o := fun a o h g => by
      obtain ⟨u, hu, eu, xu⟩ := hh0 a o h
      by_cases z : B a
      · obtain ⟨_, ws, hw⟩ := bcell a z
        rw [hw] at h
        cases h
        rw [erO_ne eu (fun _ _ _ z => by cases z)] at hu
        exact hu
      · rw [xu (by rw [g2 a z]; exact g)] at hu; exact hu
    let G' : Hp := fun b => if B b then none else G1' b
    have k1 : ∀ b, B b → G' b = none := fun b h => if_pos h
    have k2 : ∀ b, ¬ B b → G' b = G1' b := fun b h => if_neg h
    have le : ∀ a o, G' a = some o → G1' a = some o := fun a o h => by
      by_cases z : B a
      · rw [k1 a z] at h; cases h
      · rw [k2 a z] at h; exact h
    have sG : Same G G' := fun b o h => by
      have nb : ¬ B b := fun z => by rw [(bcell b z).1] at h; cases h
      rw [k2 b nb]; exact sg _ _ (s1 _ _ h)
    have keep : ∀ a o, G' a = some o → G a = some o ∨ H a = none := fun a o h => by
      by_cases z : B a
      · rw [k1 a z] at h; cases h
      · rw [k2 a z] at h
        rcases nw a o h with y | y | ⟨_, y⟩
        · rw [g2 a z] at y; exact .inl y
        · exact .inr y
        · exact absurd rfl y
    have gn : ∀ {a : Addr} {o : HO}, H a = some o → G a = none → G' a = none := fun {a o} ho g => by
      cases z : G' a with
      | none => rfl
      | some o2 =>
        rcases keep a o2 z with y | y
        · rw [g] at y; cases y
        · rw [ho] at y; cases y
    have r1 : RegsAt Ts0 F.Fr G' H' as ρ.ce := r0.same (fun i b o h hb => hh b o hb (r0.pl i b o h).2.1) (fun b o ho g => gn ho g) (fun _ z => z) fun _ _ z => .inl (sG _ _ z)
    have e' : EnvOk K F ρ as σ H' G' := envB hh0 hh sg gh' (fun a o h => (nw a o h).imp id fun w => w.imp id fun ⟨i, y⟩ => absurd rfl y) kn
    have back : ∀ a o, G1' a = some o → G' a = some o ∨ ∃ xs, o = HO.lst xs := fun a o h => by
      by_cases z : B a
      · obtain ⟨_, ws, hw⟩ := bcell a z
        rw [sg a _ (by rw [g1 a z]; exact hw)] at h
        cases h
        exact .inr ⟨_, rfl⟩
      · exact .inl (by rw [k2 a z]; exact h)
    have all : nocel xs = true → Same G1' G' := fun nc a o h => by
      rw [k2 a fun ⟨j, x, m, mj, _⟩ => nocel_mem nc x m mj]; exact h
    have noT : ∀ {p : Addr}, H p = none → ∀ i, Ts0 i p = none := fun {p} hp0 i => by
      cases z : Ts0 i p with
      | none => rfl
      | some o => have := (r0.pl i p o z).1; rw [hp0] at this; cases this
    have noAs : ∀ {p : Addr}, H p = none → p ∉ as := fun {p} hp0 m => by
      obtain ⟨j, hj⟩ := List.getElem?_of_mem m
      have hl : j < ρ.ce.length := by rw [← e.ln]; exact (List.getElem?_eq_some_iff.mp hj).1
      obtain ⟨_, ⟨o, ho⟩, _⟩ := e.ce j _ p (List.getElem?_eq_getElem hl) hj
      rw [ho] at hp0
      cases hp0
    have noB : ∀ {p : Addr}, H p = none → ¬ B p := fun {p} hp0 z => by
      obtain ⟨_, ws, hw⟩ := bcell p z
      rw [hw] at hp0
      cases hp0
    cases r with
    | ext d X =>
      obtain ⟨rd2, p, o, ⟨hp0, _⟩, _, gp, ho, okX⟩ := rr
      have hp0 : H p = none := hp0.elim id fun ⟨_, z⟩ => absurd rfl z
      refine q _ _ _ _ H' G' hp.2 (e'.ownT ho (by rw [k2 p (noB hp0)]; exact gp) (e.fh.none hp0) (noAs hp0) ⟨Ts0, r1, noT hp0⟩ (X.mono back okX)) ⟨sG, [p], rfl⟩ ?_
      rcases Bool.or_eq_true_iff.mp hp.1 with z | z
      · exact Rep.mono (all z) _ _ rd2
      · exact Rep.hard back _ _ z rd2
    | reg X =>
      obtain ⟨p, T, rfl, ⟨hp0, _⟩, _, gp, ho, okX, ht⟩ := rr
      have hp0 : H p = none := hp0.elim id fun ⟨_, z⟩ => absurd rfl z
      refine q _ _ _ _ H' G' hp (e'.ownX r1 ho (by rw [k2 p (noB hp0)]; exact gp) (e.fh.none hp0) (noAs hp0) (noT hp0) (X.mono back okX) fun b o hb => ?_) ⟨sG, [p], rfl⟩ (RepA.last e.ln)
      obtain ⟨h1, h2, ⟨h3, _⟩, _⟩ := ht b o hb
      have h3 : H b = none := h3.elim id fun ⟨_, z⟩ => absurd rfl z
      exact ⟨h1, by rw [k2 b (noB h3)]; exact h2, e.fh.none h3, noAs h3, noT h3⟩
    | dat d =>
      obtain ⟨hc, hk⟩ := hp
      refine q _ ρ v as H' G' hk e' ⟨sG, [], by simp⟩ ?_
      rcases Bool.or_eq_true_iff.mp hc with z | z
      · exact Rep.mono (all z) _ _ rr
      · exact Rep.hard back _ _ z rr
    | new es =>
      obtain ⟨hc, hk⟩ := hp
      obtain ⟨p, ws, rfl, ⟨hp0, _⟩, _, gp, hp1, hr⟩ := rr
      have hp0 : H p = none := hp0.elim id fun ⟨_, z⟩ => absurd rfl z
      have np : p ∉ as := fun m => by
        obtain ⟨j, hj⟩ := List.getElem?_of_mem m
        have hl : j < ρ.ce.length := by rw [← e.ln]; exact (List.getElem?_eq_some_iff.mp hj).1
        obtain ⟨_, ⟨o, ho⟩, _⟩ := e.ce j _ p (List.getElem?_eq_getElem hl) hj
        rw [ho] at hp0
        cases hp0
      have nb : ¬ B p := fun z => np (bas p z)
      have hr' : Reps K G' es ws := by
        rcases Bool.or_eq_true_iff.mp hc with z | z
        · exact Reps.mono (all z) _ _ hr
        · exact Reps.hard back _ _ z hr
      exact q _ _ _ _ H' G' hk (e'.ownC hp1 (by rw [k2 p nb]; exact gp) (e.fh.none hp0) np ⟨Ts0, r1, fun i => noT hp0 i⟩ hr') ⟨sG, [p], rfl⟩ (RepA.last e.ln)
    | prt as1 es bs1 =>
      obtain ⟨hc, hk⟩ := hp
      obtain ⟨t, p, w1, w2, ws, rfl, sq, ra1, ra2, ⟨hp0, _⟩, _, gp, hp1, hr⟩ := rr
      have hp0 : H p = none := hp0.elim id fun ⟨_, z⟩ => absurd rfl z
      have np : p ∉ as := fun m => by
        obtain ⟨j, hj⟩ := List.getElem?_of_mem m
        have hl : j < ρ.ce.length := by rw [← e.ln]; exact (List.getElem?_eq_some_iff.mp hj).1
        obtain ⟨_, ⟨o, ho⟩, _⟩ := e.ce j _ p (List.getElem?_eq_getElem hl) hj
        rw [ho] at hp0
        cases hp0
      have nb : ¬ B p := fun z => np (bas p z)
      obtain ⟨sq', ra1', ra2', hr'⟩ : SqT K G' t (w1 ++ .ref p :: w2) ∧ Reps K G' as1 w1 ∧ Reps K G' bs1 w2 ∧ Reps K G' es ws := by
        rcases Bool.or_eq_true_iff.mp hc with z | z
        · exact ⟨Same.seqT (all z) sq, Reps.mono (all z) _ _ ra1, Reps.mono (all z) _ _ ra2, Reps.mono (all z) _ _ hr⟩
        · rw [Bool.and_eq_true, Bool.and_eq_true] at z
          exact ⟨SqT.hard back sq, Reps.hard back _ _ z.1.1 ra1, Reps.hard back _ _ z.2 ra2, Reps.hard back _ _ z.1.2 hr⟩
      refine q _ _ _ _ H' G' hk (e'.ownC hp1 (by rw [k2 p nb]; exact gp) (e.fh.none hp0) np ⟨Ts0, r1, fun i => noT hp0 i⟩ hr') ⟨sG, [p], rfl⟩ ⟨t, _, rfl, sq', ?_⟩
      exact TNs.append (TNs.of ra1') (.cons (.cel (by rw [List.getElem?_append_right (by rw [e.ln]; exact Nat.le_refl _), e.ln, Nat.sub_self]; rfl)) (TNs.of ra2'))
  · intro C H' G1' hc fr sg gh' nw kn
    have hh0 : ∀ a o, H a = some o → ∃ u, H' a = some u ∧ erO u = erO o ∧ (G1 a = none → u = o) := fun a o h => fr a o (by simp) (fun _ => rfl) h
    have hh : ∀ a o, H a = some o → G a = none → H' a = some o := fun a o h g => by
      obtain ⟨u, hu, eu, xu⟩ := hh0 a o h
      by_cases z : B a
      · obtain ⟨_, ws, hw⟩ := bcell a z
        rw [hw] at h
        cases h
        rw [erO_ne eu (fun _ _ _ z => by cases z)] at hu
        exact hu
      · rw [xu (by rw [g2 a z]; exact g)] at hu; exact hu
    exact hE C as σ H' _ hc (envB hh0 hh sg gh' (fun a o h => (nw a o h).imp id fun w => w.imp id fun w => w.elim (fun z => nomatch z) fun ⟨i, y⟩ => absurd rfl y) kn)
/-- the same where the caller lets nothing out -/
theorem wspE {W : PW0} {E : L2.St → XK} {xs : List AV} {ds : List D} (ha : AsD ρ xs ds) (hw : W (ds.map .dat) [] (fun r _ => aft ρ xs k r) (fun _ => False)) : WpSp K F (spG K W) E xs ρ k := wsp0 ha (fun _ _ _ _ _ z => z.elim) hw
/-- and where it lets the callee's errors out -/
theorem wspX {W : PW0} {xs : List AV} {ds : List D} (ha : AsD ρ xs ds) (hw : W (ds.map .dat) [] (fun r _ => aft ρ xs k r) F.ex) : WpSp K F (spG K W) (fun _ => F.E) xs ρ k := wsp0 ha (fun C as σ H G h e => F.hE C H h e.fh e.kx) hw
/-- a cell is lent to be written -/
def lend : AV → AV
  | .cel _ => .cel 0
  | x => x
def onlyC (j : Nat) : List AV → Bool
  | [] => true
  | .cel i :: r => decide (i = j) && onlyC j r
  | .tup _ :: _ => false
  | .dat _ :: r => onlyC j r
def aft1 (ρ : En) (j : Nat) (k : AV → En → Prop) (r : RV) (cs : List Cell) : Prop := ∃ c, cs = [c] ∧ noGone cs = true ∧ match r with
  | .dat d => k (.dat d) (ρ.cell j c)
  | .new es => k (.cel ρ.ce.length) ((ρ.cell j c).add es)
  | .prt as1 es bs1 => k (.tup (as1.map .dat ++ .cel ρ.ce.length :: bs1.map .dat)) ((ρ.cell j c).add es)
  | .reg X => k (.cel ρ.ce.length) ((ρ.cell j c).addX X)
  | .ext d X => k (.dat d) ((ρ.cell j c).addT X)
theorem wsp1Q {W : PW0} {E : L2.St → XK} {xs : List AV} {j : Nat} {c : Cell} {post : RV → List Cell → Prop} {exc : Addr → Prop} (hX : ∀ C σ H, exc C → FrE F.Fr F.G0 H → F.kx H → E σ (.ref C) none H) (hj : ρ.ce[j]? = some c) (hn : noGone [c] = true) (ho : onlyC j xs = true) (hw : W (xs.map lend) [c] post exc) (hpo : ∀ r cs, post r cs → aft1 ρ j k r cs) : WpSp K F (spG K W) E xs ρ k := by
  intro as σ H G vs e rx Q q
  have hl : j < as.length := by rw [e.ln]; exact (List.getElem?_eq_some_iff.mp hj).1
  obtain ⟨a, ha⟩ : ∃ a, as[j]? = some a := ⟨_, List.getElem?_eq_getElem hl⟩
  obtain ⟨fa, hx, ok⟩ := e.ce j c a hj ha
  have rl : RepAs K G [a] (xs.map lend) vs := by
    have main : ∀ (ys : List AV) (ws : List V), onlyC j ys = true → RepAs K G as ys ws → RepAs K G [a] (ys.map lend) ws := by
      intro ys
      induction ys with
      | nil => intro ws _ r; cases r; exact .nil
      | cons y ys ih =>
        intro ws ho r
        cases r with
        | cons r1 r2 =>
          cases y with
          | tup xs => rw [onlyC] at ho; cases ho
          | dat d => exact .cons (Rep.mono (Same.refl _) _ _ r1) (ih _ ho r2)
          | cel i =>
            rw [onlyC, Bool.and_eq_true] at ho
            have ei := of_decide_eq_true ho.1
            subst ei
            obtain ⟨p, hp, rfl⟩ := r1
            rw [ha] at hp
            cases hp
            exact .cons ⟨a, rfl, rfl⟩ (ih _ ho.2 r2)
    exact main xs vs ho rx
  obtain ⟨TsE, rE⟩ := e.rg
  let Ts : Nat → Hp := fun i b => if i = 0 then TsE j b else none
  have tz : ∀ {i b}, Ts i b ≠ none → TsE j b ≠ none := fun {i b} h => by
    have h : (if i = 0 then TsE j b else none) ≠ none := h
    by_cases q : i = 0
    · rw [if_pos q] at h; exact h
    · rw [if_neg q] at h; exact absurd rfl h
  have tn : ∀ {b}, TsE j b = none → ∀ i, Ts i b = none := fun {b} h i => by
    show (if i = 0 then TsE j b else none) = none
    split
    · exact h
    · rfl
  have tp : ∀ {b}, TsE j b ≠ none → H b ≠ none ∧ G b = none ∧ F.Fr b = none ∧ ∀ k, as[k]? = some b → k = j := fun {b} h => by
    cases q : TsE j b with
    | none => exact absurd q h
    | some o =>
      obtain ⟨x, y, z, w⟩ := rE.pl j b o q
      exact ⟨by rw [x]; exact fun z => (nomatch z), y, z, w⟩
  have rL : RegsAt Ts (fun _ => none) G H [a] [c] := by
    refine ⟨fun i h b => ?_, fun i k b o u h1 h2 => ?_, fun i b o h => ?_, fun k t X p hc hp => ?_⟩
    · show (if i = 0 then TsE j b else none) = none
      by_cases q : i = 0
      · rw [if_pos q]
        refine rE.em j (fun t X z => h t X ?_) b
        rw [hj] at z
        cases z
        rw [q]
        rfl
      · rw [if_neg q]
    · have h1 : (if i = 0 then TsE j b else none) = some o := h1
      have h2 : (if k = 0 then TsE j b else none) = some u := h2
      split at h1
      · split at h2
        · omega
        · cases h2
      · cases h1
    · have h : (if i = 0 then TsE j b else none) = some o := h
      split at h
      · rename_i q
        obtain ⟨x, y, z, w⟩ := rE.pl j b o h
        refine ⟨x, y, rfl, fun k hk => ?_⟩
        cases k with
        | zero => exact q.symm
        | succ k => simp at hk
      · cases h
    · cases k with
      | zero =>
        simp at hc hp
        subst hc hp
        exact rE.ok j t X a hj ha
      | succ k => simp at hc
  obtain ⟨⟨Ck, kc1, kc2, kc3⟩, kc4⟩ := e.kp.n
  have frT : ∀ {b : Addr}, F.Fr b ≠ none → TsE j b = none := fun {b} h => by
    cases q : TsE j b with
    | none => rfl
    | some u => exact absurd (tp (b := b) (by rw [q]; exact fun z => (nomatch z))).2.2.1 h
  have frA : ∀ {b : Addr}, F.Fr b ≠ none → b ≠ a := fun {b} h z => by subst z; exact h fa
  have stp : ∀ {H' : Hp}, FrX [a] Ts G H H' → FrE F.Fr F.G0 H' := fun {H'} fr => e.step (fun b o n h => fr b o (by simpa using frA n) (tn (frT n)) h) (fun _ _ g => g)
  refine ⟨G, [a], Ts, xs.map lend, [c], _, _, e.gh, ⟨rfl, by simp, fun i c2 b hc hb => ?_⟩, rL, rl, hw, Ck, ⟨kc1, kc2⟩, ?_, fun C H' G' hc fr sG gh' nw kn => hX C σ H' hc (stp fr) (e.kp.k H' G' (Same.trans e.g0 sG) gh' (fun b o h => ?_) (KeptN.trans kc3 kc4 kn))⟩
  rotate_left 2
  · rcases nw b o h with y | y | y | ⟨i, y⟩
    · exact e.fg _ _ y
    · exact .inr (e.fh.none y)
    · rw [List.mem_singleton] at y; subst y; exact .inr fa
    · exact .inr (tp (tz y)).2.2.1
  · cases i with
    | zero => simp at hc hb; subst hc hb; exact ⟨hx, ok⟩
    | succ i => simp at hc
  · rintro r cs' v H' G' Ts' hp0 fr sG gh' nw ck rg' nwT rr kn
    obtain ⟨c', rfl, ng, hp⟩ := hpo r cs' hp0
    have fr' : ∀ b o, b ≠ a → TsE j b = none → H b = some o → G b = none → H' b = some o := fun b o n n2 h g => by
      obtain ⟨u, hu, _, xu⟩ := fr b o (by simpa using n) (tn n2) h
      rw [hu, xu g]
    obtain ⟨hx', ok'⟩ := ck.ok 0 c' a rfl rfl
    have asT : ∀ {i : Nat} {b : Addr}, i ≠ j → as[i]? = some b → TsE j b = none := fun {i b} ne hb => by
      cases q : TsE j b with
      | none => rfl
      | some u => exact absurd ((tp (b := b) (by rw [q]; exact fun z => (nomatch z))).2.2.2 i hb) ne
    have gn : ∀ {b : Addr} {o : HO}, TsE j b = none → H b = some o → G b = none → G' b = none := fun {b o} n ho g => by
      cases z : G' b with
      | none => rfl
      | some o2 =>
        rcases nw b o2 z with y | y | ⟨i, y⟩
        · rw [g] at y; cases y
        · rw [ho] at y; cases y
        · exact absurd n (tz y)
    have alo : ∀ {i : Nat} {b : Addr}, as[i]? = some b → ∃ o, H b = some o := fun {i b} hb => by
      have hil : i < ρ.ce.length := by rw [← e.ln]; exact (List.getElem?_eq_some_iff.mp hb).1
      exact (e.ce i _ b (List.getElem?_eq_getElem hil) hb).2.1
    have injA : ∀ {i : Nat} {b : Addr}, as[i]? = some b → b = a → i = j := fun {i b} hb z => by
      subst z
      exact (List.getElem?_inj (List.getElem?_eq_some_iff.mp hb).1 e.nd).mp (hb.trans ha.symm)
    have rN : RegsAt (fun i b => if i = j then Ts' 0 b else TsE i b) F.Fr G' H' as (ρ.ce.set j c') := by
      refine ⟨fun i h b => ?_, fun i k b o u h1 h2 => ?_, fun i b o h => ?_, fun k t X p hc hp => ?_⟩
      · show (if i = j then Ts' 0 b else TsE i b) = none
        by_cases q : i = j
        · rw [if_pos q]
          refine rg'.em 0 (fun t X z => h t X ?_) b
          simp at z
          rw [q, List.getElem?_set_self (by rw [← e.ln]; exact hl), z]
        · rw [if_neg q]
          refine rE.em i (fun t X z => h t X ?_) b
          rw [List.getElem?_set_ne (fun z => q z.symm)]
          exact z
      · have h1 : (if i = j then Ts' 0 b else TsE i b) = some o := h1
        have h2 : (if k = j then Ts' 0 b else TsE k b) = some u := h2
        have mix : ∀ {k : Nat} {o u : HO}, k ≠ j → Ts' 0 b = some o → TsE k b = some u → False := fun {k o u} ne x y => by
          obtain ⟨y1, _, _, y4⟩ := rE.pl k b u y
          rcases nwT 0 b o x with z | z | ⟨m, z⟩
          · rw [y1] at z; cases z
          · rw [List.mem_singleton] at z
            subst z
            exact ne (y4 j ha).symm
          · have z := tz z
            cases q : TsE j b with
            | none => exact z q
            | some w => exact ne (rE.dj k j b u w y q)
        by_cases q1 : i = j
        · by_cases q2 : k = j
          · rw [q1, q2]
          · rw [if_pos q1] at h1
            rw [if_neg q2] at h2
            exact (mix q2 h1 h2).elim
        · rw [if_neg q1] at h1
          by_cases q2 : k = j
          · rw [if_pos q2] at h2
            exact (mix q1 h2 h1).elim
          · rw [if_neg q2] at h2
            exact rE.dj i k b o u h1 h2
      · have h : (if i = j then Ts' 0 b else TsE i b) = some o := h
        by_cases q : i = j
        · rw [if_pos q] at h
          obtain ⟨x, y, _, _⟩ := rg'.pl 0 b o h
          refine ⟨x, y, ?_, fun k hk => ?_⟩
          · rcases nwT 0 b o h with z | z | ⟨m, z⟩
            · exact e.fh.none z
            · rw [List.mem_singleton] at z; subst z; exact fa
            · exact (tp (tz z)).2.2.1
          · rw [q]
            rcases nwT 0 b o h with z | z | ⟨m, z⟩
            · obtain ⟨u, hu⟩ := alo hk
              rw [hu] at z; cases z
            · rw [List.mem_singleton] at z; exact injA hk z
            · exact (tp (tz z)).2.2.2 k hk
        · rw [if_neg q] at h
          obtain ⟨x, y, z, w⟩ := rE.pl i b o h
          have nb : b ≠ a := fun u => by subst u; exact q (w j ha).symm
          have nT : TsE j b = none := by
            cases u : TsE j b with
            | none => rfl
            | some o2 => exact absurd (rE.dj i j b o o2 h u) q
          exact ⟨fr' b o nb nT x y, gn nT x y, z, w⟩
      · by_cases q : k = j
        · have hc : (ρ.ce.set j c')[k]? = some (Cell.reg t X) := hc
          rw [q, List.getElem?_set_self (by rw [← e.ln]; exact hl)] at hc
          rw [q, ha] at hp
          cases hp
          have := rg'.ok 0 t X a (by simpa using hc) rfl
          refine ⟨this.1, ?_⟩
          show X.ok (fun b => if k = j then Ts' 0 b else TsE k b) G' a
          simp only [if_pos q]
          exact this.2
        · rw [List.getElem?_set_ne (fun z => q z.symm)] at hc
          obtain ⟨x, y⟩ := rE.ok k t X p hc hp
          refine ⟨x, ?_⟩
          show X.ok (fun b => if k = j then Ts' 0 b else TsE k b) G' p
          simp only [if_neg q]
          exact X.mono (fun _ _ z => .inl (sG _ _ z)) y
    have e' : EnvOk K F (ρ.cell j c') as σ H' G' := by
      refine ⟨⟨KeptN.trans kc3 kc4 kn, e.kp.k⟩, gh', stp fr, fun b o h => ?_, Same.trans e.g0 sG, e.nd, e.pr, by rw [e.ln]; exact (List.length_set).symm, fun i c2 b hc hb => ?_, e.sn, fun i av hi => ?_, ⟨_, rN⟩⟩
      · rcases nw b o h with y | y | ⟨i, y⟩
        · exact e.fg _ _ y
        · exact .inr (e.fh.none y)
        · exact .inr (tp (tz y)).2.2.1
      · have hc' : (ρ.ce.set j c')[i]? = some c2 := hc
        by_cases hij : j = i
        · subst hij
          rw [List.getElem?_set_self (by rw [← e.ln]; exact hl)] at hc'
          cases hc'
          rw [ha] at hb
          cases hb
          exact ⟨fa, hx', ok'⟩
        · rw [List.getElem?_set_ne hij] at hc'
          obtain ⟨fb, ⟨o, ho⟩, okb⟩ := e.ce i c2 b hc' hb
          have nb : b ≠ a := fun z => hij (injA hb z).symm
          have nT := asT (fun z => hij z.symm) hb
          have fr2 : ∀ o, H b = some o → G b = none → H' b = some o := fun o h g => fr' b o nb nT h g
          have al : ∃ o, H' b = some o := by obtain ⟨u, hu, _⟩ := fr b o (by simpa using nb) (tn nT) ho; exact ⟨u, hu⟩
          refine ⟨fb, al, ?_⟩
          cases c2 with
          | gone => trivial
          | reg t X => exact gn nT ho okb
          | lst es => obtain ⟨g, ws, hw, r⟩ := okb; exact ⟨gn nT ho g, ws, fr2 _ hw g, Reps.mono sG _ _ r⟩
          | ins C9 ns9 es => obtain ⟨g, dx9, ws, hw, ln9, r⟩ := okb; exact ⟨gn nT ho g, dx9, ws, fr2 _ hw g, ln9, Reps.mono sG _ _ r⟩
          | drw => obtain ⟨g, ws, hw, r⟩ := okb; exact ⟨gn nT ho g, ws, fr2 _ hw g, r⟩
          | oth X => obtain ⟨g, o9, hw, r⟩ := okb; exact ⟨gn nT ho g, o9, fr2 _ hw g, X.mono (fun _ _ z => .inl (sG _ _ z)) r⟩
      · obtain ⟨v, hv, r⟩ := e.sl i av hi
        exact ⟨v, hv, r.mono ⟨sG, [], by simp⟩⟩
    have eln : as.length = (ρ.cell j c').ce.length := e'.ln
    have newF : ∀ {p : Addr}, NewA H [a] Ts p → F.Fr p = none ∧ p ∉ as ∧ ∀ i, i ≠ j → TsE i p = none := fun {p} ⟨h1, h2⟩ => by
      have na : p ≠ a := by simpa using h2
      rcases h1 with h1 | ⟨i, h1⟩
      · refine ⟨e.fh.none h1, fun m => ?_, fun i _ => ?_⟩
        · obtain ⟨i, hi⟩ := List.getElem?_of_mem m
          obtain ⟨o, ho⟩ := alo hi
          rw [ho] at h1
          cases h1
        · cases z : TsE i p with
          | none => rfl
          | some o => have := (rE.pl i p o z).1; rw [h1] at this; cases this
      · have h1 := tz h1
        obtain ⟨_, _, x, y⟩ := tp h1
        refine ⟨x, fun m => ?_, fun i ne => ?_⟩
        · obtain ⟨i, hi⟩ := List.getElem?_of_mem m
          have := y i hi
          subst this
          rw [ha] at hi
          exact na (Option.some.inj hi).symm
        · cases z : TsE i p with
          | none => rfl
          | some o =>
            cases u : TsE j p with
            | none => exact absurd u h1
            | some o2 => exact absurd (rE.dj i j p o o2 z u) ne
    have noT : ∀ {p : Addr}, NewA H [a] Ts p → (∀ i, Ts' i p = none) → ∀ i, (if i = j then Ts' 0 p else TsE i p) = none := fun {p} h1 h2 i => by
      by_cases q : i = j
      · rw [if_pos q]; exact h2 0
      · rw [if_neg q]; exact (newF h1).2.2 i q
    cases r with
    | dat d => exact q _ _ v as H' G' hp e' ⟨sG, [], by simp⟩ rr
    | ext d X =>
      obtain ⟨rd2, p, o, hp0, tz0, gp, ho, okX⟩ := rr
      obtain ⟨f1, f2, f3⟩ := newF hp0
      exact q _ _ _ _ H' G' hp (e'.ownT ho gp f1 f2 ⟨_, rN, noT hp0 tz0⟩ okX) ⟨sG, [p], rfl⟩ rd2
    | reg X =>
      obtain ⟨p, T, rfl, hp0, tz0, gp, ho, okX, ht⟩ := rr
      obtain ⟨f1, f2, f3⟩ := newF hp0
      exact q _ _ _ _ H' G' hp (e'.ownX rN ho gp f1 f2 (noT hp0 tz0) okX fun b o hb => by
        obtain ⟨h1, h2, h3, h4⟩ := ht b o hb
        obtain ⟨x1, x2, x3⟩ := newF h3
        exact ⟨h1, h2, x1, x2, noT h3 h4⟩) ⟨sG, [p], rfl⟩ (RepA.last e.ln)
    | prt as1 es bs1 =>
      obtain ⟨t, p, w1, w2, ws, rfl, sq, ra1, ra2, hp0, tz0, gp, hp1, hr⟩ := rr
      obtain ⟨f1, f2, f3⟩ := newF hp0
      refine q _ _ _ _ H' G' hp (e'.ownC hp1 gp f1 f2 ⟨_, rN, noT hp0 tz0⟩ hr) ⟨sG, [p], rfl⟩ ⟨t, _, rfl, sq, ?_⟩
      exact TNs.append (TNs.of ra1) (.cons (.cel (by rw [List.getElem?_append_right (by rw [e.ln]; exact Nat.le_refl _), e.ln, Nat.sub_self]; rfl)) (TNs.of ra2))
    | new es =>
      obtain ⟨p, ws, rfl, hp0, tz0, gp, hp1, hr⟩ := rr
      obtain ⟨f1, f2, f3⟩ := newF hp0
      exact q _ _ _ _ H' G' hp (e'.ownC hp1 gp f1 f2 ⟨_, rN, noT hp0 tz0⟩ hr) ⟨sG, [p], rfl⟩ (RepA.last e.ln)
theorem wsp1P {W : PW0} {E : L2.St → XK} {xs : List AV} {j : Nat} {c : Cell} {post : RV → List Cell → Prop} (hj : ρ.ce[j]? = some c) (hn : noGone [c] = true) (ho : onlyC j xs = true) (hw : W (xs.map lend) [c] post (fun _ => False)) (hpo : ∀ r cs, post r cs → aft1 ρ j k r cs) : WpSp K F (spG K W) E xs ρ k := wsp1Q (fun _ _ _ z _ _ => z.elim) hj hn ho hw hpo
/-- .. its errors are let out -/
theorem wsp1X {W : PW0} {xs : List AV} {j : Nat} {c : Cell} (hj : ρ.ce[j]? = some c) (hn : noGone [c] = true) (ho : onlyC j xs = true) (hw : W (xs.map lend) [c] (fun r cs => aft1 ρ j k r cs) F.ex) : WpSp K F (spG K W) (fun _ => F.E) xs ρ k := wsp1Q (fun C _ H hc s kk => F.hE C H hc s kk) hj hn ho hw fun _ _ z => z
theorem wsp1 {W : PW0} {E : L2.St → XK} {xs : List AV} {j : Nat} {c : Cell} (hj : ρ.ce[j]? = some c) (hn : noGone [c] = true) (ho : onlyC j xs = true) (hw : W (xs.map lend) [c] (fun r cs => aft1 ρ j k r cs) (fun _ => False)) : WpSp K F (spG K W) E xs ρ k := wsp1P hj hn ho hw fun _ _ z => z
/-- one cell lent to be written, others to be read -/
inductive AsL (ρ : En) (j : Nat) : List AV → List AV → Prop
  | nil : AsL ρ j [] []
  | dat {d : D} {xs ys : List AV} : AsL ρ j xs ys → AsL ρ j (.dat d :: xs) (.dat d :: ys)
  | own {xs ys : List AV} : AsL ρ j xs ys → AsL ρ j (.cel j :: xs) (.cel 0 :: ys)
  | cel {i : Nat} {es : List D} {xs ys : List AV} : i ≠ j → ρ.ce[i]? = some (.lst es) → AsL ρ j xs ys → AsL ρ j (.cel i :: xs) (.dat (.lst es) :: ys)
theorem AsL.mem {j : Nat} {xs ys : List AV} (h : AsL ρ j xs ys) {i : Nat} (m : .cel i ∈ xs) : i = j ∨ ∃ es, ρ.ce[i]? = some (.lst es) := by
  induction h with
  | nil => cases m
  | dat _ ih => rcases List.mem_cons.mp m with z | z; (cases z); exact ih z
  | own _ ih => rcases List.mem_cons.mp m with z | z; (cases z; exact .inl rfl); exact ih z
  | cel _ hc _ ih => rcases List.mem_cons.mp m with z | z; (cases z; exact .inr ⟨_, hc⟩); exact ih z
def aft2 (ρ : En) (j : Nat) (k : AV → En → Prop) (r : RV) (cs : List Cell) : Prop := cs = [.drw] ∧ match r with
  | .dat d => hard d = true ∧ k (.dat d) (ρ.cell j .drw)
  | .new es => hards es = true ∧ k (.cel ρ.ce.length) ((ρ.cell j .drw).add es)
  | .prt _ _ _ => False
  | .reg _ => False
  | .ext _ _ => False
open Classical in
theorem wsp2P {W : PW0} {E : L2.St → XK} {xs ys : List AV} {j : Nat} {c : Cell} {post : RV → List Cell → Prop} (hj : ρ.ce[j]? = some c) (hn : noGone [c] = true) (nr : ∀ t X, c ≠ Cell.reg t X) (ha : AsL ρ j xs ys) (hw : W ys [c] post (fun _ => False)) (hpo : ∀ r cs, post r cs → aft2 ρ j k r cs) : WpSp K F (spG K W) E xs ρ k := by
  intro as σ H G vs e rx Q q
  have hl : j < as.length := by rw [e.ln]; exact (List.getElem?_eq_some_iff.mp hj).1
  obtain ⟨a, haj⟩ : ∃ a, as[j]? = some a := ⟨_, List.getElem?_eq_getElem hl⟩
  obtain ⟨fa, hx, ok⟩ := e.ce j c a hj haj
  have cg : c ≠ .gone := fun z => by subst z; rw [noGone] at hn; cases hn
  have apart : ∀ {i : Nat} {b : Addr}, i ≠ j → as[i]? = some b → b ≠ a := fun ne hb z => by
    subst z
    exact ne ((List.getElem?_inj (List.getElem?_eq_some_iff.mp hb).1 e.nd).mp (hb.trans haj.symm))
  let B : Addr → Prop := fun b => ∃ i : Nat, i ≠ j ∧ .cel i ∈ xs ∧ as[i]? = some b
  have bcell : ∀ b, B b → G b = none ∧ ∃ ws, H b = some (.lst ws) := fun b ⟨i, ne, m, hi⟩ => by
    rcases ha.mem m with z | ⟨es, hc⟩
    · exact absurd z ne
    obtain ⟨_, _, g, ws, hw, _⟩ := e.ce i _ b hc hi
    exact ⟨g, ws, hw⟩
  have nBa : ¬ B a := fun ⟨i, ne, _, hi⟩ => apart ne hi rfl
  let G1 : Hp := fun b => if B b then H b else G b
  have g1 : ∀ b, B b → G1 b = H b := fun b h => if_pos h
  have g2 : ∀ b, ¬ B b → G1 b = G b := fun b h => if_neg h
  have s1 : Same G G1 := fun b o h => by
    rw [g2 b fun z => by rw [(bcell b z).1] at h; cases h]; exact h
  have h1 : Same (er G1) (er H) := fun b o h => by
    by_cases z : B b
    · obtain ⟨u, hu, eu⟩ := er_some h
      rw [g1 b z] at hu
      rw [er_of hu, eu]
    · obtain ⟨u, hu, eu⟩ := er_some h
      rw [g2 b z] at hu
      exact e.gh _ _ (by rw [er_of hu, eu])
  have ok1 : CellOk K G1 H a c := by
    cases c with
    | gone => trivial
    | reg t X => exact absurd rfl (nr t X)
    | lst es => obtain ⟨g, ws, hw, r⟩ := ok; exact ⟨by rw [g2 a nBa]; exact g, ws, hw, Reps.mono s1 _ _ r⟩
    | ins C9 ns9 es => obtain ⟨g, dx9, ws, hw, ln9, r⟩ := ok; exact ⟨by rw [g2 a nBa]; exact g, dx9, ws, hw, ln9, Reps.mono s1 _ _ r⟩
    | drw => obtain ⟨g, ws, hw, r⟩ := ok; exact ⟨by rw [g2 a nBa]; exact g, ws, hw, r⟩
    | oth X => obtain ⟨g, o9, hw, r⟩ := ok; exact ⟨by rw [g2 a nBa]; exact g, o9, hw, X.mono (fun _ _ z => .inl (s1 _ _ z)) r⟩
  have rd : RepAs K G1 [a] ys vs := by
    have main : ∀ (zs es : List AV) (ws : List V), (∀ i, .cel i ∈ zs → .cel i ∈ xs) → AsL ρ j zs es → RepAs K G as zs ws → RepAs K G1 [a] es ws := by
      intro zs es ws sub hd
      induction hd generalizing ws with
      | nil => intro r; cases r; exact .nil
      | dat _ ih =>
        intro r
        cases r with
        | cons a b => exact .cons (Rep.mono s1 _ _ a) (ih _ (fun j m => sub j (List.mem_cons_of_mem _ m)) b)
      | own _ ih =>
        intro r
        cases r with
        | cons r1 b =>
          obtain ⟨p, hp, rfl⟩ := r1
          rw [haj] at hp
          cases hp
          exact .cons ⟨a, rfl, rfl⟩ (ih _ (fun j m => sub j (List.mem_cons_of_mem _ m)) b)
      | @cel i es2 ys2 ds2 ne hc _ ih =>
        intro r
        cases r with
        | cons r1 b =>
          obtain ⟨p, hp, rfl⟩ := r1
          obtain ⟨_, _, g, us, hu, hr⟩ := e.ce i _ p hc hp
          refine .cons ?_ (ih _ (fun j m => sub j (List.mem_cons_of_mem _ m)) b)
          exact Rep.lst (by rw [g1 p ⟨i, ne, sub i List.mem_cons_self, hp⟩]; exact hu) (Reps.mono s1 _ _ hr)
    exact main xs ys vs (fun _ m => m) ha rx
  obtain ⟨Ts0, r0⟩ := e.rg
  obtain ⟨⟨Ck, kc1, kc2, kc3⟩, kc4⟩ := e.kp.n
  refine ⟨G1, [a], fun _ _ => none, ys, [c], _, _, h1, ⟨rfl, by simp, fun i c2 b hc hb => ?_⟩, RegsAt.no (fun k t X z => ?_), rd, hw, Ck, ⟨fun a C dx fs n g h l m q gs v hg mv => kc1 a C dx fs n g (by
    by_cases z : B a
    · obtain ⟨_, ws, hw⟩ := bcell a z
      rw [g1 a z, hw] at h; cases h
    · rw [g2 a z] at h; exact h) l m q gs v hg mv, Same.trans kc2 s1⟩, ?_, fun _ _ _ z => z.elim⟩
  · cases i with
    | zero => simp at hc hb; subst hc hb; exact ⟨hx, ok1⟩
    | succ i => simp at hc
  · cases k with
    | zero => simp at z; exact nr t X z
    | succ k => simp at z
  rintro r cs' v H' G1' Ts' hp0 fr sg gh' nw ck _ _ rr kn
  obtain ⟨rfl, hp⟩ := hpo r cs' hp0
  have fr0 : ∀ b o, b ≠ a → H b = some o → ∃ u, H' b = some u ∧ erO u = erO o ∧ (G1 b = none → u = o) := fun b o n h => fr b o (by simpa using n) (fun _ => rfl) h
  have fr' : ∀ b o, b ≠ a → H b = some o → G b = none → H' b = some o := fun b o n h g => by
    obtain ⟨u, hu, eu, xu⟩ := fr0 b o n h
    by_cases z : B b
    · obtain ⟨_, ws, hw⟩ := bcell b z
      rw [hw] at h
      cases h
      rw [erO_ne eu (fun _ _ _ z => by cases z)] at hu
      exact hu
    · rw [xu (by rw [g2 b z]; exact g)] at hu; exact hu
  obtain ⟨hx', ok'⟩ := ck.ok 0 .drw a rfl rfl
  let G' : Hp := fun b => if B b then none else G1' b
  have k1 : ∀ b, B b → G' b = none := fun b h => if_pos h
  have k2 : ∀ b, ¬ B b → G' b = G1' b := fun b h => if_neg h
  have sG : Same G G' := fun b o h => by
    have nb : ¬ B b := fun z => by rw [(bcell b z).1] at h; cases h
    rw [k2 b nb]; exact sg _ _ (s1 _ _ h)
  have keep : ∀ a o, G' a = some o → G a = some o ∨ H a = none := fun a o h => by
    by_cases z : B a
    · rw [k1 a z] at h; cases h
    · rw [k2 a z] at h
      rcases nw a o h with y | y | ⟨_, y⟩
      · rw [g2 a z] at y; exact .inl y
      · exact .inr y
      · exact absurd rfl y
  have back : ∀ a o, G1' a = some o → G' a = some o ∨ ∃ xs, o = HO.lst xs := fun a o h => by
    by_cases z : B a
    · obtain ⟨_, ws, hw⟩ := bcell a z
      rw [sg a _ (by rw [g1 a z]; exact hw)] at h
      cases h
      exact .inr ⟨_, rfl⟩
    · exact .inl (by rw [k2 a z]; exact h)
  have gn : ∀ {b : Addr} {o : HO}, H b = some o → G b = none → G' b = none := fun {b o} ho g => by
    cases z : G' b with
    | none => rfl
    | some o2 =>
      rcases keep b o2 z with y | y
      · rw [g] at y; cases y
      · rw [ho] at y; cases y
  have le : ∀ a o, G' a = some o → G1' a = some o := fun a o h => by
    by_cases z : B a
    · rw [k1 a z] at h; cases h
    · rw [k2 a z] at h; exact h
  have rN : ∃ Ts', RegsAt Ts' F.Fr G' H' as (ρ.ce.set j .drw) ∧ ∀ i b o, Ts' i b = some o → Ts0 i b = some o := by
    have r1 : RegsAt Ts0 F.Fr G H as ρ.ce := r0
    have ne : ∀ i t X, (ρ.ce.set j Cell.drw)[i]? = some (Cell.reg t X) → i ≠ j ∧ ρ.ce[i]? = some (Cell.reg t X) := fun i t X h => by
      by_cases q : j = i
      · subst q
        rw [List.getElem?_set] at h
        split at h
        · split at h
          · cases h
          · cases h
        · rename_i z; exact absurd rfl z
      · rw [List.getElem?_set_ne q] at h
        exact ⟨fun z => q z.symm, h⟩
    refine r1.subS (fun i t X h => ⟨(ne i t X h).2, rfl⟩) (fun i b h => .inr h) (fun i t X b o h hb => ?_) (fun a o z => .inl (sG a o z))
    obtain ⟨x, y, z, w⟩ := r1.pl i b o hb
    have nb : b ≠ a := fun q => by subst q; exact (ne i t X h).1 (w j haj).symm
    exact ⟨fr' b o nb x y, gn x y, z⟩
  have kpN : KpOk K F H' G' := ⟨KeptN.trans kc3 kc4 (kn.trim le fun a o h1 h2 => by
    have nb : ¬ B a := fun z => by
      obtain ⟨gb, ws, hw⟩ := bcell a z
      rcases h2 with h2 | h2 | h2
      · rw [kc2 a o h2] at gb; cases gb
      · rw [hw] at h2; cases h2
      · have := sg a _ (by rw [g1 a z]; exact hw)
        rw [h1] at this
        cases this
        exact h2 ws rfl
    rw [k2 a nb]; exact h1), e.kp.k⟩
  have nbF : ∀ a, F.Fr a ≠ none → ¬ B a := fun b n ⟨i, ne, m, hi⟩ => by
    rcases ha.mem m with z | ⟨es, hc⟩
    · exact absurd z ne
    · exact n (e.ce i _ b hc hi).1
  have okc : CellOk K G' H' a .drw → EnvOk K F (ρ.cell j .drw) as σ H' G' := fun okk => by
    refine ⟨kpN, fun a o h => ?_, e.step (fun b o n h => fr0 b o (fun z => by subst z; exact n fa) h) (fun b n g => by rw [g2 b (nbF b n)]; exact g), fun b o h => ?_, Same.trans e.g0 sG, e.nd, e.pr, by rw [e.ln]; exact (List.length_set).symm, fun i c2 b hc hb => ?_, e.sn, fun i av hi => ?_, let ⟨T, h, _⟩ := rN; ⟨T, h⟩⟩
    · obtain ⟨u, hu, eu⟩ := er_some h
      exact gh' _ _ (by rw [er_of (le _ _ hu), eu])
    · rcases keep b o h with y | y
      · exact e.fg _ _ y
      · exact .inr (e.fh.none y)
    · have hc' : (ρ.ce.set j .drw)[i]? = some c2 := hc
      by_cases hij : j = i
      · subst hij
        rw [List.getElem?_set_self (by rw [← e.ln]; exact hl)] at hc'
        cases hc'
        rw [haj] at hb
        cases hb
        exact ⟨fa, hx', okk⟩
      · rw [List.getElem?_set_ne hij] at hc'
        obtain ⟨fb, ⟨o, ho⟩, okb⟩ := e.ce i c2 b hc' hb
        have nb : b ≠ a := apart (fun z => hij z.symm) hb
        refine ⟨fb, let ⟨u, hu, _⟩ := fr0 _ _ nb ho; ⟨u, hu⟩, ?_⟩
        cases c2 with
        | gone => trivial
        | reg t X => exact gn ho okb
        | lst es => obtain ⟨g, ws, hw, r⟩ := okb; exact ⟨gn ho g, ws, fr' _ _ nb hw g, Reps.mono sG _ _ r⟩
        | ins C9 ns9 es => obtain ⟨g, dx9, ws, hw, ln9, r⟩ := okb; exact ⟨gn ho g, dx9, ws, fr' _ _ nb hw g, ln9, Reps.mono sG _ _ r⟩
        | drw => obtain ⟨g, ws, hw, r⟩ := okb; exact ⟨gn ho g, ws, fr' _ _ nb hw g, r⟩
        | oth X => obtain ⟨g, o9, hw, r⟩ := okb; exact ⟨gn ho g, o9, fr' _ _ nb hw g, X.mono (fun _ _ z => .inl (sG _ _ z)) r⟩
    · obtain ⟨v, hv, r⟩ := e.sl i av hi
      exact ⟨v, hv, r.mono ⟨sG, [], by simp⟩⟩
  have gA : G1' a = none → G' a = none := fun z => by rw [k2 a nBa]; exact z
  have finish : EnvOk K F (ρ.cell j .drw) as σ H' G' → Q v H' := fun e' => by
    cases r with
    | dat d => exact q _ _ v as H' G' hp.2 e' ⟨sG, [], by simp⟩ (Rep.hard back _ _ hp.1 rr)
    | prt _ _ _ => exact hp.elim
    | reg _ => exact hp.elim
    | ext _ _ => exact hp.elim
    | new es =>
      obtain ⟨p, ws, rfl, ⟨hp0, _⟩, _, gp, hp1, hr⟩ := rr
      have hp0 : H p = none := hp0.elim id fun ⟨_, z⟩ => absurd rfl z
      have np : p ∉ as := fun m => by
        obtain ⟨i, hi⟩ := List.getElem?_of_mem m
        have hil : i < ρ.ce.length := by rw [← e.ln]; exact (List.getElem?_eq_some_iff.mp hi).1
        obtain ⟨_, ⟨o, ho⟩, _⟩ := e.ce i _ p (List.getElem?_eq_getElem hil) hi
        rw [ho] at hp0
        cases hp0
      have nb : ¬ B p := fun ⟨i, _, _, hi⟩ => np (List.mem_of_getElem? hi)
      exact q _ _ _ _ H' G' hp.2 (e'.ownC hp1 (by rw [k2 p nb]; exact gp) (e.fh.none hp0) np (by
        obtain ⟨Ts1, r1, s1⟩ := rN
        exact ⟨Ts1, r1, fun i => by
          cases z : Ts1 i p with
          | none => rfl
          | some o => have := (r0.pl i p o (s1 i p o z)).1; rw [hp0] at this; cases this⟩) (Reps.hard back _ _ hp.1 hr)) ⟨sG, [p], rfl⟩ (RepA.last e.ln)
  obtain ⟨g, ws, hw, r⟩ := ok'
  exact finish (okc ⟨gA g, ws, hw, r⟩)
end
section
variable {K : PySem.W.Frag} {F : Fx} {ρ : En} {k : AV → En → Prop}
def aftD (ρ : En) (j : Nat) (xs : List AV) (k : AV → En → Prop) : RV → Prop
  | .dat d => (onlyC j xs || hard d) = true ∧ k (.dat d) ρ
  | .new es => (onlyC j xs || hards es) = true ∧ k (.cel ρ.ce.length) (ρ.add es)
  | .prt as1 es bs1 => onlyC j xs = true ∧ k (.tup (as1.map .dat ++ .cel ρ.ce.length :: bs1.map .dat)) (ρ.add es)
  | .reg X => onlyC j xs = true ∧ k (.cel ρ.ce.length) (ρ.addX X)
  | .ext _ _ => False
theorem AsL.lend {j : Nat} {xs ys : List AV} (h : AsL ρ j xs ys) (o : onlyC j xs = true) : ys = xs.map LK.lend := by
  induction h with
  | nil => rfl
  | dat _ ih => rw [ih o]; rfl
  | own _ ih => rw [onlyC, Bool.and_eq_true] at o; rw [ih o.2]; rfl
  | cel ne _ _ ih => rw [onlyC, Bool.and_eq_true] at o; exact absurd (of_decide_eq_true o.1) ne
/-- a call that draws from the state at j -/
theorem wspD {W : PW0} {E : L2.St → XK} {xs ys : List AV} {j : Nat} (hj : ρ.ce[j]? = some .drw) (ha : AsL ρ j xs ys) (hw : W ys [.drw] (fun r cs => cs = [.drw] ∧ aftD ρ j xs k r) (fun _ => False)) : WpSp K F (spG K W) E xs ρ k := by
  have es : ρ.cell j .drw = ρ := by
    obtain ⟨sl, ce⟩ := ρ
    show En.mk sl (ce.set j .drw) = ⟨sl, ce⟩
    have hl : j < ce.length := (List.getElem?_eq_some_iff.mp hj).1
    have he : ce[j] = .drw := (List.getElem?_eq_some_iff.mp hj).2
    rw [← he, List.set_getElem_self]
  cases o : onlyC j xs with
  | true =>
    refine wsp1P hj rfl o (by rw [← ha.lend o]; exact hw) ?_
    rintro r cs ⟨rfl, h⟩
    refine ⟨.drw, rfl, rfl, ?_⟩
    cases r with
    | dat d => rw [es]; exact h.2
    | prt _ _ _ => rw [es]; exact h.2
    | reg _ => rw [es]; exact h.2
    | ext _ _ => exact h.elim
    | new es2 => rw [es]; exact h.2
  | false =>
    refine wsp2P hj rfl (fun _ _ z => nomatch z) ha hw ?_
    rintro r cs ⟨rfl, h⟩
    refine ⟨rfl, ?_⟩
    cases r with
    | prt _ _ _ => exact absurd h.1 (by rw [o]; decide)
    | reg _ => exact absurd h.1 (by rw [o]; decide)
    | ext _ _ => exact h.elim
    | dat d =>
      obtain ⟨h1, h2⟩ := h
      rw [o, Bool.false_or] at h1
      rw [es]
      exact ⟨h1, h2⟩
    | new es2 =>
      obtain ⟨h1, h2⟩ := h
      rw [o, Bool.false_or] at h1
      rw [es]
      exact ⟨h1, h2⟩
end
theorem spG_len {K : PySem.W.Frag} {W : PW0} {vs : List V} {H : Hp} {Q : VK} {E : XK} {n : Nat} (h : spG K W vs H Q E) (hl : ∀ xs cs post exc, W xs cs post exc → xs.length = n) : vs.length = n := by
  obtain ⟨G, as, Ts, xs, cs, post, exc, _, _, _, rx, hw, _⟩ := h
  rw [rx.length]
  exact hl _ _ _ _ hw
/-! ### rules of the data layer: kinds, ==, comprehensions, errors -/
section
variable {K : PySem.W.Frag} {F : Fx} {ρ : En} {k : AV → En → Prop} {kb : Bool → En → Prop} {ks : KS} {t u : TS} {ta tb te : TE} {tt tu : TT}
/-- the built-in class of data -/
def tyD : D → Option String
  | .non => some "NoneType" | .bl _ => some "bool" | .int _ => some "int" | .str _ => some "str" | .tup _ => some "tuple" | .lst _ => some "list" | .scr _ => some "list" | .dic => some "dict" | _ => none
theorem SqL.ty {H : Hp} {a : Addr} {vs : List V} (h : SqL K H a vs) : TyX K H (.ref a) (.type "list") := by
  rcases h with (h | ⟨o, h⟩) | ⟨o, its, n, h1, h2, _⟩
  · exact .base (.lst h)
  · exact .base (.frz h)
  · exact .kList h1 h2
theorem SqT.ty {H : Hp} {a : Addr} {vs : List V} (h : SqT K H a vs) : TyX K H (.ref a) (.type "tuple") := by
  rcases h with (h | ⟨o, h⟩) | ⟨o, its, n, h1, h2, _⟩
  · exact .base (.tup h)
  · exact .fTuple h
  · exact .kTuple h1 h2
theorem tyD_rep {H G : Hp} {d : D} {v : V} {T : String} (gh : Same (er G) (er H)) (r : Rep K G d v) (h : tyD d = some T) : TyX K H v (.type T) := by
  cases d with
  | non => cases h; cases r; exact .base .non
  | bl b => cases h; cases r; exact .base (.bl b)
  | int i => cases h; cases r; exact .base (.int i)
  | str x => cases h; cases r; exact .base (.str x)
  | tup ds => cases h; obtain ⟨a, vs, rfl, hs, _⟩ := Rep.tupE r; exact SqT.ty (er_gT gh hs)
  | lst ds => cases h; obtain ⟨a, vs, rfl, hs, _⟩ := Rep.lstE r; exact SqL.ty (SqL.of (er_gL gh hs))
  | scr ds => cases h; obtain ⟨a, vs, rfl, hs, _⟩ := Rep.scrE r; exact SqL.ty (er_gS gh hs)
  | obj C ns ds => cases h
  | dic => cases h; obtain ⟨a, kvs, rfl, hs⟩ := Rep.dicE r; exact .base (.dK (er_gX gh hs (fun _ _ _ z => by cases z)))
  | ty n => cases h
  | cls C => cases h
/-- isinstance by built-in classes -/
def isT (T : String) (d : D) : Bool := match tyD d with
  | some "int" => T == "int"
  | some "bool" => T == "int" || T == "bool"
  | some s => T == s
  | none => false
def isA (T : String) : AV → Bool
  | .dat d => isT T d
  | .cel _ => T == "list"
  | .tup _ => T == "tuple"
theorem wc_isiB {T s : String} {d : D} {b : Bool} (h1 : tyD d = some s) (h2 : kitB s T = some b) (hk : k (.dat (.bl b)) ρ) : WpC K F (rIsi K) [.dat d, .dat (.ty T)] ρ k := fun as σ H G vs e r Q q => by
  cases r with
  | cons r1 c =>
    cases c with
    | cons r2 c =>
      cases c
      cases (show Rep K G (.ty T) _ from r2)
      exact ⟨_, _, _, _, b, rfl, .ty _, tyD_rep e.gh r1 h1, kit_ty h2, q _ ρ _ as H G hk e .refl (Rep.bl _)⟩
theorem wc_isi {T : String} {d : D} (hT : T ∈ ["int", "bool", "str", "tuple", "list"]) (hd : (tyD d).isSome = true) (hk : k (.dat (.bl (isT T d))) ρ) : WpC K F (rIsi K) [.dat d, .dat (.ty T)] ρ k := by
  have go : ∀ s, tyD d = some s → kitB s T = some (isT T d) → WpC K F (rIsi K) [.dat d, .dat (.ty T)] ρ k := fun s h1 h2 => wc_isiB h1 h2 hk
  simp only [List.mem_cons, List.not_mem_nil, or_false] at hT
  cases d <;> first
    | (exact Bool.noConfusion (show false = true from hd))
    | (refine go _ rfl ?_; rcases hT with rfl | rfl | rfl | rfl | rfl <;> (simp only [isT, tyD]; decide +kernel))
theorem wc_isiC {T : String} {j : Nat} {ds : List D} (hT : T ∈ ["int", "bool", "str", "tuple", "list"]) (hc : ρ.ce[j]? = some (.lst ds)) (hk : k (.dat (.bl (T == "list"))) ρ) : WpC K F (rIsi K) [.cel j, .dat (.ty T)] ρ k := fun as σ H G vs e r Q q => by
  cases r with
  | cons r1 c =>
    cases c with
    | cons r2 c =>
      cases c
      cases (show Rep K G (.ty T) _ from r2)
      obtain ⟨a, ha, rfl⟩ := r1
      obtain ⟨_, _, _, ws, hw, _⟩ := e.ce j _ a hc ha
      have h2 : kitB "list" T = some (T == "list") := by
        simp only [List.mem_cons, List.not_mem_nil, or_false] at hT
        rcases hT with rfl | rfl | rfl | rfl | rfl <;> decide +kernel
      exact ⟨_, _, _, _, _, rfl, .ty _, .base (.lst hw), kit_ty h2, q _ ρ _ as H G hk e .refl (Rep.bl _)⟩
/-! == -/
mutual
def py : D → PyData
  | .non => .none
  | .bl b => .bool b
  | .int i => .int i
  | .str x => .str x
  | .tup ds => .tuple (pys ds)
  | .lst ds => .list (pys ds)
  | .scr ds => .list (pys ds)
  | .obj _ _ _ => .none
  | .dic => .none
  | .ty _ => .none
  | .cls _ => .none
def pys : List D → List PyData
  | [] => []
  | d :: ds => py d :: pys ds
end
mutual
/-- data of at most this depth that == may look at -/
def fine : Nat → D → Bool
  | _, .non => true
  | _, .bl _ => true
  | _, .int _ => true
  | _, .str x => PyData.strOk x
  | n + 1, .tup ds => fines n ds
  | n + 1, .lst ds => fines n ds
  | n + 1, .scr ds => fines n ds
  | _, _ => false
def fines : Nat → List D → Bool
  | _, [] => true
  | n, d :: ds => fine n d && fines n ds
end
mutual
theorem fine_dp {G : Hp} : ∀ (n : Nat) (d : D) (v : V), fine n d = true → Rep K G d v → Dp K G v (py d) ∧ PyData.canLay0 (py d) = true ∧ PyData.depth (py d) ≤ n
  | _, .non, _, _, r => by cases r; exact ⟨.non, rfl, by simp [py, PyData.depth]⟩
  | _, .bl _, _, _, r => by cases r; exact ⟨.bl _, rfl, by simp [py, PyData.depth]⟩
  | _, .int _, _, _, r => by cases r; exact ⟨.int _, rfl, by simp [py, PyData.depth]⟩
  | n, .str x, _, h, r => by
    cases r
    refine ⟨.str _, ?_, by simp [py, PyData.depth]⟩
    have h' : PyData.strOk x = true := by cases n <;> (rw [fine] at h; exact h)
    simp [py, PyData.canLay0, h']
  | n + 1, .tup ds, _, h, r => by
    cases r with
    | tup a b =>
      obtain ⟨x, y, z⟩ := fine_dps n ds _ (by rw [fine] at h; exact h) b
      exact ⟨.tup a x, by simp [py, PyData.canLay0, y], by simp [py, PyData.depth]; omega⟩
  | n + 1, .lst ds, _, h, r => by
    cases r with
    | lst a b =>
      obtain ⟨x, y, z⟩ := fine_dps n ds _ (by rw [fine] at h; exact h) b
      exact ⟨.lst (SqL.of a) x, by simp [py, PyData.canLay0, y], by simp [py, PyData.depth]; omega⟩
  | n + 1, .scr ds, _, h, r => by
    cases r with
    | scr a b =>
      obtain ⟨x, y, z⟩ := fine_dps n ds _ (by rw [fine] at h; exact h) b
      exact ⟨.lst a x, by simp [py, PyData.canLay0, y], by simp [py, PyData.depth]; omega⟩
  | 0, .tup ds, _, h, r => by simp [fine] at h
  | 0, .lst ds, _, h, r => by simp [fine] at h
  | 0, .scr ds, _, h, r => by simp [fine] at h
  | n, .obj _ _ _, _, h, r => by cases n <;> simp [fine] at h
  | n, .dic, _, h, r => by cases n <;> simp [fine] at h
  | n, .ty _, _, h, r => by cases n <;> simp [fine] at h
  | n, .cls _, _, h, r => by cases n <;> simp [fine] at h
theorem fine_dps {G : Hp} : ∀ (n : Nat) (ds : List D) (vs : List V), fines n ds = true → Reps K G ds vs → DpAll K G vs (pys ds) ∧ PyData.canLayAll0 (pys ds) = true ∧ PyData.depthAll (pys ds) ≤ n
  | _, [], _, _, r => by cases r; exact ⟨.nil, rfl, by simp [pys, PyData.depthAll]⟩
  | n, d :: ds, _, h, r => by
    cases r with
    | cons a b =>
      have h' : fine n d = true ∧ fines n ds = true := by cases n <;> (rw [fines, Bool.and_eq_true] at h; exact h)
      obtain ⟨x, y, z⟩ := fine_dp n d _ h'.1 a
      obtain ⟨x2, y2, z2⟩ := fine_dps n ds _ h'.2 b
      exact ⟨.cons x x2, by simp [pys, PyData.canLayAll0, y, y2], by simp [pys, PyData.depthAll]; omega⟩
end
mutual
/-- what holds no object is the same in the heap itself -/
theorem Rep.un {G H : Hp} (s : Same (er G) (er H)) : ∀ (n : Nat) (d : D) (v : V), fine n d = true → Rep K G d v → Rep K H d v
  | _, .non, _, _, r => by cases r; exact .non
  | _, .bl _, _, _, r => by cases r; exact .bl _
  | _, .int _, _, _, r => by cases r; exact .int _
  | _, .str _, _, _, r => by cases r; exact .str _
  | n + 1, .tup ds, _, h, r => by
    cases r with
    | tup a b => exact .tup (er_gT s a) (Reps.un s n ds _ (by rw [fine] at h; exact h) b)
  | n + 1, .lst ds, _, h, r => by
    cases r with
    | lst a b => exact .lst (er_gL s a) (Reps.un s n ds _ (by rw [fine] at h; exact h) b)
  | n + 1, .scr ds, _, h, r => by
    cases r with
    | scr a b => exact .scr (er_gS s a) (Reps.un s n ds _ (by rw [fine] at h; exact h) b)
  | 0, .tup ds, _, h, r => by simp [fine] at h
  | 0, .lst ds, _, h, r => by simp [fine] at h
  | 0, .scr ds, _, h, r => by simp [fine] at h
  | n, .obj _ _ _, _, h, r => by cases n <;> simp [fine] at h
  | n, .dic, _, h, r => by cases n <;> simp [fine] at h
  | n, .ty _, _, h, r => by cases n <;> simp [fine] at h
  | n, .cls _, _, h, r => by cases n <;> simp [fine] at h
theorem Reps.un {G H : Hp} (s : Same (er G) (er H)) : ∀ (n : Nat) (ds : List D) (vs : List V), fines n ds = true → Reps K G ds vs → Reps K H ds vs
  | _, [], _, _, r => by cases r; exact .nil
  | n, d :: ds, _, h, r => by
    cases r with
    | cons a b =>
      have h' : fine n d = true ∧ fines n ds = true := by cases n <;> (rw [fines, Bool.and_eq_true] at h; exact h)
      exact .cons (Rep.un s n d _ h'.1 a) (Reps.un s n ds _ h'.2 b)
end
def eqD (d e : D) : Bool := PyData.eqv (py d) (py e)
section
variable {as : List Addr} {σ : L2.St} {H G : Hp}
mutual
theorem OfT.rep (e : EnvOk K F ρ as σ H G) : ∀ (n : Nat) (x : TN) (d : D) (v : V), fine n d = true → OfT ρ x d → TNr K G as x v → Rep K H d v
  | n, .dat e0, d, v, f, h, r => by cases h; cases r with | dat r => exact Rep.un e.gh n _ _ f r
  | n, .cel j, d, v, f, h, r => by
    cases h with
    | cel hc =>
      cases r with
      | cel ha =>
        obtain ⟨_, _, _, ws, hw, hr⟩ := e.ce _ _ _ hc ha
        cases n with
        | zero => simp [fine] at f
        | succ n => exact .lst hw (Reps.un e.gh n _ _ (by rw [fine] at f; exact f) hr)
  | n, .tup xs, d, v, f, h, r => by
    cases h with
    | tup h2 =>
      cases r with
      | tup s r2 =>
        cases n with
        | zero => simp [fine] at f
        | succ n => exact .tup (e.gT s) (OfTs.rep e n xs _ _ (by rw [fine] at f; exact f) h2 r2)
theorem OfTs.rep (e : EnvOk K F ρ as σ H G) : ∀ (n : Nat) (xs : List TN) (ds : List D) (vs : List V), fines n ds = true → OfTs ρ xs ds → TNs K G as xs vs → Reps K H ds vs
  | _, [], _, _, _, h, r => by cases h; cases r; exact .nil
  | n, x :: xs, _, _, f, h, r => by
    cases h with
    | cons h1 h2 =>
      cases r with
      | cons r1 r2 =>
        rename_i d0 ds0 _ _
        have f : fine n d0 = true ∧ fines n ds0 = true := by cases n <;> (rw [fines, Bool.and_eq_true] at f; exact f)
        exact .cons (OfT.rep e n x _ _ f.1 h1 r1) (OfTs.rep e n xs _ _ f.2 h2 r2)
end
end
/-- data of a value: a cell is its list -/
inductive OfD (ρ : En) : AV → D → Prop
  | dat (d : D) : OfD ρ (.dat d) d
  | cel {j : Nat} {ds : List D} : ρ.ce[j]? = some (.lst ds) → OfD ρ (.cel j) (.lst ds)
theorem OfD.dp {as : List Addr} {σ : L2.St} {H G : Hp} {x : AV} {d : D} {v : V} {n : Nat} (e : EnvOk K F ρ as σ H G) (h : OfD ρ x d) (r : RepA K G as x v) (hf : fine n d = true) (hn : n ≤ 64) : Dp K H v (py d) ∧ SeqAt.shaped (py d) = true := by
  have rr : Rep K H d v := by
    cases h with
    | dat => exact Rep.un e.gh n _ _ hf r
    | cel hc =>
      obtain ⟨a, ha, rfl⟩ := r
      obtain ⟨_, _, _, ws, hw, hr⟩ := e.ce _ _ a hc ha
      cases n with
      | zero => simp [fine] at hf
      | succ n => exact .lst hw (Reps.un e.gh n _ _ (by rw [fine] at hf; exact hf) hr)
  obtain ⟨x, y, z⟩ := fine_dp n d v hf rr
  refine ⟨x, ?_⟩
  unfold SeqAt.shaped
  rw [y, decide_eq_true (by omega : PyData.depth (py d) ≤ 64)]
  rfl
theorem wr_eqD {x y : AV} {d e : D} (n : Nat) (hx : OfD ρ x d) (hy : OfD ρ y e) (h1 : fine n d = true) (h2 : fine n e = true) (hn : n ≤ 64) (hk : k (.dat (.bl (eqD d e))) ρ) : WpR K F (rEqD K) x y ρ k := fun as σ H G vx vy en r1 r2 Q q => by
  obtain ⟨a, b⟩ := hx.dp en r1 h1 hn
  obtain ⟨a2, b2⟩ := hy.dp en r2 h2 hn
  exact ⟨_, _, a, a2, b, b2, q _ ρ _ as H G hk en .refl (Rep.bl _)⟩
theorem wr_neD {x y : AV} {d e : D} (n : Nat) (hx : OfD ρ x d) (hy : OfD ρ y e) (h1 : fine n d = true) (h2 : fine n e = true) (hn : n ≤ 64) (hk : k (.dat (.bl (!eqD d e))) ρ) : WpR K F (rNeD K) x y ρ k := fun as σ H G vx vy en r1 r2 Q q => by
  obtain ⟨a, b⟩ := hx.dp en r1 h1 hn
  obtain ⟨a2, b2⟩ := hy.dp en r2 h2 hn
  exact ⟨_, _, a, a2, b, b2, q _ ρ _ as H G hk en .refl (Rep.bl _)⟩
/-- .. also of a tuple that holds cells -/
inductive OfX (ρ : En) : AV → D → Prop
  | of {x : AV} {d : D} : OfD ρ x d → OfX ρ x d
  | tup {xs : List TN} {ds : List D} : OfTs ρ xs ds → OfX ρ (.tup xs) (.tup ds)
theorem OfX.dp {as : List Addr} {σ : L2.St} {H G : Hp} {x : AV} {d : D} {v : V} {n : Nat} (e : EnvOk K F ρ as σ H G) (h : OfX ρ x d) (r : RepA K G as x v) (hf : fine n d = true) (hn : n ≤ 64) : Dp K H v (py d) ∧ SeqAt.shaped (py d) = true := by
  cases h with
  | of h => exact h.dp e r hf hn
  | tup ht =>
    obtain ⟨a, ws, rfl, s, rs⟩ := r
    obtain ⟨x, y, z⟩ := fine_dp n _ _ hf (by
      cases n with
      | zero => simp [fine] at hf
      | succ n => exact Rep.tup (e.gT s) (OfTs.rep e n _ _ _ (by rw [fine] at hf; exact hf) ht rs))
    refine ⟨x, ?_⟩
    unfold SeqAt.shaped
    rw [y, decide_eq_true (by omega)]
    rfl
theorem wr_eqX {x y : AV} {d e : D} (n : Nat) (hx : OfX ρ x d) (hy : OfX ρ y e) (h1 : fine n d = true) (h2 : fine n e = true) (hn : n ≤ 64) (hk : k (.dat (.bl (eqD d e))) ρ) : WpR K F (rEqD K) x y ρ k := fun as σ H G vx vy en r1 r2 Q q => by
  obtain ⟨a, b⟩ := hx.dp en r1 h1 hn
  obtain ⟨a2, b2⟩ := hy.dp en r2 h2 hn
  exact ⟨_, _, a, a2, b, b2, q _ ρ _ as H G hk en .refl (Rep.bl _)⟩
theorem wr_neX {x y : AV} {d e : D} (n : Nat) (hx : OfX ρ x d) (hy : OfX ρ y e) (h1 : fine n d = true) (h2 : fine n e = true) (hn : n ≤ 64) (hk : k (.dat (.bl (!eqD d e))) ρ) : WpR K F (rNeD K) x y ρ k := fun as σ H G vx vy en r1 r2 Q q => by
  obtain ⟨a, b⟩ := hx.dp en r1 h1 hn
  obtain ⟨a2, b2⟩ := hy.dp en r2 h2 hn
  exact ⟨_, _, a, a2, b, b2, q _ ρ _ as H G hk en .refl (Rep.bl _)⟩
/-! == without truths in it is being alike -/
mutual
def noB : D → Bool
  | .bl _ => false
  | .tup ds => noBs ds
  | .lst ds => noBs ds
  | .scr _ => false
  | .obj _ _ _ => false
  | .dic => false
  | .ty _ => false
  | .cls _ => false
  | _ => true
def noBs : List D → Bool
  | [] => true
  | d :: ds => noB d && noBs ds
end
mutual
theorem eqD_iff : ∀ (d e : D), noB d = true → noB e = true → (eqD d e = true ↔ d = e)
  | .non, e, _, h => by cases e <;> simp [eqD, py, PyData.eqv, noB] at h ⊢
  | .int i, e, _, h => by cases e <;> simp [eqD, py, PyData.eqv, noB] at h ⊢
  | .str i, e, _, h => by cases e <;> simp [eqD, py, PyData.eqv, noB] at h ⊢
  | .bl _, _, h, _ => by simp [noB] at h
  | .obj _ _ _, _, h, _ => by simp [noB] at h
  | .scr _, _, h, _ => by simp [noB] at h
  | .dic, _, h, _ => by simp [noB] at h
  | .ty _, _, h, _ => by simp [noB] at h
  | .cls _, _, h, _ => by simp [noB] at h
  | .tup ds, e, h, h2 => by
    cases e with
    | tup es =>
      have := eqDs_iff ds es (by rw [noB] at h; exact h) (by rw [noB] at h2; exact h2)
      simp only [eqD, py, PyData.eqv, D.tup.injEq]
      exact this
    | _ => simp [eqD, py, PyData.eqv, noB] at h2 ⊢
  | .lst ds, e, h, h2 => by
    cases e with
    | lst es =>
      have := eqDs_iff ds es (by rw [noB] at h; exact h) (by rw [noB] at h2; exact h2)
      simp only [eqD, py, PyData.eqv, D.lst.injEq]
      exact this
    | _ => simp [eqD, py, PyData.eqv, noB] at h2 ⊢
theorem eqDs_iff : ∀ (ds es : List D), noBs ds = true → noBs es = true → (PyData.eqvAll (pys ds) (pys es) = true ↔ ds = es)
  | [], es, _, _ => by cases es <;> simp [pys, PyData.eqvAll]
  | d :: ds, [], _, _ => by simp [pys, PyData.eqvAll]
  | d :: ds, e :: es, h, h2 => by
    rw [noBs, Bool.and_eq_true] at h h2
    have a := eqD_iff d e h.1 h2.1
    have b := eqDs_iff ds es h.2 h2.2
    simp only [pys, PyData.eqvAll, Bool.and_eq_true, List.cons.injEq]
    unfold eqD at a
    rw [a, b]
end
/-! comprehensions -/
def wipeA (sl : List (Option AV)) : List Nat → List (Option AV)
  | [] => sl
  | v :: vs => (wipeA sl vs).set v none
def En.wipe (ρ : En) (vs : List Nat) : En := ⟨wipeA ρ.sl vs, ρ.ce⟩
theorem wipeA_len (sl : List (Option AV)) : ∀ vs, (wipeA sl vs).length = sl.length
  | [] => rfl
  | v :: vs => by rw [wipeA, List.length_set, wipeA_len sl vs]
theorem wipeA_get (sl : List (Option AV)) {i : Nat} {x : AV} : ∀ vs, (wipeA sl vs)[i]? = some (some x) → i ∉ vs ∧ sl[i]? = some (some x)
  | [], h => ⟨by simp, h⟩
  | v :: vs, h => by
    rw [wipeA] at h
    by_cases q : v = i
    · subst q
      rw [List.getElem?_set] at h
      simp at h
    · rw [List.getElem?_set_ne q] at h
      obtain ⟨a, b⟩ := wipeA_get sl vs h
      exact ⟨by simp only [List.mem_cons, not_or]; exact ⟨fun z => q z.symm, a⟩, b⟩
theorem wipe_get (σ : L2.St) {i : Nat} : ∀ {vs : List Nat}, i ∉ vs → (wipe σ vs)[i]? = σ[i]?
  | [], _ => rfl
  | v :: vs, h => by
    simp only [List.mem_cons, not_or] at h
    show ((wipe σ vs).set v none)[i]? = σ[i]?
    rw [List.getElem?_set_ne (fun z => h.1 z.symm), wipe_get σ h.2]
theorem EnvOk.wipe {as : List Addr} {σ σ2 : L2.St} {H G : Hp} {vs : List Nat} (e : EnvOk K F ρ as σ H G) (h : L2.wipe σ2 vs = L2.wipe σ vs) : EnvOk K F (ρ.wipe vs) as σ2 H G := by
  refine ⟨e.kp, e.gh, e.fh, e.fg, e.g0, e.nd, e.pr, e.ln, e.ce, ?_, fun i x hi => ?_, e.rg⟩
  · show σ2.length = (wipeA ρ.sl vs).length
    rw [wipeA_len, ← e.sn, ← wipe_length σ2 vs, h, wipe_length]
  · obtain ⟨a, b⟩ := wipeA_get ρ.sl vs hi
    obtain ⟨v, hv, r⟩ := e.sl i x b
    exact ⟨v, by rw [← wipe_get σ2 a, h, wipe_get σ a]; exact hv, r⟩
/-- a target that writes to these slots alone -/
def Only (g : TG) (vs : List Nat) : Prop := ∀ x σ H (Q Q2 : L2.St → Hp → Prop), (∀ σ' H', Q σ' H' → L2.wipe σ' vs = L2.wipe σ vs → Q2 σ' H') → g x σ H Q → g x σ H Q2
def OnlyS (g : TGs) (vs : List Nat) : Prop := ∀ x σ H (Q Q2 : L2.St → Hp → Prop), (∀ σ' H', Q σ' H' → L2.wipe σ' vs = L2.wipe σ vs → Q2 σ' H') → g x σ H Q → g x σ H Q2
theorem wipe_set (σ : L2.St) {i : Nat} {x : Option V} : ∀ {vs : List Nat}, i ∈ vs → L2.wipe (σ.set i x) vs = L2.wipe σ vs
  | v :: vs, h => by
    show (L2.wipe (σ.set i x) vs).set v none = (L2.wipe σ vs).set v none
    by_cases q : i ∈ vs
    · rw [wipe_set σ q]
    · have e : i = v := by rcases List.mem_cons.mp h with z | z; exact z; exact absurd z q
      subst e
      refine List.ext_getElem? fun j => ?_
      by_cases z : i = j
      · subst z; rw [List.getElem?_set, List.getElem?_set]; simp [wipe_length]
      · rw [List.getElem?_set_ne z, List.getElem?_set_ne z]
        by_cases y : j ∈ vs
        · have zero : ∀ (τ : L2.St) (ws : List Nat), j ∈ ws → (L2.wipe τ ws)[j]? = if j < τ.length then some none else none := by
            intro τ ws
            induction ws with
            | nil => intro m; cases m
            | cons w ws ih =>
              intro m
              show ((L2.wipe τ ws).set w none)[j]? = _
              by_cases b : w = j
              · subst b; rw [List.getElem?_set]; simp [wipe_length]
              · rw [List.getElem?_set_ne b]
                exact ih (by rcases List.mem_cons.mp m with c | c; exact absurd c.symm b; exact c)
          rw [zero _ _ y, zero _ _ y, List.length_set]
        · rw [wipe_get _ y, wipe_get _ y, List.getElem?_set_ne z]
theorem only_name {i : Nat} {vs : List Nat} (h : i ∈ vs) : Only (gName i) vs := fun x σ H Q Q2 i q => i _ _ q (wipe_set σ h)
theorem onlys_nil {vs : List Nat} : OnlyS gNil vs := fun x σ H Q Q2 i ⟨e, q⟩ => ⟨e, i _ _ q rfl⟩
theorem onlys_cons {i : Nat} {gs : TGs} {vs : List Nat} (h : i ∈ vs) (h2 : OnlyS gs vs) : OnlyS (gCons (gName i) gs) vs := fun x σ H Q Q2 im ⟨v, r, e, q⟩ => by
  subst e
  exact ⟨v, r, rfl, h2 r (σ.set i (some v)) H Q Q2 (fun σ' H' a b => im σ' H' a (by rw [b, wipe_set σ h])) q⟩
theorem only_tup {n : Nat} {gs : TGs} {vs : List Nat} (h2 : OnlyS gs vs) : Only (gTup K n gs) vs := fun x σ H Q Q2 im ⟨a, xs, e, s, l, q⟩ => ⟨a, xs, e, s, l, h2 xs σ H Q Q2 im q⟩
/-- the turns of a comprehension: n the cell of what is made -/
def LoopC (K : PySem.W.Frag) (F : Fx) (gd : En → Prop) (g : TG) (tt : TT) (te : TE) (vs : List Nat) (n : Nat) (k : AV → En → Prop) : List D → En → Prop
  | [], ρ => gd ρ ∧ k (.cel n) ρ
  | d :: ds, ρ => gd ρ ∧ WpG K F g (.dat d) ρ fun ρ1 => WpT K F tt ρ1 fun b ρ2 => if b = true then WpE K F te ρ2 fun y ρ3 => ∃ e ρ4 acc, Frz [y] ρ3 [e] ρ4 ∧ ρ4.ce[n]? = some (.lst acc) ∧ acc.length < 16000000 ∧ ∃ ρ5, Tr (n + 1) ((ρ4.cell n (.lst (acc ++ [e]))).wipe vs) ρ5 ∧ LoopC K F gd g tt te vs n k ds ρ5
      else ∃ ρ5, Tr (n + 1) (ρ2.wipe vs) ρ5 ∧ LoopC K F gd g tt te vs n k ds ρ5
theorem LoopC.gd {gd : En → Prop} {g : TG} {vs : List Nat} {n : Nat} : ∀ {ds : List D} {ρ : En}, LoopC K F gd g tt te vs n k ds ρ → gd ρ
  | [], _, h => h.1
  | _ :: _, _, h => h.1
theorem wipe_wipe (σ : L2.St) (vs : List Nat) : L2.wipe (L2.wipe σ vs) vs = L2.wipe σ vs := by
  refine List.ext_getElem? fun j => ?_
  by_cases y : j ∈ vs
  · have zero : ∀ (τ : L2.St) (ws : List Nat), j ∈ ws → (L2.wipe τ ws)[j]? = if j < τ.length then some none else none := by
      intro τ ws
      induction ws with
      | nil => intro m; cases m
      | cons w ws ih =>
        intro m
        show ((L2.wipe τ ws).set w none)[j]? = _
        by_cases b : w = j
        · subst b; rw [List.getElem?_set]; simp [wipe_length]
        · rw [List.getElem?_set_ne b]
          exact ih (by rcases List.mem_cons.mp m with c | c; exact absurd c.symm b; exact c)
    rw [zero _ _ y, zero _ _ y, wipe_length]
  · rw [wipe_get _ y]
theorem Tr.run2 {n : Nat} {ρ' : En} {as as0 : List Addr} {σ σ2 : L2.St} {H G G0 : Hp} (t : Tr n ρ ρ') (e : EnvOk K F ρ as σ H G) (e2 : EnvOk K F ρ as σ2 H G) (g : Gr G0 as0 G as) (h : as0.length ≤ n) (h0 : F.as0.length ≤ n) : ∃ as', EnvOk K F ρ' as' σ H G ∧ EnvOk K F ρ' as' σ2 H G ∧ Gr G0 as0 G as' := by
  cases t with
  | all => exact ⟨as, e, e2, g⟩
  | cut => exact ⟨_, e.trunc n h0, e2.trunc n h0, g.trunc h⟩
  | keep j h1 h2 => exact ⟨_, e.keep h0 h1 h2, e2.keep h0 h1 h2, g.keep h⟩
  | drop j h1 h2 => exact ⟨_, e.drp h0 h1 h2, e2.drp h0 h1 h2, g.keep h⟩
theorem we_lc {wi : TI} {g : TG} {vs : List Nat} (ho : Only g vs) (h : WpI K F wi ρ fun ds gd ρ1 => LoopC K F gd g tt te vs ρ1.ce.length k ds ((ρ1.add []).wipe vs)) : WpE K F (tLc wi g tt te vs) ρ k := fun as σ H G e Q q =>
  h as σ H G e _ fun ds gd J ρ1 as1 H1 G1 h1 e1 g1 its => by
    intro p hp
    obtain ⟨e2, g2⟩ := e1.newC (ds := []) (vs := []) hp .nil
    have pn : as1.length = ρ1.ce.length := e1.ln
    have pn0 : F.as0.length ≤ ρ1.ce.length + 1 := by have := e1.pr.length_le; omega
    have pn2 : (as1 ++ [p]).length ≤ ρ1.ce.length + 1 := by rw [List.length_append, pn]; exact Nat.le_refl _
    refine ⟨fun i m H' => m = ds.length - i ∧ i ≤ ds.length ∧ ∃ ρ2 as2 G2, EnvOk K F ρ2 as2 σ H' G2 ∧ EnvOk K F ρ2 as2 (L2.wipe σ vs) H' G2 ∧ Gr G1 (as1 ++ [p]) G2 as2 ∧ LoopC K F gd g tt te vs ρ1.ce.length k (ds.drop i) ρ2, ⟨_, rfl, Nat.zero_le _, _, _, _, e2.wipe rfl, e2.wipe (wipe_wipe σ vs), .refl, h1⟩, ?_⟩
    rintro i m H' ⟨rfl, hi, ρ2, as2, G2, e3, e3w, g3, lp⟩
    have g13 : Gr G1 as1 G2 as2 := g2.trans g3
    obtain ⟨go, st, yl⟩ := its ρ2 as2 (L2.wipe σ vs) H' G2 e3w g13 lp.gd
    have hat : as2[ρ1.ce.length]? = some p := by
      obtain ⟨_, r, rfl⟩ := g3
      rw [List.append_assoc, List.getElem?_append_right (by omega), pn]
      simp
    by_cases hlt : i < ds.length
    · obtain ⟨d, hd⟩ : ∃ d, ds[i]? = some d := ⟨_, List.getElem?_eq_getElem hlt⟩
      have ed : ds.drop i = d :: ds.drop (i + 1) := by
        rw [List.drop_eq_getElem_cons hlt]
        rw [List.getElem?_eq_getElem hlt] at hd
        cases hd
        rfl
      rw [ed] at lp
      refine .inr ⟨go i hlt, fun H3 => ∃ ρ3 as3 G3, EnvOk K F ρ3 as3 σ H3 G3 ∧ EnvOk K F ρ3 as3 (L2.wipe σ vs) H3 G3 ∧ Gr G1 (as1 ++ [p]) G3 as3 ∧ LoopC K F gd g tt te vs ρ1.ce.length k (ds.drop (i + 1)) ρ3, fun H3 ⟨ρ3, as3, G3, e3, e3w, g3, l3⟩ => ⟨_, by omega, rfl, hlt, ρ3, as3, G3, e3, e3w, g3, l3⟩, fun x H3 y => ?_⟩
      obtain ⟨d', G3, hd', e4, g4, rx⟩ := yl i x H3 hlt y
      rw [hd] at hd'
      cases hd'
      have main := lp.2 as2 (L2.wipe σ vs) H3 G3 x (e4 _ e3w) rx
        (fun σ2 H2 => (∃ ρ4 as4 G4, (WpT K F tt ρ4 fun b ρ2 => if b = true then WpE K F te ρ2 fun y ρ3 => ∃ e ρ4 acc, Frz [y] ρ3 [e] ρ4 ∧ ρ4.ce[ρ1.ce.length]? = some (.lst acc) ∧ acc.length < 16000000 ∧ ∃ ρ5, Tr (ρ1.ce.length + 1) ((ρ4.cell ρ1.ce.length (.lst (acc ++ [e]))).wipe vs) ρ5 ∧ LoopC K F gd g tt te vs ρ1.ce.length k (ds.drop (i + 1)) ρ5
      else ∃ ρ5, Tr (ρ1.ce.length + 1) (ρ2.wipe vs) ρ5 ∧ LoopC K F gd g tt te vs ρ1.ce.length k (ds.drop (i + 1)) ρ5) ∧ EnvOk K F ρ4 as4 σ2 H2 G4 ∧ Gr G3 as2 G4 as4)) (fun ρ4 as4 σ4 H4 G4 h4 e5 g5 => ⟨ρ4, as4, G4, h4, e5, g5⟩)
      refine ho x _ _ _ _ ?_ main
      rintro σ2 H4 ⟨ρ4, as4, G4, h4, e5, g5⟩ ew
      rw [wipe_wipe] at ew
      refine ⟨ew, h4 as4 σ2 H4 G4 e5 _ fun b ρ5 as5 H5 G5 h5 e6 g6 => ?_⟩
      have gg : Gr G1 (as1 ++ [p]) G5 as5 := g3.trans (g4.trans (g5.trans g6))
      cases b with
      | false =>
        obtain ⟨ρ7, tr, lp2⟩ := (show ∃ ρ5', Tr (ρ1.ce.length + 1) (ρ5.wipe vs) ρ5' ∧ _ from h5)
        obtain ⟨as7, x1, x2, x3⟩ := tr.run2 (e6.wipe ew.symm) (show EnvOk K F _ _ (L2.wipe σ vs) _ _ from e6.wipe (by rw [wipe_wipe, ew])) gg pn2 pn0
        exact ⟨ρ7, as7, G5, x1, x2, x3, lp2⟩
      | true =>
        refine (show WpE K F te ρ5 _ from h5) as5 σ2 H5 G5 e6 _ ?_
        rintro y ρ6 v as6 H6 G6 ⟨e', ρ7, acc, fz, hc, hl, ρ8, tr, lp2⟩ e7 g7 r7
        obtain ⟨G7, e8, g8, r8⟩ := fz.run e7 (.cons r7 .nil)
        have hat6 : as6[ρ1.ce.length]? = some p := by
          obtain ⟨_, r, rfl⟩ := g4.trans (g5.trans (g6.trans g7))
          rw [List.getElem?_append_left (List.getElem?_eq_some_iff.mp hat).1]
          exact hat
        obtain ⟨_, _, gn, ws, hw, hr⟩ := e8.ce _ _ p hc hat6
        cases r8 with
        | cons ra rb =>
          cases rb
          have e9 := e8.setC (c' := .lst (acc ++ [e'])) hc hat6 gn ⟨gn, _, upd_same, hr.append (.cons ra .nil)⟩
          obtain ⟨as7, x1, x2, x3⟩ := tr.run2 (e9.wipe ew.symm) (show EnvOk K F _ _ (L2.wipe σ vs) _ _ from e9.wipe (by rw [wipe_wipe, ew])) (gg.trans (g7.trans g8)) pn2 pn0
          exact ⟨ws, hw, szbl (by rw [hr.length]; omega), ρ8, as7, G7, x1, x2, x3, lp2⟩
    · have ei : i = ds.length := by omega
      subst ei
      rw [List.drop_length] at lp
      exact .inl ⟨st, q _ _ _ _ _ _ lp.2 e3 (g1.trans g13) ⟨p, hat, rfl⟩⟩
/-! errors -/
theorem ws_exc (h : ∀ as σ H G D, EnvOk K F ρ as σ H G → t D σ H) : WpS K F t ρ ks := fun as σ H G e D _ => h as σ H G D e
end
theorem frz_in {xs ds : List _} {ρ ρ2 : En} {P : List D → En → Prop} (h0 : Frz xs ρ ds ρ2) (h1 : Nat.ble ds.length 1000 = true) (h2 : P ds ρ2) : ∃ ds ρ2, Frz xs ρ ds ρ2 ∧ Nat.ble ds.length 1000 = true ∧ P ds ρ2 := ⟨ds, ρ2, h0, h1, h2⟩
theorem il_in {x : AV} {ds : List D} {ρ : En} {P : List D → Prop} (h0 : IsL ρ x ds) (h2 : P ds) : ∃ ds, IsL ρ x ds ∧ P ds := ⟨ds, h0, h2⟩
theorem lc_in {y : AV} {e : D} {ρ ρ4 : En} {n : Nat} {acc : List D} {P : D → En → List D → Prop} (h0 : Frz [y] ρ [e] ρ4) (h1 : ρ4.ce[n]? = some (.lst acc)) (h2 : acc.length < 16000000) (h3 : P e ρ4 acc) : ∃ e ρ4 acc, Frz [y] ρ [e] ρ4 ∧ ρ4.ce[n]? = some (.lst acc) ∧ acc.length < 16000000 ∧ P e ρ4 acc := ⟨e, ρ4, acc, h0, h1, h2, h3⟩
theorem wgs_nilM {K : PySem.W.Frag} {F : Fx} {ρ : En} {kn : En → Prop} (h : kn ρ) : WpGs K F gNil (List.map AV.dat []) ρ kn := wgs_nil h
theorem wgs_consM {K : PySem.W.Frag} {F : Fx} {ρ : En} {g : TG} {gs : TGs} {d : D} {ds : List D} {kn : En → Prop} (h : WpG K F g (.dat d) ρ fun ρ1 => WpGs K F gs (ds.map .dat) ρ1 kn) : WpGs K F (gCons g gs) ((d :: ds).map .dat) ρ kn := wgs_cons h
section
variable {K : PySem.W.Frag} {F : Fx} {ρ : En} {k : AV → En → Prop} {ks ks' : KS} {t : TS} {te : TE} {tt : TT}
theorem WpS.imp (h : WpS K F t ρ ks) (h1 : ∀ ρ, ks.nx ρ → ks'.nx ρ) (h2 : ∀ x ρ, ks.rt x ρ → ks'.rt x ρ) (h3 : ∀ ρ, ks.bk ρ → ks'.bk ρ) (h4 : ∀ ρ, ks.ct ρ → ks'.ct ρ) : WpS K F t ρ ks' := fun as σ H G e D q =>
  h as σ H G e D ⟨fun ρ as' σ H G' a b c => q.nx ρ as' σ H G' (h1 _ a) b c, fun av ρ v as' σ H G' a b c d => q.rt av ρ v as' σ H G' (h2 _ _ a) b c d, fun ρ as' σ H G' a b c => q.bk ρ as' σ H G' (h3 _ a) b c, fun ρ as' σ H G' a b c => q.ct ρ as' σ H G' (h4 _ a) b c, q.fr⟩
theorem WpG.imp {g : TG} {x : AV} {kn kn' : En → Prop} (h : WpG K F g x ρ kn) (i : ∀ ρ, kn ρ → kn' ρ) : WpG K F g x ρ kn' := fun as σ H G v e r Q q => h as σ H G v e r Q fun ρ' as' σ' H' G' a b c => q ρ' as' σ' H' G' (i _ a) b c
theorem WpT.imp {kb kb' : Bool → En → Prop} (h : WpT K F tt ρ kb) (i : ∀ b ρ, kb b ρ → kb' b ρ) : WpT K F tt ρ kb' := fun as σ H G e Q q => h as σ H G e Q fun b ρ' as' H' G' a c d => q b ρ' as' H' G' (i _ _ a) c d
/-- what holds at a turn's end -/
inductive Now (p : Prop) : Prop
  | one (h : p)
  | two (h : p)
theorem now {p : Prop} (h : p) : Now p := .one h
theorem Now.out {p : Prop} (h : Now p) : p := by cases h <;> assumption
theorem loop_by {n : Nat} {gd : En → Prop} {g : TG} {tb : TS} {ds : List D} (I : List D → En → Prop) (h0 : I ds ρ) (hn : ∀ ρ, I [] ρ → gd ρ ∧ ks.nx ρ)
    (hs : ∀ d ds ρ, I (d :: ds) ρ → gd ρ ∧ WpG K F g (.dat d) ρ fun ρ1 => WpS K F tb ρ1 { nx := fun ρ2 => Now (I ds ρ2), rt := ks.rt, ct := fun ρ2 => Now (I ds ρ2), bk := ks.nx }) : Loop K F n gd g tb ks ds ρ := by
  induction ds generalizing ρ with
  | nil => exact hn ρ h0
  | cons d ds ih =>
    obtain ⟨a, b⟩ := hs d ds ρ h0
    exact ⟨a, b.imp fun ρ1 h1 => h1.imp (fun ρ2 h2 => ⟨ρ2, .all, ih h2.out⟩) (fun _ _ z => z) (fun _ z => z) (fun ρ2 h2 => ⟨ρ2, .all, ih h2.out⟩)⟩
/-- .. each turn's own cells forgotten -/
theorem loop_cut {n : Nat} {gd : En → Prop} {g : TG} {tb : TS} {ds : List D} (I : List D → En → Prop) (h0 : I ds ρ) (hn : ∀ ρ, I [] ρ → gd ρ ∧ ks.nx ρ)
    (hs : ∀ d ds ρ, I (d :: ds) ρ → gd ρ ∧ WpG K F g (.dat d) ρ fun ρ1 => WpS K F tb ρ1 { nx := fun ρ2 => Now (I ds (ρ2.trunc n)), rt := ks.rt, ct := fun ρ2 => Now (I ds (ρ2.trunc n)), bk := ks.nx }) : Loop K F n gd g tb ks ds ρ := by
  induction ds generalizing ρ with
  | nil => exact hn ρ h0
  | cons d ds ih =>
    obtain ⟨a, b⟩ := hs d ds ρ h0
    exact ⟨a, b.imp fun ρ1 h1 => h1.imp (fun ρ2 h2 => ⟨_, .cut, ih h2.out⟩) (fun _ _ z => z) (fun _ z => z) (fun ρ2 h2 => ⟨_, .cut, ih h2.out⟩)⟩
/-- .. each turn's end as one likes -/
theorem loop_any {n : Nat} {gd : En → Prop} {g : TG} {tb : TS} {ds : List D} (I : List D → En → Prop) (h0 : I ds ρ) (hn : ∀ ρ, I [] ρ → gd ρ ∧ ks.nx ρ)
    (hs : ∀ d ds ρ, I (d :: ds) ρ → gd ρ ∧ WpG K F g (.dat d) ρ fun ρ1 => WpS K F tb ρ1 { nx := fun ρ2 => Now (∃ ρ3, Tr n ρ2 ρ3 ∧ I ds ρ3), rt := ks.rt, ct := fun ρ2 => Now (∃ ρ3, Tr n ρ2 ρ3 ∧ I ds ρ3), bk := ks.nx }) : Loop K F n gd g tb ks ds ρ := by
  induction ds generalizing ρ with
  | nil => exact hn ρ h0
  | cons d ds ih =>
    obtain ⟨a, b⟩ := hs d ds ρ h0
    exact ⟨a, b.imp fun ρ1 h1 => h1.imp (fun ρ2 h2 => let ⟨ρ3, t, i⟩ := h2.out; ⟨ρ3, t, ih i⟩) (fun _ _ z => z) (fun _ z => z) (fun ρ2 h2 => let ⟨ρ3, t, i⟩ := h2.out; ⟨ρ3, t, ih i⟩)⟩
theorem loopC_by {gd : En → Prop} {g : TG} {vs : List Nat} {n : Nat} {ds : List D} (I : List D → En → Prop) (h0 : I ds ρ) (hn : ∀ ρ, I [] ρ → gd ρ ∧ k (.cel n) ρ)
    (hs : ∀ d ds ρ, I (d :: ds) ρ → gd ρ ∧ WpG K F g (.dat d) ρ fun ρ1 => WpT K F tt ρ1 fun b ρ2 => if b = true then WpE K F te ρ2 fun y ρ3 => ∃ e ρ4 acc, Frz [y] ρ3 [e] ρ4 ∧ ρ4.ce[n]? = some (.lst acc) ∧ acc.length < 16000000 ∧ Now (I ds (((ρ4.cell n (.lst (acc ++ [e]))).wipe vs).trunc (n + 1)))
      else Now (I ds ((ρ2.wipe vs).trunc (n + 1)))) : LoopC K F gd g tt te vs n k ds ρ := by
  induction ds generalizing ρ with
  | nil => exact hn ρ h0
  | cons d ds ih =>
    obtain ⟨a, b⟩ := hs d ds ρ h0
    refine ⟨a, b.imp fun ρ1 h1 => h1.imp fun b ρ2 h2 => ?_⟩
    cases b with
    | true => exact WpE.imp h2 fun y ρ3 ⟨e, ρ4, acc, x1, x2, x3, x4⟩ => ⟨e, ρ4, acc, x1, x2, x3, _, .cut, ih x4.out⟩
    | false => exact ⟨_, .cut, ih (show Now _ from h2).out⟩
end
section
variable {K : PySem.W.Frag} {F : Fx} {ρ : En} {k : AV → En → Prop}
/-- an item at a drawn place -/
theorem wr_ixA {x : AV} {ds : List D} {i : Int} (hx : IsL ρ x ds) (h0 : 0 ≤ i) (h1 : i < ds.length) (hk : ∀ d ∈ ds, k (.dat d) ρ) : WpR K F (rIxL K) x (.dat (.int i)) ρ k := by
  have hl : i.toNat < ds.length := by omega
  have e : ((i.toNat : Nat) : Int) = i := by omega
  have ha := atI_nat (xs := ds) (j := i.toNat) (v := ds[i.toNat]) (List.getElem?_eq_getElem hl)
  rw [e] at ha
  exact wr_ixL hx ha (hk _ (List.getElem_mem hl))
/-- a list of one number is a state to draw from -/
theorem EnvOk.drw {as : List Addr} {σ : L2.St} {H G : Hp} {j : Nat} {n : Int} (e : EnvOk K F ρ as σ H G) (hj : ρ.ce[j]? = some (.lst [.int n])) : EnvOk K F (ρ.cell j .drw) as σ H G := by
  have hl : j < ρ.ce.length := (List.getElem?_eq_some_iff.mp hj).1
  refine ⟨e.kp, e.gh, e.fh, e.fg, e.g0, e.nd, e.pr, by rw [e.ln]; exact (List.length_set).symm, fun i c a hc ha => ?_, e.sn, e.sl, by
    obtain ⟨Ts, r⟩ := e.rg
    exact r.setC (List.getElem?_eq_getElem (by rw [e.ln]; exact hl)) (fun _ _ z => nomatch z) (fun _ _ _ h => h) (fun _ _ _ _ g => g) (Same.refl _)⟩
  have hc' : (ρ.ce.set j .drw)[i]? = some c := hc
  by_cases hij : j = i
  · subst hij
    rw [List.getElem?_set_self hl] at hc'
    cases hc'
    obtain ⟨fa, ho, g, ws, hw, hr⟩ := e.ce j _ a hj ha
    refine ⟨fa, ho, g, ws, hw, ?_⟩
    cases hr with
    | cons x y => cases y; cases x; exact .inl ⟨_, rfl⟩
  · rw [List.getElem?_set_ne hij] at hc'
    exact e.ce i c a hc' ha
theorem wsp_drw {sp : Sp} {E : L2.St → XK} {xs : List AV} {j : Nat} {n : Int} (hj : ρ.ce[j]? = some (.lst [.int n])) (h : WpSp K F sp E xs (ρ.cell j .drw) k) : WpSp K F sp E xs ρ k := fun as σ H G vs e r Q q =>
  h as σ H G vs (e.drw hj) r Q (q.imp .refl fun _ _ z => z)
theorem ws_drw {t : TS} {ks : KS} {j : Nat} {n : Int} (hj : ρ.ce[j]? = some (.lst [.int n])) (h : WpS K F t (ρ.cell j .drw) ks) : WpS K F t ρ ks := fun as σ H G e D q => h as σ H G (e.drw hj) D q
end
theorem rngD_len {lo : Int} {n : Nat} : (rngD lo n).length = n := by unfold rngD; rw [List.length_map, List.length_range]
theorem rngD_drop {lo : Int} {n i : Nat} (h : i < n) : (rngD lo n).drop i = .int (lo + i) :: (rngD lo n).drop (i + 1) := by
  have hl : i < (rngD lo n).length := by rw [rngD_len]; exact h
  rw [List.drop_eq_getElem_cons hl]
  congr 1
  have : (rngD lo n)[i]? = some (.int (lo + i)) := by unfold rngD; rw [List.getElem?_map, List.getElem?_range h]; rfl
  rw [List.getElem?_eq_getElem hl] at this
  exact Option.some.inj this
section
variable {K : PySem.W.Frag} {F : Fx} {ρ : En} {k : AV → En → Prop} {ks : KS} {te : TE} {tt : TT}
theorem loop_rng {m : Nat} {gd : En → Prop} {g : TG} {tb : TS} {lo : Int} {n : Nat} (I : Nat → En → Prop) (h0 : I 0 ρ) (hn : ∀ ρ, I n ρ → gd ρ ∧ ks.nx ρ)
    (hs : ∀ i ρ, i < n → I i ρ → gd ρ ∧ WpG K F g (.dat (.int (lo + i))) ρ fun ρ1 => WpS K F tb ρ1 { nx := fun ρ2 => Now (I (i + 1) (ρ2.trunc m)), rt := ks.rt, ct := fun ρ2 => Now (I (i + 1) (ρ2.trunc m)), bk := ks.nx }) : Loop K F m gd g tb ks (rngD lo n) ρ := by
  refine loop_cut (fun ds ρ => ∃ i, i ≤ n ∧ ds = (rngD lo n).drop i ∧ I i ρ) ⟨0, Nat.zero_le _, rfl, h0⟩ ?_ ?_
  · rintro ρ ⟨i, hi, hd, h⟩
    have : i = n := by
      rcases Nat.lt_or_ge i n with z | z
      · rw [rngD_drop z] at hd; cases hd
      · omega
    subst this
    exact hn ρ h
  · rintro d ds ρ ⟨i, hi, hd, h⟩
    rcases Nat.lt_or_ge i n with z | z
    · rw [rngD_drop z] at hd
      cases hd
      obtain ⟨a, b⟩ := hs i ρ z h
      exact ⟨a, b.imp fun ρ1 h1 => h1.imp (fun ρ2 h2 => now ⟨i + 1, z, rfl, h2.out⟩) (fun _ _ z => z) (fun _ z => z) (fun ρ2 h2 => now ⟨i + 1, z, rfl, h2.out⟩)⟩
    · rw [List.drop_of_length_le (by rw [rngD_len]; exact z)] at hd; cases hd
theorem loopC_rng {gd : En → Prop} {g : TG} {vs : List Nat} {m : Nat} {lo : Int} {n : Nat} (I : Nat → En → Prop) (h0 : I 0 ρ) (hn : ∀ ρ, I n ρ → gd ρ ∧ k (.cel m) ρ)
    (hs : ∀ i ρ, i < n → I i ρ → gd ρ ∧ WpG K F g (.dat (.int (lo + i))) ρ fun ρ1 => WpT K F tt ρ1 fun b ρ2 => if b = true then WpE K F te ρ2 fun y ρ3 => ∃ e ρ4 acc, Frz [y] ρ3 [e] ρ4 ∧ ρ4.ce[m]? = some (.lst acc) ∧ acc.length < 16000000 ∧ Now (I (i + 1) (((ρ4.cell m (.lst (acc ++ [e]))).wipe vs).trunc (m + 1)))
      else Now (I (i + 1) ((ρ2.wipe vs).trunc (m + 1)))) : LoopC K F gd g tt te vs m k (rngD lo n) ρ := by
  refine loopC_by (fun ds ρ => ∃ i, i ≤ n ∧ ds = (rngD lo n).drop i ∧ I i ρ) ⟨0, Nat.zero_le _, rfl, h0⟩ ?_ ?_
  · rintro ρ ⟨i, hi, hd, h⟩
    have : i = n := by
      rcases Nat.lt_or_ge i n with z | z
      · rw [rngD_drop z] at hd; cases hd
      · omega
    subst this
    exact hn ρ h
  · rintro d ds ρ ⟨i, hi, hd, h⟩
    rcases Nat.lt_or_ge i n with z | z
    · rw [rngD_drop z] at hd
      cases hd
      obtain ⟨a, b⟩ := hs i ρ z h
      refine ⟨a, b.imp fun ρ1 h1 => h1.imp fun b ρ2 h2 => ?_⟩
      cases b with
      | true => exact WpE.imp h2 fun y ρ3 ⟨e, ρ4, acc, x1, x2, x3, x4⟩ => ⟨e, ρ4, acc, x1, x2, x3, now ⟨i + 1, z, rfl, x4.out⟩⟩
      | false => exact now ⟨i + 1, z, rfl, (show Now _ from h2).out⟩
    · rw [List.drop_of_length_le (by rw [rngD_len]; exact z)] at hd; cases hd
end
/-! ### rules of the data layer: truth of lists, items stored, pop -/
def tTru (K : PySem.W.Frag) (ta : TE) : TT := fun σ H Q => ta σ H fun x H' => ∃ k, TruV K x H' k ∧ Q k H'
theorem pt_tru {X : Cx} {K : PySem.W.Frag} {a : Expr} {ta : TE} (hK : X.K = K) (h : PE X a ta) (he : ∀ whole, isTrue a X.env whole = (do let v ← whole; standAt a.pos; holding [v] (truthy v))) : PT X a (tTru K ta) := by
  subst hK
  exact pt_truth h he
section
variable {K : PySem.W.Frag} {F : Fx} {ρ : En} {k : AV → En → Prop} {kb : Bool → En → Prop} {ta to ti : TE}
theorem isEmpty_reps {G : Hp} {ds : List D} {vs : List V} (h : Reps K G ds vs) : vs.isEmpty = ds.isEmpty := by
  cases ds with
  | nil => cases h; rfl
  | cons => cases h; rfl
theorem wt_tru (h : WpE K F ta ρ fun x ρ1 => ∃ ds, IsL ρ1 x ds ∧ kb (!ds.isEmpty) ρ1) : WpT K F (tTru K ta) ρ kb := fun as σ H G e Q q =>
  h as σ H G e _ fun x ρ1 vx as1 H1 G1 ⟨ds, hx, h1⟩ e1 g1 r1 => by
    obtain ⟨a, vs, rfl, hs, hr⟩ := hx.rep e1 r1
    refine ⟨!ds.isEmpty, .inl ⟨vs, hs, by rw [isEmpty_reps hr]⟩, q _ _ _ _ _ h1 e1 g1⟩
theorem wg_sub {x : AV} {kn : En → Prop} (h : WpE K F to ρ fun o ρ1 => WpE K F ti ρ1 fun i ρ2 => ∃ (j m : Nat) (n : Int) (d : D) (ρ3 : En) (ds : List D), o = .cel j ∧ i = .dat (.int n) ∧ Frz [x] ρ2 [d] ρ3 ∧ ρ3.ce[j]? = some (.lst ds) ∧ ixN ds.length n = some m ∧ kn (ρ3.cell j (.lst (ds.set m d)))) : WpG K F (gSub to ti rSetL) x ρ kn := fun as σ H G v e r Q q =>
  h as σ H G e _ fun o ρ1 vo as1 H1 G1 h1 e1 g1 r1 => h1 as1 σ H1 G1 e1 _ fun i ρ2 vi as2 H2 G2 ⟨j, m, n, d, ρ3, ds, eo, ei, fz, hc, hi, hk⟩ e2 g2 r2 => by
    subst eo ei
    obtain ⟨G3, e3, g3, r3⟩ := fz.run e2 (.cons (r.mono (g1.trans g2)) .nil)
    obtain ⟨a, ha, rfl⟩ := r1.mono g2
    cases r3 with
    | cons y z =>
      cases z
      obtain ⟨_, _, g, ws, hw, hr⟩ := e3.ce j _ a hc ha
      refine ⟨a, ws, n, m, rfl, Rep.intE r2, hw, by rw [hr.length]; exact hi, q _ as2 σ _ G3 hk (e3.setC hc ha g ⟨g, _, upd_same, hr.set y m⟩) (g1.trans (g2.trans g3))⟩
theorem wm_pop {j : Nat} {ds : List D} {d : D} (hc : ρ.ce[j]? = some (.lst ds)) (hd : ds.getLast? = some d) (hk : k (.dat d) (ρ.cell j (.lst ds.dropLast))) : WpM K F rPop (.cel j) [] ρ k := fun as σ H G v vs e r1 r2 Q q => by
  obtain ⟨a, ha, rfl⟩ := r1
  cases r2
  obtain ⟨_, _, g, ws, hw, hr⟩ := e.ce j _ a hc ha
  rw [List.getLast?_eq_getElem?] at hd
  obtain ⟨v, hv, rv⟩ := hr.get hd
  have hdl : Reps K G ds.dropLast ws.dropLast := by
    rw [List.dropLast_eq_take, List.dropLast_eq_take, hr.length]
    exact hr.take _
  exact ⟨a, ws, v, rfl, rfl, hw, by rw [hr.length]; exact hv, q _ _ _ as _ G hk (e.setC hc ha g ⟨g, _, upd_same, hdl⟩) .refl rv⟩
theorem sub_in {o i : AV} {x : AV} {j m : Nat} {n : Int} {d : D} {ρ2 ρ3 : En} {ds : List D} {kn : En → Prop} (h1 : o = .cel j) (h2 : i = .dat (.int n)) (h0 : Frz [x] ρ2 [d] ρ3) (h3 : ρ3.ce[j]? = some (.lst ds)) (h4 : ixN ds.length n = some m) (hk : kn (ρ3.cell j (.lst (ds.set m d)))) :
    ∃ (j m : Nat) (n : Int) (d : D) (ρ3 : En) (ds : List D), o = .cel j ∧ i = .dat (.int n) ∧ Frz [x] ρ2 [d] ρ3 ∧ ρ3.ce[j]? = some (.lst ds) ∧ ixN ds.length n = some m ∧ kn (ρ3.cell j (.lst (ds.set m d))) := ⟨j, m, n, d, ρ3, ds, h1, h2, h0, h3, h4, hk⟩
end
theorem mapC {α β : Type} (f : α → β) (a : α) (l : List α) : List.map f (a :: l) = f a :: List.map f l := rfl
theorem mapN {α β : Type} (f : α → β) : List.map f [] = [] := rfl
theorem frzA_d (j : Nat) (d e : D) : frzA j d (.dat e) = .dat e := rfl
theorem frzA_c (j i : Nat) (d : D) : frzA j d (.cel i) = if i = j then .dat d else .cel i := rfl
/-! ### try by data -/
section
variable {K : PySem.W.Frag} {F : Fx} {ρ : En} {k : AV → En → Prop} {ks : KS}
def En.clr (ρ : En) (i : Nat) : En := ⟨ρ.sl.set i none, ρ.ce⟩
theorem EnvOk.clr {as : List Addr} {σ : L2.St} {H G : Hp} (e : EnvOk K F ρ as σ H G) (i : Nat) : EnvOk K F (ρ.clr i) as (σ.set i none) H G :=
  ⟨e.kp, e.gh, e.fh, e.fg, e.g0, e.nd, e.pr, e.ln, e.ce, by rw [List.length_set, e.sn]; exact (List.length_set).symm, fun j av hj => by
    have hj' : (ρ.sl.set i none)[j]? = some (some av) := hj
    by_cases hij : i = j
    · subst hij
      rw [List.getElem?_set] at hj'
      simp at hj'
    · rw [List.getElem?_set_ne hij] at hj'
      obtain ⟨v, hv, r⟩ := e.sl j av hj'
      exact ⟨v, by rw [List.getElem?_set_ne hij]; exact hv, r⟩, e.rg⟩
def KS.off (ks : KS) (i : Nat) : KS := { nx := fun ρ => ks.nx (ρ.clr i), rt := ks.rt, bk := fun ρ => ks.bk (ρ.clr i), ct := fun ρ => ks.ct (ρ.clr i) }
theorem EndsOk.off {as : List Addr} {G : Hp} {D : Ends} (q : EndsOk K F as G ks D) (i : Nat) : EndsOk K F as G (ks.off i) (offAt i D) :=
  ⟨fun ρ as' σ H G' a b c => q.nx _ as' _ H G' a (b.clr i) c, q.rt, fun ρ as' σ H G' a b c => q.bk _ as' _ H G' a (b.clr i) c, fun ρ as' σ H G' a b c => q.ct _ as' _ H G' a (b.clr i) c, q.fr⟩
/-- what an error of the class C meets at the clauses -/
def Mix (K : PySem.W.Frag) (F : Fx) (C : Addr) (out : Prop) : List (Value × Option Nat × Suite) → En → KS → Prop
  | [], _, _ => out
  | (c, none, t) :: r, ρ, ks => ∃ y, PySem.W.exmOne K (.ref C) c = some y ∧ if y = true then ∀ e, WpS K F (t e (.ref C) none) ρ ks else Mix K F C out r ρ ks
  | (c, some i, t) :: r, ρ, ks => ∃ y, PySem.W.exmOne K (.ref C) c = some y ∧ if y = true then ∀ e, WpS K F (t e (.ref C) none) (ρ.put i (.dat (.cls e))) (ks.off i) else Mix K F C out r ρ ks
theorem Mix.run {C : Addr} {out : Prop} {Wo : WX} {as as0 : List Addr} {σ : L2.St} {H G G0 : Hp} {D : Ends} (e : EnvOk K F ρ as σ H G) (hWo : out → Wo (.ref C) none σ H) (q : EndsOk K F as G ks D) : ∀ {l : List (Value × Option Nat × Suite)}, Mix K F C out l ρ ks → wMix K Wo D l (.ref C) none σ H
  | [], h => hWo h
  | (c, none, t) :: r, ⟨y, hy, h⟩ => by
    refine ⟨y, hy, fun z x _ => ?_, fun z => ?_⟩
    · subst z
      exact (show ∀ x, WpS K F (t x (.ref C) none) ρ ks from h) x as σ H G e D q
    · subst z
      exact Mix.run (as0 := as0) (G0 := G0) e hWo q (show Mix K F C out r ρ ks from h)
  | (c, some i, t) :: r, ⟨y, hy, h⟩ => by
    refine ⟨y, hy, fun z x _ => ?_, fun z => ?_⟩
    · subst z
      exact (show ∀ x, WpS K F (t x (.ref C) none) (ρ.put i (.dat (.cls x))) (ks.off i) from h) x as _ H G (e.put (x := .dat (.cls x)) (Rep.cls x)) _ (q.off i)
    · subst z
      exact Mix.run (as0 := as0) (G0 := G0) e hWo q (show Mix K F C out r ρ ks from h)
/-- xk: which errors come, and at which environment -/
theorem ws_try {tb : WX → TS} {Wo : WX} {l : List (Value × Option Nat × Suite)} (xk : Addr → En → Prop) (out : Addr → Prop)
    (hWo : ∀ C ρ' as σ H G, out C → EnvOk K F ρ' as σ H G → Wo (.ref C) none σ H)
    (hb : ∀ (F1 : Fx) (W : WX), F1.fr = F.fr → (∀ C ρ' as σ H G, xk C ρ' → EnvOk K F1 ρ' as σ H G → W (.ref C) none σ H) → WpS K F1 (tb W) ρ ks)
    (hs : ∀ C ρ', xk C ρ' → Mix K F C (out C) l ρ' ks) : WpS K F (fun D u G => tb (wMix K Wo D l) D u G) ρ ks := fun as σ H G e D q => by
  have cv : ∀ {H'}, FrE F.Fr G H' → FrE F.Fr F.G0 H' := fun {H'} f a o h => by
    obtain ⟨u, hu, eu, xu⟩ := f a o h
    refine ⟨u, hu, eu, fun g => xu ?_⟩
    cases q : G a with
    | none => rfl
    | some w =>
      rcases e.fg a w q with y | y
      · rw [g] at y; cases y
      · rw [h] at y; cases y
  let F1 : Fx := ⟨F.Fr, G, F.E, F.ex, F.C0, F.Hn, F.kx, fun C H' hc f kk => F.hE C H' hc (cv f) kk, F.fr, as⟩
  have e1 : EnvOk K F1 ρ as σ H G := by
    refine ⟨⟨e.kp.n, fun H' G' k1 k2 k3 k4 => e.kp.k H' G' (Same.trans e.g0 k1) k2 (fun a o h => (k3 a o h).elim (e.fg a o) .inr) k4⟩, e.gh, fun a o h => ?_, fun a o h => .inl h, Same.refl _, e.nd, List.prefix_refl _, e.ln, e.ce, e.sn, e.sl, e.rg⟩
    obtain ⟨u, hu, eu, xu⟩ := e.fh a o h
    exact ⟨u, hu, eu, fun g => xu (Same.none e.g0 g)⟩
  have back : ∀ {ρ' : En} {as' : List Addr} {σ' : L2.St} {H' G' : Hp}, EnvOk K F1 ρ' as' σ' H' G' → EnvOk K F ρ' as' σ' H' G' ∧ Gr G as G' as' := fun {ρ' as' σ' H' G'} x => by
    refine ⟨⟨⟨x.kp.n, e.kp.k⟩, x.gh, cv x.fh, fun a o h => ?_, Same.trans e.g0 x.g0, x.nd, e.pr.trans x.pr, x.ln, x.ce, x.sn, x.sl, x.rg⟩, ⟨x.g0, ?_⟩⟩
    · rcases x.fg a o h with z | z
      · exact e.fg a o z
      · exact .inr z
    · obtain ⟨r, hr⟩ := x.pr
      exact ⟨r, hr.symm⟩
  refine hb F1 (wMix K Wo D l) rfl (fun C ρ' as' σ' H' G' hx ex => ?_) as σ H G e1 D ⟨fun ρ' as' σ' H' G' a b _ => ?_, fun av ρ' v as' σ' H' G' a b _ r => ?_, fun ρ' as' σ' H' G' a b _ => ?_, fun ρ' as' σ' H' G' a b _ => ?_, q.fr⟩
  · obtain ⟨b1, g1⟩ := back ex
    exact Mix.run (as0 := as) (G0 := G) b1 (fun z => hWo C ρ' as' σ' H' G' z b1) (EndsOk.grow K F q g1) (hs C ρ' hx)
  · obtain ⟨b1, g1⟩ := back b
    exact q.nx ρ' as' σ' H' G' a b1 g1
  · obtain ⟨b1, g1⟩ := back b
    exact q.rt av ρ' v as' σ' H' G' a b1 g1 r
  · obtain ⟨b1, g1⟩ := back b
    exact q.bk ρ' as' σ' H' G' a b1 g1
  · obtain ⟨b1, g1⟩ := back b
    exact q.ct ρ' as' σ' H' G' a b1 g1
/-- nothing is let out -/
theorem ws_try0 {tb : WX → TS} {l : List (Value × Option Nat × Suite)} (xk : Addr → En → Prop)
    (hb : ∀ (F1 : Fx) (W : WX), F1.fr = F.fr → (∀ C ρ' as σ H G, xk C ρ' → EnvOk K F1 ρ' as σ H G → W (.ref C) none σ H) → WpS K F1 (tb W) ρ ks)
    (hs : ∀ C ρ', xk C ρ' → Mix K F C False l ρ' ks) : WpS K F (fun D u G => tb (wMix K (fun _ _ _ _ => False) D l) D u G) ρ ks := ws_try xk (fun _ => False) (fun _ _ _ _ _ _ z _ => z) hb hs
/-- a call in a try: its errors meet the clauses -/
theorem wspT {W : PW0} {Wx : WX} {xk : Addr → En → Prop} {xs : List AV} {ds : List D} (hW : ∀ C ρ' as σ H G, xk C ρ' → EnvOk K F ρ' as σ H G → Wx (.ref C) none σ H) (ha : AsD ρ xs ds) (hw : W (ds.map .dat) [] (fun r _ => aft ρ xs k r) (fun C => xk C ρ)) : WpSp K F (spG K W) (L2.WE Wx) xs ρ k := wsp0 ha (fun C as σ H G h e => hW C ρ as σ H G h e) hw
/-- isinstance of a caught error -/
theorem wc_isE {a C Y : Addr} {b : Bool} (hx : ExcC K C) (hk : PySem.W.kitOne K (.ref C) (.ref Y) = some b) (h : k (.dat (.bl b)) ρ) : WpC K F (fun xs H Q => ∃ D, Value.ref C = .ref D ∧ (none : Option Addr) = none ∧ ExcC K D ∧ rIsE K D a xs H Q) [.dat (.cls a), .dat (.cls Y)] ρ k := fun as σ H G vs e r Q q => by
  cases r with
  | cons r1 r2 =>
    cases r2 with
    | cons r2 r3 =>
      cases r3
      cases (show Rep K G (.cls a) _ from r1)
      cases (show Rep K G (.cls Y) _ from r2)
      exact ⟨C, rfl, rfl, hx, _, _, b, rfl, (fun u hu => by cases hu; rfl), hk, q _ ρ _ as H G h e .refl (Rep.bl _)⟩
theorem wc_isEB {a C : Addr} {s : String} {b : Bool} (hx : ExcC K C) (hk : PySem.W.kitOne K (.ref C) (.type s) = some b) (h : k (.dat (.bl b)) ρ) : WpC K F (fun xs H Q => ∃ D, Value.ref C = .ref D ∧ (none : Option Addr) = none ∧ ExcC K D ∧ rIsE K D a xs H Q) [.dat (.cls a), .dat (.ty s)] ρ k := fun as σ H G vs e r Q q => by
  cases r with
  | cons r1 r2 =>
    cases r2 with
    | cons r2 r3 =>
      cases r3
      cases (show Rep K G (.cls a) _ from r1)
      cases (show Rep K G (.ty s) _ from r2)
      exact ⟨C, rfl, rfl, hx, _, _, b, rfl, (fun u hu => by cases hu; rfl), hk, q _ ρ _ as H G h e .refl (Rep.bl _)⟩
/-- {} -/
theorem we_dnew (h : k (.dat .dic) ρ) : WpE K F tDNewK ρ k := fun as σ H G e Q q p hp => by
  obtain ⟨e3, g3⟩ := e.newG (o := .dK []) hp
  exact q _ _ _ _ _ _ h e3 g3 (Rep.dic upd_same)
end
/-! ### a try as one word -/
def tTry (K : PySem.W.Frag) (tb : WX → TS) (Wo : WX) (l : List (Value × Option Nat × Suite)) : TS := fun D u G => tb (wMix K Wo D l) D u G
theorem ps_tryT {X : Cx} {body : List Stmt} {h1 : ExceptHandler} {hds : List ExceptHandler} {l : List (Value × Option Nat × Suite)} {pos : Pos} {tb : WX → TS} {Wo : WX} (hs : X.stack = X.env :: X.outer) (hf : X.env.frame = some X.env.locals) (tk : Takes X Wo)
    (hb : ∀ W pn xe, Takes (X.tr pn xe) W → PassesOwn (model X.prog X.w) X.A X.env xe → PSs (X.tr pn xe) body (tb W)) (hh : Clauses X (h1 :: hds) l) :
    PS X (.Try body (h1 :: hds) [] [] pos) (tTry X.K tb Wo l) := ps_try_mix hs hf tk hb hh
section
variable {K : PySem.W.Frag} {F : Fx} {ρ : En} {k : AV → En → Prop} {ks : KS}
theorem ws_tryT {tb : WX → TS} {l : List (Value × Option Nat × Suite)} (xk : Addr → En → Prop)
    (hb : ∀ (F1 : Fx) (W : WX), F1.fr = F.fr → (∀ C ρ' as σ H G, xk C ρ' → EnvOk K F1 ρ' as σ H G → W (.ref C) none σ H) → WpS K F1 (tb W) ρ ks)
    (hs : ∀ C ρ', xk C ρ' → Mix K F C False l ρ' ks) : WpS K F (tTry K tb (fun _ _ _ _ => False) l) ρ ks := ws_try0 xk hb hs
end
/-! ### tuples that hold cells -/
section
variable {K : PySem.W.Frag} {F : Fx} {ρ : En} {k : AV → En → Prop} {ks : KS} {t : TA}
def TN.av : TN → AV
  | .dat d => .dat d
  | .cel j => .cel j
  | .tup xs => .tup xs
def AV.tn : AV → TN
  | .dat d => .dat d
  | .cel j => .cel j
  | .tup xs => .tup xs
theorem TNr.av {G : Hp} {as : List Addr} {x : TN} {v : V} (h : TNr K G as x v) : RepA K G as x.av v := by
  cases h with
  | dat r => exact r
  | cel e => exact ⟨_, e, rfl⟩
  | tup s r => exact ⟨_, _, rfl, s, r⟩
theorem TNr.tn {G : Hp} {as : List Addr} {x : AV} {v : V} (h : RepA K G as x v) : TNr K G as x.tn v := by
  cases x with
  | dat d => exact .dat h
  | cel j => obtain ⟨a, e, rfl⟩ := h; exact .cel e
  | tup xs => obtain ⟨a, vs, rfl, s, r⟩ := h; exact .tup s r
theorem TNs.get {G : Hp} {as : List Addr} {xs : List TN} {vs : List V} (h : TNs K G as xs vs) : ∀ {i : Nat} {x : TN}, xs[i]? = some x → ∃ v, vs[i]? = some v ∧ TNr K G as x v := by
  induction xs generalizing vs with
  | nil => intro i x e; simp at e
  | cons y ys ih =>
    cases h with
    | cons a b =>
      intro i x e
      cases i with
      | zero => simp at e; subst e; exact ⟨_, rfl, a⟩
      | succ i => obtain ⟨v, q, r⟩ := ih b (i := i) (by simpa using e); exact ⟨v, by simpa using q, r⟩
theorem TNs.tns {G : Hp} {as : List Addr} : ∀ {xs : List AV} {vs : List V}, RepAs K G as xs vs → TNs K G as (xs.map AV.tn) vs
  | [], _, h => by cases h; exact .nil
  | x :: xs, _, h => by cases h with | cons a b => exact .cons (TNr.tn a) (TNs.tns b)
theorem TNs.avs {G : Hp} {as : List Addr} : ∀ {xs : List TN} {vs : List V}, TNs K G as xs vs → RepAs K G as (xs.map TN.av) vs
  | [], _, h => by cases h; exact .nil
  | x :: xs, _, h => by cases h with | cons a b => exact .cons a.av (TNs.avs b)
theorem TNs.len {G : Hp} {as : List Addr} : ∀ {xs : List TN} {vs : List V}, TNs K G as xs vs → vs.length = xs.length
  | [], _, h => by cases h; rfl
  | x :: xs, _, h => by cases h with | cons a b => exact congrArg (· + 1) (TNs.len b)
/-- (a, b, ..): its lists stay lists that are written to -/
theorem we_tupC (h : WpA K F t ρ fun xs ρ1 => Nat.ble xs.length 1000 = true ∧ k (.tup (xs.map AV.tn)) ρ1) : WpE K F (tTup t) ρ k := fun as σ H G e Q q =>
  h as σ H G e _ fun xs ρ1 vs as1 H1 G1 ⟨hl, hk⟩ e1 g1 r1 => by
    refine ⟨sz (by rw [r1.length]; exact hl), fun p hp => ?_⟩
    obtain ⟨e3, g3⟩ := e1.newG (o := .tup vs) hp
    exact q _ _ _ _ _ _ hk e3 (g1.trans g3) ⟨p, vs, rfl, SqT.of upd_same, TNs.mono g3 _ _ (TNs.tns r1)⟩
/-- an item by its place -/
theorem wr_ixC {xs : List TN} {x : TN} {i : Int} {j : Nat} (hi : ixN xs.length i = some j) (hx : xs[j]? = some x) (hk : k x.av ρ) : WpR K F (rIxT K) (.tup xs) (.dat (.int i)) ρ k := fun as σ H G vx vy e r1 r2 Q q => by
  obtain ⟨a, vs, rfl, s, r⟩ := r1
  rw [Rep.intE r2]
  obtain ⟨v, hv, rv⟩ := r.get hx
  refine ⟨a, vs, i, v, rfl, rfl, e.gT s, ?_, q _ ρ _ as H G hk e .refl rv.av⟩
  unfold atI
  rw [r.len, hi]
  exact hv
/-- its items by name -/
theorem wg_tupC {n : Nat} {gs : TGs} {xs : List TN} {kn : En → Prop} (hn : xs.length = n) (h : WpGs K F gs (xs.map TN.av) ρ kn) : WpG K F (gTup K n gs) (.tup xs) ρ kn := fun as σ H G v e r Q q => by
  obtain ⟨a, vs, rfl, s, rs⟩ := r
  exact ⟨a, vs, rfl, e.gT s, by rw [rs.len]; exact hn, h as σ H G vs e (TNs.avs rs) Q q⟩
theorem wc_isiT {T : String} {xs : List TN} (hT : T ∈ ["int", "bool", "str", "tuple", "list"]) (hk : k (.dat (.bl (T == "tuple"))) ρ) : WpC K F (rIsi K) [.tup xs, .dat (.ty T)] ρ k := fun as σ H G vs e r Q q => by
  cases r with
  | cons r1 c =>
    cases c with
    | cons r2 c =>
      cases c
      cases (show Rep K G (.ty T) _ from r2)
      obtain ⟨a, ws, rfl, s, rs⟩ := r1
      have h2 : kitB "tuple" T = some (T == "tuple") := by
        simp only [List.mem_cons, List.not_mem_nil, or_false] at hT
        rcases hT with rfl | rfl | rfl | rfl | rfl <;> decide +kernel
      exact ⟨_, _, _, _, _, rfl, .ty _, SqT.ty (e.gT s), kit_ty h2, q _ ρ _ as H G hk e .refl (Rep.bl _)⟩
theorem fin_prt {n : Nat} {post : RV → List Cell → Prop} {xs ds ys : List D} {j : Nat} (hj : n ≤ j) (hc : ρ.ce[j]? = some (.lst ds)) (ng : noGone (ρ.ce.take n) = true) (q : post (.prt xs ds ys) (ρ.ce.take n)) : (KS.fin n post).rt (.tup (xs.map .dat ++ .cel j :: ys.map .dat)) ρ := ⟨_, .prt hj hc, ng, q⟩
end
/-! ### objects by data -/
def lookD : List Str → List D → Str → Option D
  | n :: ns, d :: ds, f => if (f == n) = true then some d else lookD ns ds f
  | _, _, _ => none
def putN (f : Str) : List Str → List Str
  | [] => [f]
  | g :: r => if g = f then g :: r else g :: putN f r
def putD (f : Str) (d : D) : List Str → List D → List D
  | g :: r, x :: xs => if g = f then d :: xs else x :: putD f d r xs
  | _, _ => [d]
theorem look_rep {K : PySem.W.Frag} {G : Hp} {f : Str} {d : D} : ∀ {ns : List Str} {ds : List D} {vs : List V}, Reps K G ds vs → lookD ns ds f = some d → ∃ v, (ns.zip vs).lookup f = some v ∧ Rep K G d v
  | [], _, _, _, h => by rw [lookD] at h; cases h; simp
  | n :: ns, [], _, _, h => by rw [lookD] at h; cases h; simp
  | n :: ns, x :: ds, _, r, h => by
    cases r with
    | cons a b =>
      rw [lookD] at h
      rw [List.zip_cons_cons, List.lookup_cons]
      by_cases c : (f == n) = true
      · rw [if_pos c] at h
        cases h
        rw [c]
        exact ⟨_, rfl, a⟩
      · rw [if_neg c] at h
        rw [Bool.not_eq_true] at c
        rw [c]
        exact look_rep b h
def hasN (f : Str) : List Str → Bool
  | [] => false
  | n :: ns => (f == n) || hasN f ns
theorem look_none {f : Str} : ∀ {ns : List Str} {vs : List V}, hasN f ns = false → (ns.zip vs).lookup f = none
  | [], _, _ => by simp
  | _ :: _, [], _ => by simp
  | n :: ns, v :: vs, h => by
    rw [hasN, Bool.or_eq_false_iff] at h
    rw [List.zip_cons_cons, List.lookup_cons, h.1]
    exact look_none h.2
theorem put_zip {K : PySem.W.Frag} {G : Hp} {f : Str} {d : D} {v : V} (r : Rep K G d v) : ∀ {ns : List Str} {ds : List D} {vs : List V}, Reps K G ds vs → ns.length = ds.length → ∃ ws, putF f v (ns.zip vs) = (putN f ns).zip ws ∧ (putN f ns).length = (putD f d ns ds).length ∧ Reps K G (putD f d ns ds) ws
  | [], ds, vs, h, l => by
    cases ds with
    | nil => cases h; exact ⟨[v], rfl, rfl, .cons r .nil⟩
    | cons => cases l
  | n :: ns, [], _, _, l => by cases l
  | n :: ns, x :: ds, _, h, l => by
    cases h with
    | cons a b =>
      rename_i w ws
      by_cases c : n = f
      · refine ⟨v :: ws, ?_, ?_, ?_⟩
        · rw [List.zip_cons_cons, putF, if_pos c, putN, if_pos c]; rfl
        · rw [putN, if_pos c, putD, if_pos c]; exact l
        · rw [putD, if_pos c]; exact .cons r b
      · obtain ⟨us, e1, e2, e3⟩ := put_zip (f := f) r b (Nat.succ.inj l)
        refine ⟨w :: us, ?_, ?_, ?_⟩
        · rw [List.zip_cons_cons, putF, if_neg c, putN, if_neg c, e1]; rfl
        · rw [putN, if_neg c, putD, if_neg c, List.length_cons, List.length_cons, e2]
        · rw [putD, if_neg c]; exact .cons a e3
/-- an object: data, or a cell -/
inductive IsO (ρ : En) : AV → Addr → List Str → List D → Prop
  | dat {C : Addr} {ns : List Str} {ds : List D} : IsO ρ (.dat (.obj C ns ds)) C ns ds
  | cel {j : Nat} {C : Addr} {ns : List Str} {ds : List D} : ρ.ce[j]? = some (.ins C ns ds) → IsO ρ (.cel j) C ns ds
  | tag {j : Nat} {g C : Addr} {ns : List Str} {ds : List D} : ρ.ce[j]? = some (.oth (insX g C ns ds)) → IsO ρ (.dat (.cls g)) C ns ds
def En.addO (ρ : En) (C : Addr) : En := ⟨ρ.sl, ρ.ce ++ [.ins C [] []]⟩
section
variable {K : PySem.W.Frag} {F : Fx} {ρ : En} {k : AV → En → Prop} {ks : KS} {ta tv te : TE} {t : TA}
theorem IsO.rep {as : List Addr} {σ : L2.St} {H G : Hp} {x : AV} {C : Addr} {ns : List Str} {ds : List D} {v : V} (e : EnvOk K F ρ as σ H G) (h : IsO ρ x C ns ds) (r : RepA K G as x v) : ∃ a dx vs gs, v = .ref a ∧ H a = some (.ins C dx gs) ∧ erF gs = erF (ns.zip vs) ∧ ns.length = ds.length ∧ Reps K G ds vs := by
  cases h with
  | dat => obtain ⟨a, dx, vs, rfl, ho, hl, hr⟩ := Rep.objE r; obtain ⟨gs, hg, eg⟩ := e.gO ho; exact ⟨a, dx, vs, gs, rfl, hg, eg, hl, hr⟩
  | cel hc =>
    obtain ⟨a, ha, rfl⟩ := r
    obtain ⟨_, _, _, dx, vs, hv, hl, hr⟩ := e.ce _ _ a hc ha
    exact ⟨a, dx, vs, _, rfl, hv, rfl, hl, hr⟩
  | @tag j g C ns ds hc =>
    cases (show Rep K G (.cls g) v from r)
    obtain ⟨a, ha⟩ : ∃ a, as[j]? = some a := ⟨_, List.getElem?_eq_getElem (by rw [e.ln]; exact (List.getElem?_eq_some_iff.mp hc).1)⟩
    obtain ⟨_, _, _, o, ho, rfl, dx, vs, rfl, hl, hr⟩ := e.ce _ _ a hc ha
    exact ⟨a, dx, vs, _, rfl, ho, rfl, hl, hr K G⟩
theorem we_fld {f : Str} (h : WpE K F ta ρ fun x ρ1 => ∃ C ns ds d, IsO ρ1 x C ns ds ∧ Cls K C ∧ NoAttr K C f ∧ lookD ns ds f = some d ∧ k (.dat d) ρ1) (hf : hidN f = false := by first | rfl | decide) : WpE K F (tFld K ta f) ρ k := fun as σ H G e Q q =>
  h as σ H G e _ fun x ρ1 vx as1 H1 G1 ⟨C, ns, ds, d, ho, cl, na, hl, hk⟩ e1 g1 r1 => by
    obtain ⟨a, dx, vs, gs, rfl, hv, eg, _, hr⟩ := ho.rep e1 r1
    obtain ⟨v, hlv, rv⟩ := look_rep hr hl
    exact ⟨a, C, dx, _, v, rfl, hv, cl, na, by rw [← erF_look hf, eg, erF_look hf]; exact hlv, q _ _ _ _ _ _ hk e1 g1 rv⟩
theorem ws_fset {f : Str} (h : WpE K F tv ρ fun y ρ1 => WpE K F ta ρ1 fun x ρ2 => ∃ j C ns ds d ρ3, x = .cel j ∧ Frz [y] ρ2 [d] ρ3 ∧ ρ3.ce[j]? = some (.ins C ns ds) ∧ Cls K C ∧ NoAttr K C f ∧ Nat.ble ns.length 900 = true ∧ ks.nx (ρ3.cell j (.ins C (putN f ns) (putD f d ns ds)))) : WpS K F (sFld K ta tv f) ρ ks := fun as σ H G e D q =>
  h as σ H G e _ fun y ρ1 vy as1 H1 G1 h1 e1 g1 r1 => h1 as1 σ H1 G1 e1 _ fun x ρ2 vx as2 H2 G2 ⟨j, C, ns, ds, d, ρ3, ex, fz, hc, cl, na, hl, hk⟩ e2 g2 r2 => by
    subst ex
    obtain ⟨G3, e3, g3, r3⟩ := fz.run e2 (.cons (r1.mono g2) .nil)
    cases r3 with
    | cons ry rn =>
      cases rn
      obtain ⟨a, ha, rfl⟩ := r2
      obtain ⟨_, _, gn, dx, vs, hv, ln, hr⟩ := e3.ce j _ a hc ha
      obtain ⟨ws, ez, ln2, hr2⟩ := put_zip (f := f) ry hr ln
      have hl := Nat.le_of_ble_eq_true hl
      refine ⟨a, C, dx, ns.zip vs, rfl, hv, cl, na, by rw [List.length_zip]; omega, ?_⟩
      rw [ez]
      exact q.nx _ as2 σ _ G3 hk (e3.setO hc ha gn ⟨gn, dx, ws, upd_same, ln2, hr2⟩) (g1.trans (g2.trans g3))
theorem we_meth {C : Addr} {m : Str} {sp : Sp} {E : XK} (h : WpE K F ta ρ fun x ρ1 => ∃ ns ds, IsO ρ1 x C ns ds ∧ hasN m ns = false ∧ WpA K F t ρ1 fun xs ρ2 => WpSp K F sp (fun _ => E) (x :: xs) ρ2 k) : WpE K F (tMeth C m sp [] E ta t) ρ k := fun as σ H G e Q q =>
  h as σ H G e _ fun x ρ1 vx as1 H1 G1 ⟨ns, ds, ho, hn, h1⟩ e1 g1 r1 => by
    obtain ⟨a, dx, vs, gs, rfl, hv, eg, _, hr⟩ := ho.rep e1 r1
    refine ⟨a, dx, _, rfl, hv, erF_no (by rw [eg]; exact erF_no2 (look_none hn)), h1 as1 σ H1 G1 e1 _ fun xs ρ2 ws as2 H2 G2 h2 e2 g2 r2 => ?_⟩
    rw [List.append_nil]
    exact h2 as2 σ H2 G2 _ e2 (.cons (r1.mono g2) r2) Q (q.imp (g1.trans g2) fun _ _ z => z)
def tMethS (C : Addr) (m : Str) (sp : Sp) (E : L2.St → XK) (ta : TE) (t : TA) : TE := fun u G Q => ta u G fun x G1 => ∃ a dx fs, x = .ref a ∧ G1 a = some (.ins C dx fs) ∧ fs.lookup m = none ∧ t u G1 fun vs G2 => sp (x :: vs) G2 Q (E u)
theorem we_methS {C : Addr} {m : Str} {sp : Sp} {E : L2.St → XK} (h : WpE K F ta ρ fun x ρ1 => ∃ ns ds, IsO ρ1 x C ns ds ∧ hasN m ns = false ∧ WpA K F t ρ1 fun xs ρ2 => WpSp K F sp E (x :: xs) ρ2 k) : WpE K F (tMethS C m sp E ta t) ρ k := fun as σ H G e Q q =>
  h as σ H G e _ fun x ρ1 vx as1 H1 G1 ⟨ns, ds, ho, hn, h1⟩ e1 g1 r1 => by
    obtain ⟨a, dx, vs, gs, rfl, hv, eg, _, hr⟩ := ho.rep e1 r1
    exact ⟨a, dx, _, rfl, hv, erF_no (by rw [eg]; exact erF_no2 (look_none hn)), h1 as1 σ H1 G1 e1 _ fun xs ρ2 ws as2 H2 G2 h2 e2 g2 r2 => h2 as2 σ H2 G2 _ e2 (.cons (r1.mono g2) r2) Q (q.imp (g1.trans g2) fun _ _ z => z)⟩
/-- a method's call in a try -/
theorem pe_methT {X : Cx} {CT : CXT} {n : Nat} {C f : Addr} {fd : FuncData} {ps : List Str} {m : Str} {sp : Sp} {E : L2.St → XK} {o x : Expr} {es : List Expr} {p pos : Pos} {pl : Sem Bool} (he : PE X o ta) (c : Cls X.K C) (hm : Meth X.K C m f) (F0 : FnOk X.prog X.w X.K X.mg X.base CT n f fd ps sp) (hr : Room n X.A) (hb : Binds X.K fd ps []) (hx : ∀ u, PassesAt CT X u (E u)) (ha : PA X (x :: es) t)
    (s1 : starEach (x :: es) X.env = (false, eval x X.env) :: starEach es X.env := by rfl) (s2 : (backTo pos (starEach es X.env)).any (·.1) = false := by rfl)
    (s3 : eval (.Call (.Attribute o m p) (x :: es) [] pos) X.env = (do
      let r ← eval o X.env
      standAt p.atName
      let (g, a0) ← holding [r] (getMethod r m pl)
      callWith pos g a0 (backTo pos (starEach (x :: es) X.env)) (backToKw pos (keywordEach [] X.env))) := by rfl) : PE X (.Call (.Attribute o m p) (x :: es) [] pos) (tMethS C m sp E ta t) := by
  constructor
  intro pins s u G Q I h
  refine PySem.W.methodCall_KW (pl := pl) (thn (he.run pins s u G _ I h) ?_) s3
  rintro w s' ⟨v, G1, I1, r1, a, dx, fs, rfl, ho, hl, hq⟩
  obtain rfl : w = Value.ref a := r1
  refine getmeth_ok I1 ho c hm hl ?_
  refine PySem.W.callWith_K (first := [.ref a]) (h₀ := X.base) I.ok.mod.kin hm.kp (thn (ha.run pos pins s' u G1 _ I1 hq) ?_) s1 s2
  rintro us s4 ⟨vs, G2, I2, r2, q2⟩
  exact ⟨I2.kIn, run_fnS (us := .ref a :: us) (vs := .ref a :: vs) F0 hr hb (hx u) I2 (.cons rfl r2) q2⟩
/-- C(..) -/
theorem new_obj {as : List Addr} {σ : L2.St} {H G : Hp} {C x dx : Addr} (e : EnvOk K F ρ as σ H G) (hx : H x = none) (hd : H dx = none) (ne : dx ≠ x) : ∃ G', EnvOk K F (ρ.addO C) (as ++ [x]) σ (upd (upd H dx (.own x)) x (.ins C dx [])) G' ∧ Gr G as G' (as ++ [x]) ∧ as.length = ρ.ce.length := by
  obtain ⟨e1, g1⟩ := e.newG (o := .own x) hd
  have hx1 : upd H dx (.own x) x = none := by rw [upd_ne fun z => ne z.symm]; exact hx
  obtain ⟨e2, g2⟩ := e1.newO (o := .ins C dx []) (c0 := .ins C [] []) hx1 (fun gp => ⟨gp, dx, [], by rw [upd_same]; rfl, rfl, .nil⟩)
  exact ⟨_, e2, g1.trans g2, e.ln⟩
theorem we_make {C : Addr} {sp : Sp} {E : XK} (h : WpA K F t ρ fun xs ρ1 => ∃ ds ρ2, Frz xs ρ1 ds ρ2 ∧ WpSp K F sp (fun _ => E) (.cel ρ2.ce.length :: ds.map .dat) (ρ2.addO C) fun r ρ3 => r = .dat .non ∧ k (.cel ρ2.ce.length) ρ3) : WpE K F (tMake C sp [] E t) ρ k := fun as σ H G e Q q =>
  h as σ H G e _ fun xs ρ1 vs as1 H1 G1 ⟨ds, ρ2, fz, h1⟩ e1 g1 r1 x dx hx hd ne => by
    obtain ⟨G2, e2, g2, r2⟩ := fz.run e1 r1
    obtain ⟨G3, e3, g3, ln⟩ := new_obj (C := C) e2 hx hd ne
    have rl : RepA K G3 (as1 ++ [x]) (.cel ρ2.ce.length) (.ref x) := RepA.last ln
    rw [List.append_nil]
    refine h1 _ σ _ G3 _ e3 (.cons rl ((Reps.as (as := as1) r2).mono g3)) _ ?_
    rintro av ρ3 v as4 H4 G4 ⟨rfl, hk⟩ e4 g4 r4
    exact ⟨Rep.nonE r4, q _ _ _ _ _ _ hk e4 (g1.trans (g2.trans (g3.trans g4))) (rl.mono g4)⟩
/-- C(*xs) -/
theorem we_makeS {C : Addr} {sp : Sp} {E : XK} (h : WpE K F te ρ fun y ρ1 => ∃ ds, (IsL ρ1 y ds ∨ y = .dat (.tup ds)) ∧ WpSp K F sp (fun _ => E) (.cel ρ1.ce.length :: ds.map .dat) (ρ1.addO C) fun r ρ3 => r = .dat .non ∧ k (.cel ρ1.ce.length) ρ3) : WpE K F (tMakeS K C sp E te) ρ k := fun as σ H G e Q q =>
  h as σ H G e _ fun y ρ1 vy as1 H1 G1 ⟨ds, hy, h1⟩ e1 g1 r1 => by
    obtain ⟨a, vs, rfl, hs, hr⟩ : ∃ a vs, vy = .ref a ∧ (SqT K H1 a vs ∨ SqL K H1 a vs) ∧ Reps K G1 ds vs := by
      rcases hy with hy | rfl
      · obtain ⟨a, vs, e0, hs, hr⟩ := hy.rep e1 r1
        exact ⟨a, vs, e0, .inr hs, hr⟩
      · obtain ⟨a, vs, e0, hs, hr⟩ := Rep.tupE r1
        exact ⟨a, vs, e0, .inl (e1.gT hs), hr⟩
    refine ⟨a, vs, rfl, hs, fun x dx hx hd ne => ?_⟩
    obtain ⟨G3, e3, g3, ln⟩ := new_obj (C := C) e1 hx hd ne
    have rl : RepA K G3 (as1 ++ [x]) (.cel ρ1.ce.length) (.ref x) := RepA.last ln
    refine h1 _ σ _ G3 _ e3 (.cons rl ((Reps.as (as := as1) hr).mono g3)) _ ?_
    rintro av ρ3 v as4 H4 G4 ⟨rfl, hk⟩ e4 g4 r4
    exact ⟨Rep.nonE r4, q _ _ _ _ _ _ hk e4 (g1.trans (g3.trans g4)) (rl.mono g4)⟩
/-- a, *b = .. -/
theorem wg_star {g0 g1 : TG} {d : D} {ds : List D} {kn : En → Prop} (h : WpG K F g0 (.dat d) (ρ.add ds) fun ρ1 => WpG K F g1 (.cel ρ.ce.length) ρ1 kn) : WpG K F (gStar K g0 g1) (.dat (.tup (d :: ds))) ρ kn := fun as σ H G v e r Q q => by
  obtain ⟨a, vs, rfl, hs, hr⟩ := Rep.tupE r
  cases hr with
  | cons rx rs =>
    refine ⟨a, _, _, rfl, e.gT hs, fun l hl => ?_⟩
    obtain ⟨e2, g2⟩ := e.newC hl rs
    have rl : RepA K G (as ++ [l]) (.cel ρ.ce.length) (.ref l) := RepA.last e.ln
    exact h _ σ _ G _ e2 (Rep.mono (Same.refl _) _ _ rx) _ fun ρ1 as1 σ1 H1 G1 h1 e1 g1 => h1 as1 σ1 H1 G1 _ e1 (rl.mono g1) Q fun ρ2 as2 σ2 H2 G2 h2 e2 gg => q _ _ _ _ _ h2 e2 (g2.trans (g1.trans gg))
/-- a lane's fields; what is told of those that keep what was made once -/
abbrev LN : List Str := ["scale", "leaves", "leading", "reading", "due_units"]
def isGh : D → Bool
  | .non => true
  | .str _ => true
  | _ => false
def GhD (c : Cell) (d : D) : Prop := ∃ C x y z g1 g2, c = .ins C LN [x, y, z, .non, .non] ∧ d = .obj C LN [x, y, z, g1, g2] ∧ isGh g1 = true ∧ isGh g2 = true
theorem isGh_rep {g : D} (h : isGh g = true) : ∃ v, ∀ (K : PySem.W.Frag) (G : Hp), Rep K G g v := by
  cases g with
  | non => exact ⟨_, fun _ _ => .non⟩
  | str x => exact ⟨_, fun _ _ => .str x⟩
  | _ => cases h
theorem EnvOk.frzG {as : List Addr} {σ : L2.St} {H G : Hp} {j : Nat} {a : Addr} {c : Cell} {d : D} (e : EnvOk K F ρ as σ H G) (hj : ρ.ce[j]? = some c) (ha : as[j]? = some a) (h : GhD c d) : ∃ o, EnvOk K F (ρ.frzD j d) as σ H (upd G a o) ∧ Gr G as (upd G a o) as ∧ Rep K (upd G a o) d (.ref a) := by
  obtain ⟨C, x, y, z, g1, g2, rfl, rfl, i1, i2⟩ := h
  obtain ⟨_, _, g, dx, vs, hv, hl, hr⟩ := e.ce j _ a hj ha
  obtain ⟨u1, r1⟩ := isGh_rep i1
  obtain ⟨u2, r2⟩ := isGh_rep i2
  cases hr with
  | cons a1 hr =>
    cases hr with
    | cons a2 hr =>
      cases hr with
      | cons a3 hr =>
        cases hr with
        | cons a4 hr =>
          cases hr with
          | cons a5 hr =>
            cases hr
            cases Rep.nonE a4
            cases Rep.nonE a5
            rename_i v1 v2 v3
            have sg : ∀ o, Same G (upd G a o) := fun o => Same.new (Same.refl _) g
            refine ⟨.ins C dx (LN.zip [v1, v2, v3, u1, u2]), e.frzU hj ha (by rw [er_of hv]; rfl) g (.obj upd_same rfl (.cons (Rep.mono (sg _) _ _ a1) (.cons (Rep.mono (sg _) _ _ a2) (.cons (Rep.mono (sg _) _ _ a3) (.cons (r1 _ _) (.cons (r2 _ _) .nil)))))) fun C2 dx2 fs ez l gs hg n v q m => ?_⟩
            rw [hv] at hg
            cases hg
            have nn : ∀ {m : Str}, hidN m = false → (n == m) = false := fun {m} hm => by
              cases w : n == m with
              | false => rfl
              | true => rw [beq_iff_eq.mp w] at q; rw [hm] at q; cases q
            have m : (LN.zip [v1, v2, v3, V.non, V.non]).lookup n = some v := m
            simp only [LN, List.zip_cons_cons, List.zip_nil_right, List.lookup_cons, List.lookup_nil] at m
            rw [nn (by decide), nn (by decide), nn (by decide)] at m
            simp only [] at m
            split at m
            · exact (Option.some.inj m).symm
            · split at m
              · exact (Option.some.inj m).symm
              · cases m
/-- a new thing that nobody writes to is data at once -/
def frzO (k : AV → En → Prop) : AV → En → Prop := fun av ρ' => ∃ j c d, av = .cel j ∧ ρ'.ce[j]? = some c ∧ (celD c = some d ∨ GhD c d) ∧ k (.dat d) (ρ'.frzD j d)
theorem got_frzO {as : List Addr} {σ : L2.St} {G : Hp} {Q : VK} (q : Got K F ρ as σ G k Q) : Got K F ρ as σ G (frzO k) Q := fun av ρ' v as' H' G' ⟨j, c, d, ea, hc, hd, hk⟩ e' g' ra => by
  subst ea
  obtain ⟨a, ha, rfl⟩ := ra
  obtain ⟨o, e2, g2, rr⟩ := hd.elim (fun hd => e'.frzD hc ha hd) fun hd => e'.frzG hc ha hd
  exact q _ _ _ as' H' _ hk e2 (g'.trans g2) rr
theorem we_frzO (h : WpE K F te ρ (frzO k)) : WpE K F te ρ k := fun as σ H G e Q q => h as σ H G e Q (got_frzO q)
theorem ws_frzO {t : TS} {j : Nat} {c : Cell} {d : D} (hj : ρ.ce[j]? = some c) (hd : celD c = some d) (h : WpS K F t (ρ.frzD j d) ks) : WpS K F t ρ ks := fun as σ H G e D q => by
  have hl : j < as.length := by rw [e.ln]; exact (List.getElem?_eq_some_iff.mp hj).1
  obtain ⟨o, e2, g2, _⟩ := e.frzD hj (List.getElem?_eq_getElem hl) hd
  exact h as σ H _ e2 D (EndsOk.grow K F q g2)
/-- isinstance of an own class -/
theorem wc_isO {x : AV} {C Y : Addr} {ns : List Str} {ds : List D} {b : Bool} (ho : IsO ρ x C ns ds) (ty : ∀ {H : Hp} {a dx : Addr} {fs : List (Str × V)}, H a = some (.ins C dx fs) → TyX K H (.ref a) (.ref C)) (hb : PySem.W.kitOne K (.ref C) (.ref Y) = some b) (hk : k (.dat (.bl b)) ρ) : WpC K F (rIsi K) [x, .dat (.cls Y)] ρ k := fun as σ H G vs e r Q q => by
  cases r with
  | cons r1 r2 =>
    cases r2 with
    | cons r2 r3 =>
      cases r3
      cases (show Rep K G (.cls Y) _ from r2)
      obtain ⟨a, dx, vs, gs, rfl, hv, _, _, _⟩ := ho.rep e r1
      exact ⟨_, _, _, _, b, rfl, .own Y, ty hv, hb, q _ ρ _ as H G hk e .refl (Rep.bl _)⟩
/-- all of truths -/
theorem Reps.bls {G : Hp} : ∀ {bs : List Bool} {vs : List V}, Reps K G (bs.map D.bl) vs → vs = bs.map V.bl
  | [], _, h => by cases h; rfl
  | b :: bs, _, h => by
    cases h with
    | cons a c => cases a; rw [Reps.bls c]; rfl
theorem wc_all {x : AV} {bs : List Bool} (hx : IsL ρ x (bs.map D.bl)) (hk : k (.dat (.bl (bs.all id))) ρ) : WpC K F (rAll K) [x] ρ k := fun as σ H G vs e r Q q => by
  cases r with
  | cons r1 r2 =>
    cases r2
    obtain ⟨a, vs, rfl, hs, hr⟩ := hx.rep e r1
    rw [Reps.bls hr] at hs
    exact ⟨a, bs, rfl, hs, q _ ρ _ as H G hk e .refl (Rep.bl _)⟩
end
/-- a reading that is one of two -/
theorem we_or1 {K : PySem.W.Frag} {F : Fx} {ρ : En} {k : AV → En → Prop} {t1 t2 : TE} (h : WpE K F t1 ρ k) : WpE K F (fun σ H Q => t1 σ H Q ∨ t2 σ H Q) ρ k := fun as σ H G e Q q => .inl (h as σ H G e Q q)
theorem we_or2 {K : PySem.W.Frag} {F : Fx} {ρ : En} {k : AV → En → Prop} {t1 t2 : TE} (h : WpE K F t2 ρ k) : WpE K F (fun σ H Q => t1 σ H Q ∨ t2 σ H Q) ρ k := fun as σ H G e Q q => .inr (h as σ H G e Q q)
/-! ### a method's call with keywords alone -/
def tMethK (C : Addr) (m : Str) (sp : Sp) (n : Nat) (gV : List V → List V → List V) (E : XK) (ta : TE) (tk : TA) : TE := fun u G Q => ta u G fun x G1 => ∃ a dx fs, x = .ref a ∧ G1 a = some (.ins C dx fs) ∧ fs.lookup m = none ∧ tk u G1 fun zs G2 => zs.length = n ∧ sp (gV [x] zs) G2 Q E
theorem pe_methK0 {X : Cx} {CT : CXT} {n : Nat} {C f : Addr} {fd : FuncData} {ps ks : List Str} {m : Str} {sp : Sp} {E : XK} {o : Expr} {kws : List Keyword} {p pos : Pos} {pl : Sem Bool} {ta : TE} {tk : TA} {g : List Value → List Value → List Value} {gV : List V → List V → List V} (he : PE X o ta) (c : Cls X.K C) (hm : Meth X.K C m f) (F0 : FnOk X.prog X.w X.K X.mg X.base CT n f fd ps sp) (hr : Room n X.A) (hb : KBn X.K fd ps 1 ks g gV) (hx : Passes CT X E) (hkw : PK X kws tk)
    (hall : (backToKw pos (keywordEach kws X.env)).all (·.1.isSome) = true := by rfl) (hks : (backToKw pos (keywordEach kws X.env)).filterMap (·.1) = ks := by rfl)
    (hpl : ((backTo pos (starEach [] X.env)).any (·.1) || (backToKw pos (keywordEach kws X.env)).any (·.1.isNone)) = false := by rfl)
    (s3 : eval (.Call (.Attribute o m p) [] kws pos) X.env = (do
      let r ← eval o X.env
      standAt p.atName
      let (h, a0) ← holding [r] (getMethod r m pl)
      callWith pos h a0 (backTo pos (starEach [] X.env)) (backToKw pos (keywordEach kws X.env))) := by rfl) : PE X (.Call (.Attribute o m p) [] kws pos) (tMethK C m sp ks.length gV E ta tk) := by
  constructor
  intro pins s u G Q I h
  refine PySem.W.methodCall_KW (pl := pl) (thn (he.run pins s u G _ I h) ?_) s3
  rintro w s' ⟨v, G1, I1, r1, a, dx, fs, rfl, ho, hl, hq⟩
  obtain rfl : w = Value.ref a := r1
  refine getmeth_ok I1 ho c hm hl ?_
  refine PySem.W.callWith_KW0 (first := [.ref a]) (h₀ := X.base) I.ok.mod.kin hm.kp hall (thn (hkw.run pos pins s' u G1 _ I1 hq) ?_) hpl
  rintro ws s4 ⟨zs, G2, I2, rz, l2, q2⟩
  refine ⟨I2.kIn, ?_⟩
  rw [hks]
  exact run_fnN (us := [.ref a]) (vs := [.ref a]) F0 hr hb hx I2 (.cons rfl .nil) rz rfl l2 q2
section
variable {K : PySem.W.Frag} {F : Fx} {ρ : En} {k : AV → En → Prop} {ta tb tc : TE} {t tk : TA}
theorem we_methK {C : Addr} {m : Str} {sp : Sp} {n : Nat} {gV : List V → List V → List V} {E : XK} (h : WpE K F ta ρ fun x ρ1 => ∃ ns ds, IsO ρ1 x C ns ds ∧ hasN m ns = false ∧ WpA K F tk ρ1 fun ys ρ2 => ∃ zs, ys.length = n ∧ (∀ G as v ws, RepA K G as x v → RepAs K G as ys ws → RepAs K G as zs (gV [v] ws)) ∧ WpSp K F sp (fun _ => E) zs ρ2 k) : WpE K F (tMethK C m sp n gV E ta tk) ρ k := fun as σ H G e Q q =>
  h as σ H G e _ fun x ρ1 vx as1 H1 G1 ⟨ns, ds, ho, hn, h1⟩ e1 g1 r1 => by
    obtain ⟨a, dx, vs, gs, rfl, hv, eg, _, hr⟩ := ho.rep e1 r1
    exact ⟨a, dx, _, rfl, hv, erF_no (by rw [eg]; exact erF_no2 (look_none hn)), h1 as1 σ H1 G1 e1 _ fun ys ρ2 ws as2 H2 G2 ⟨zs, hl, hg, h2⟩ e2 g2 r2 => ⟨by rw [r2.length]; exact hl, h2 as2 σ H2 G2 _ e2 (hg _ _ _ _ (r1.mono g2) r2) Q (q.imp (g1.trans g2) fun _ _ z => z)⟩⟩
/-- C(.., k=..) -/
theorem we_makeK {C : Addr} {n m : Nat} {sp : Sp} {gV : List V → List V → List V} {E : XK} (h : WpA K F t ρ fun xs ρ1 => WpA K F tk ρ1 fun ys ρ2 => ∃ ds es fs : List D, xs = ds.map .dat ∧ ys = es.map .dat ∧ ds.length = n ∧ es.length = m ∧ (∀ G as x vs ws, RepAs K G as xs vs → RepAs K G as ys ws → RepAs K G as (fs.map .dat) (gV (x :: vs) ws).tail ∧ (gV (x :: vs) ws).head? = some x) ∧ WpSp K F sp (fun _ => E) (.cel ρ2.ce.length :: fs.map .dat) (ρ2.addO C) fun r ρ3 => r = .dat .non ∧ k (.cel ρ2.ce.length) ρ3) : WpE K F (tMakeK C n m sp gV E t tk) ρ k := fun as σ H G e Q q =>
  h as σ H G e _ fun xs ρ1 vs as1 H1 G1 h1 e1 g1 r1 => h1 as1 σ H1 G1 e1 _ fun ys ρ2 ws as2 H2 G2 ⟨ds, es, fs, ex, ey, l1, l2, hg, h2⟩ e2 g2 r2 => by
    refine ⟨by rw [r1.length, ex, List.length_map]; exact l1, by rw [r2.length, ey, List.length_map]; exact l2, fun x dx hx hd ne => ?_⟩
    obtain ⟨G3, e3, g3, ln⟩ := new_obj (C := C) e2 hx hd ne
    have rl : RepA K G3 (as2 ++ [x]) (.cel ρ2.ce.length) (.ref x) := RepA.last ln
    obtain ⟨h3, h4⟩ := hg G3 (as2 ++ [x]) (.ref x) vs ws (r1.mono (g2.trans g3)) (r2.mono g3)
    obtain ⟨v0, us, eg⟩ : ∃ v0 us, gV (.ref x :: vs) ws = v0 :: us := by
      cases hh : gV (.ref x :: vs) ws with
      | nil => rw [hh] at h4; cases h4
      | cons v0 us => exact ⟨v0, us, rfl⟩
    rw [eg] at h3 h4 ⊢
    cases h4
    refine h2 _ σ _ G3 _ e3 (.cons rl h3) _ ?_
    rintro av ρ3 v as4 H4 G4 ⟨rfl, hk⟩ e4 g4 r4
    exact ⟨Rep.nonE r4, q _ _ _ _ _ _ hk e4 (g1.trans (g2.trans (g3.trans g4))) (rl.mono g4)⟩
theorem ch_var {i : Nat} {l : Int} {as : List Addr} {σ : L2.St} {H G : Hp} {Q : VK} (e : EnvOk K F ρ as σ H G) (h : ρ.sl[i]? = some (some (.dat (.int l)))) : Q (.int l) H → tVar i σ H Q := fun q => by
  obtain ⟨v, hv, r⟩ := e.sl i _ h
  exact ⟨v, hv, by rw [Rep.intE r]; exact q⟩
/-- .. where the last one is a name or a number that is written -/
theorem we_chV {g g' : Int → Int → Bool} {i : Nat} (h : WpE K F ta ρ fun x ρ1 => WpE K F tb ρ1 fun y ρ2 => ∃ a b l, x = .dat (.int a) ∧ y = .dat (.int b) ∧ ρ2.sl[i]? = some (some (.dat (.int l))) ∧ k (.dat (.bl (g a b && g' b l))) ρ2) : WpE K F (tChI g g' ta tb (tVar i)) ρ k := fun as σ H G e Q q =>
  h as σ H G e _ fun x ρ1 vx as1 H1 G1 h1 e1 g1 r1 => h1 as1 σ H1 G1 e1 _ fun y ρ2 vy as2 H2 G2 ⟨a, b, l, ex, ey, hs, hk⟩ e2 g2 r2 => by
    subst ex ey
    exact ch_var e2 hs ⟨a, b, l, Rep.intE (r1.mono g2), Rep.intE r2, rfl, rfl, q _ _ _ _ _ _ hk e2 (g1.trans g2) (Rep.bl _)⟩
theorem we_chC {g g' : Int → Int → Bool} {l : Int} (h : WpE K F ta ρ fun x ρ1 => WpE K F tb ρ1 fun y ρ2 => ∃ a b, x = .dat (.int a) ∧ y = .dat (.int b) ∧ k (.dat (.bl (g a b && g' b l))) ρ2) : WpE K F (tChI g g' ta tb (tC (.int l))) ρ k := fun as σ H G e Q q =>
  h as σ H G e _ fun x ρ1 vx as1 H1 G1 h1 e1 g1 r1 => h1 as1 σ H1 G1 e1 _ fun y ρ2 vy as2 H2 G2 ⟨a, b, ex, ey, hk⟩ e2 g2 r2 => by
    subst ex ey
    exact ⟨a, b, l, Rep.intE (r1.mono g2), Rep.intE r2, rfl, rfl, q _ _ _ _ _ _ hk e2 (g1.trans g2) (Rep.bl _)⟩
end
section
variable {K : PySem.W.Frag} {F : Fx} {ρ : En} {k : AV → En → Prop} {ta tb tc : TE}
/-- a < b < c, the second step only where the first is true -/
theorem we_chain {r r' : R2} (h : WpE K F ta ρ fun x ρ1 => WpE K F tb ρ1 fun y ρ2 => WpR K F r x y ρ2 fun z ρ3 => ∃ b, z = .dat (.bl b) ∧ if b = true then WpE K F tc ρ3 fun w ρ4 => WpR K F r' y w ρ4 k else k (.dat (.bl false)) ρ3) : WpE K F (tChain r r' ta tb tc) ρ k := fun as σ H G e Q q =>
  h as σ H G e _ fun x ρ1 vx as1 H1 G1 h1 e1 g1 r1 => h1 as1 σ H1 G1 e1 _ fun y ρ2 vy as2 H2 G2 h2 e2 g2 r2 => by
    refine h2 as2 σ H2 G2 vx vy e2 (r1.mono g2) r2 _ ?_
    rintro z ρ3 vz as3 H3 G3 ⟨b, rfl, h3⟩ e3 g3 r3
    refine ⟨b, Rep.blE r3, ?_⟩
    cases b with
    | true =>
      refine (show WpE K F tc ρ3 _ from h3) as3 σ H3 G3 e3 _ ?_
      exact fun w ρ4 vw as4 H4 G4 h4 e4 g4 r4 => h4 as4 σ H4 G4 vy vw e4 ((r2.mono g3).mono g4) r4 Q (q.imp (g1.trans (g2.trans (g3.trans g4))) fun _ _ z => z)
    | false => exact q _ ρ3 _ as3 H3 G3 h3 e3 (g1.trans (g2.trans g3)) (Rep.bl _)
end
/-! ### a well: a list of three whole numbers from which is drawn -/
def IsW (s : List D) : Prop := ∃ x y z : Int, s = [.int x, .int y, .int z]
/-! ### a list's insert -/
section
variable {K : PySem.W.Frag} {F : Fx} {ρ : En} {k : AV → En → Prop}
theorem wm_insert {j : Nat} {x : AV} {ds : List D} {d : D} {i : Int} {ρ2 : En} (fz : Frz [x] ρ [d] ρ2) (hc : ρ2.ce[j]? = some (.lst ds)) (hl : ds.length < 16000000) (i0 : 0 ≤ i) (i1 : i < 16000000) (hk : k (.dat .non) (ρ2.cell j (.lst (ds.take i.toNat ++ [d] ++ ds.drop i.toNat)))) : WpM K F (fun x vs H Q => ∃ (l : Addr) (xs : List V) (i : Int) (y : V), x = .ref l ∧ vs = [.int i, y] ∧ H l = some (.lst xs) ∧ xs.length < sizeLine ∧ 0 ≤ i ∧ i < 2 ^ 63 ∧ Q .non (upd H l (.lst (xs.take i.toNat ++ [y] ++ xs.drop i.toNat)))) (.cel j) [.dat (.int i), x] ρ k := fun as σ H G v vs e r1 r2 Q q => by
  cases r2 with
  | cons ri r2 =>
    have ri := Rep.intE ri
    subst ri
    obtain ⟨G2, e2, g2, r3⟩ := fz.run e r2
    obtain ⟨a, ha, rfl⟩ := r1
    cases r3 with
    | cons y z =>
      cases z
      obtain ⟨_, _, g, ws, hw, hr⟩ := e2.ce j _ a hc ha
      refine ⟨a, ws, i, _, rfl, rfl, hw, szbl (by rw [hr.length]; omega), i0, by omega, q _ _ _ as _ G2 hk (e2.setC hc ha g ⟨g, _, upd_same, ?_⟩) g2 Rep.non⟩
      exact ((hr.take _).append (.cons y .nil)).append (hr.drop _)
def frzK (k : AV → En → Prop) : AV → En → Prop := fun av ρ' => ∃ j ds, av = .cel j ∧ ρ'.ce[j]? = some (.lst ds) ∧ k (.dat (.lst ds)) (ρ'.frz j ds)
theorem got_frz {as : List Addr} {σ : L2.St} {G : Hp} {Q : VK} (q : Got K F ρ as σ G k Q) : Got K F ρ as σ G (frzK k) Q := fun av ρ' v as' H' G' ⟨j, ds, ea, hc, hk⟩ e' g' ra => by
  subst ea
  obtain ⟨a, ha, rfl⟩ := ra
  obtain ⟨vs, e2, g2, rr⟩ := e'.frz hc ha
  exact q _ _ _ as' H' _ hk e2 (g'.trans g2) rr
/-- a new list that nobody writes to is data at once -/
theorem wr_frz {r : R2} {x y : AV} (h : WpR K F r x y ρ (frzK k)) : WpR K F r x y ρ k := fun as σ H G vx vy e r1 r2 Q q => h as σ H G vx vy e r1 r2 Q (got_frz q)
/-- a cell that nobody writes to any more is data -/
theorem ws_frz {t : TS} {ks : KS} {j : Nat} {ds : List D} (hj : ρ.ce[j]? = some (.lst ds)) (h : WpS K F t (ρ.frz j ds) ks) : WpS K F t ρ ks := fun as σ H G e D q => by
  have hl : j < as.length := by rw [e.ln]; exact (List.getElem?_eq_some_iff.mp hj).1
  obtain ⟨vs, e2, g2, _⟩ := e.frz hj (List.getElem?_eq_getElem hl)
  exact h as σ H _ e2 D (EndsOk.grow K F q g2)
end
/-- what follows begins with the cells that were there before; a new list may have become data -/
inductive Fz (n : Nat) (ρ : En) : En → Prop
  | tr {ρ' : En} : Tr n ρ ρ' → Fz n ρ ρ'
  | fz {ρ' : En} (j : Nat) (ds : List D) : ρ.ce[j]? = some (.lst ds) → Tr n (ρ.frz j ds) ρ' → Fz n ρ ρ'
theorem ws_seqZ {K : PySem.W.Frag} {F : Fx} {ρ : En} {ks : KS} {a b : TS} (h : ∀ R, R = b → WpS K F a ρ { nx := fun ρ1 => ∃ ρ3, Fz ρ.ce.length ρ1 ρ3 ∧ WpS K F R ρ3 ks, rt := ks.rt, bk := ks.bk, ct := ks.ct }) : WpS K F (tSeq a b) ρ ks := fun as σ H G e D q =>
  h b rfl as σ H G e { D with nx := b D } ⟨fun ρ1 as1 σ1 H1 G1 ⟨ρ3, t, hk⟩ e1 g1 => by
    cases t with
    | tr t =>
      obtain ⟨as', e', _, g'⟩ := t.run2 e1 e1 g1 (Nat.le_of_eq e.ln) (by have := e.pr.length_le; rw [e.ln] at this; exact this)
      exact hk as' σ1 H1 G1 e' D (q.grow K F g')
    | fz j ds hj t =>
      have hl : j < as1.length := by rw [e1.ln]; exact (List.getElem?_eq_some_iff.mp hj).1
      obtain ⟨vs, e2, g2, _⟩ := e1.frz hj (List.getElem?_eq_getElem hl)
      obtain ⟨as', e', _, g'⟩ := t.run2 e2 e2 (g1.trans g2) (Nat.le_of_eq e.ln) (by have := e.pr.length_le; rw [e.ln] at this; exact this)
      exact hk as' σ1 H1 _ e' D (q.grow K F g'), q.rt, q.bk, q.ct, q.fr⟩
/-- a statement whose ends are told by P, then the rest for each of them -/
theorem ws_seqP {α : Type} {K : PySem.W.Frag} {F : Fx} {ρ : En} {ks : KS} {a b : TS} (P : α → Prop) (env : α → En) (h1 : ∀ x, P x → WpS K F b (env x) ks) (h2 : WpS K F a ρ { nx := fun ρ1 => ∃ x, P x ∧ Fz ρ.ce.length ρ1 (env x), rt := ks.rt, bk := ks.bk, ct := ks.ct }) : WpS K F (tSeq a b) ρ ks :=
  ws_seqZ fun R hR => WpS.imp h2 (fun ρ1 ⟨x, px, f⟩ => ⟨_, f, hR ▸ h1 x px⟩) (fun _ _ z => z) (fun _ z => z) (fun _ z => z)
/-! ### x in l, by data -/
theorem pys_any (es : List D) (f : PyData → Bool) : (pys es).any f = es.any fun z => f (py z) := by
  induction es with
  | nil => rfl
  | cons d es ih =>
    show (f (py d) || (pys es).any f) = (f (py d) || es.any fun z => f (py z))
    rw [ih]
theorem wr_inD {K : PySem.W.Frag} {F : Fx} {ρ : En} {k : AV → En → Prop} {x y : AV} {d : D} {es : List D} (n : Nat) (hx : OfX ρ x d) (hy : OfD ρ y (.lst es)) (h1 : fine n d = true) (h2 : fine n (.lst es) = true) (hn : n ≤ 64) (hk : k (.dat (.bl (es.any fun z => eqD z d))) ρ) : WpR K F (rInD K) x y ρ k := fun as σ H G vx vy en r1 r2 Q q => by
  obtain ⟨a, b⟩ := hx.dp en r1 h1 hn
  obtain ⟨a2, b2⟩ := hy.dp en r2 h2 hn
  refine ⟨_, pys es, a, a2, b, b2, ?_⟩
  rw [pys_any]
  exact q _ ρ _ as H G hk en .refl (Rep.bl _)
/-! ### range with a step -/
def rngD3 (c : Int) (n : Nat) : List D := (List.range n).map fun (i : Nat) => D.int (0 + i * c)
theorem rngD3_len {c : Int} {n : Nat} : (rngD3 c n).length = n := by unfold rngD3; rw [List.length_map, List.length_range]
theorem rngD3_drop {c : Int} {n i : Nat} (h : i < n) : (rngD3 c n).drop i = D.int (0 + i * c) :: (rngD3 c n).drop (i + 1) := by
  rw [List.drop_eq_getElem_cons (by rw [rngD3_len]; exact h)]
  congr 1
  unfold rngD3
  rw [List.getElem_map, List.getElem_range]
theorem its_range3 {K : PySem.W.Frag} {F : Fx} {c : Int} {n : Nat} {as : List Addr} {G : Hp} : ItS K F (Itc 0 c n) (rngD3 c n) (fun _ => True) as G := fun ρ2 as2 σ2 H2 G2 e2 g2 _ => by
  refine ⟨fun i hi => ?_, ?_, fun i x H' hi y => ?_⟩
  · show i < n
    rw [rngD3_len] at hi; exact hi
  · show n ≤ (rngD3 c n).length
    rw [rngD3_len]; exact Nat.le_refl _
  · have y : H' = H2 ∧ x = .int (0 + (i : Nat) * c) := y
    obtain ⟨rfl, rfl⟩ := y
    rw [rngD3_len] at hi
    exact ⟨.int (0 + i * c), G2, by unfold rngD3; rw [List.getElem?_map, List.getElem?_range hi]; rfl, fun _ z => z, .refl, Rep.int _⟩
/-- how many: 0, c, 2 c .. below l -/
def nRuns (l c : Nat) : Nat := (l + c - 1) / c
theorem nRuns_lt {l c j : Nat} (c1 : 1 ≤ c) (h : j < nRuns l c) : j * c < l := by
  have : (j + 1) * c ≤ l + c - 1 := (Nat.le_div_iff_mul_le (by omega)).mp h
  rw [Nat.succ_mul] at this
  omega
theorem rgc_runs {l c : Nat} (c1 : 1 ≤ c) (c2 : c ≤ 1000) (l2 : l ≤ 100000) : RgC 0 l c (nRuns l c) := by
  have h := rangeSize_pos (len := (l : Int)) (c := (c : Int)) (by omega) (by omega)
  have e : (((l : Int) + c - 1) / c) = ((nRuns l c : Nat) : Int) := by
    unfold nRuns
    rw [show ((l : Int) + c - 1) = ((l + c - 1 : Nat) : Int) by omega]
    rfl
  rw [e] at h
  refine ⟨by omega, by omega, ?_, h⟩
  unfold Builtin.Range.small
  rw [h]
  have n1 : nRuns l c ≤ l := by
    rcases Nat.lt_or_ge l (nRuns l c) with z | z
    · have h2 := nRuns_lt c1 (j := l) z
      have h3 : l * 1 ≤ l * c := Nat.mul_le_mul_left l c1
      omega
    · exact z
  have n0 : ((nRuns l c : Nat) : Int) * (c : Int) ≤ 100000000 := by
    have : nRuns l c * c ≤ 100000 * 1000 := Nat.mul_le_mul (by omega) c2
    rw [← Int.natCast_mul]
    have h5 : 100000 * 1000 = 100000000 := by decide
    omega
  simp only [Builtin.Range.rangeFitsLong, Bool.and_eq_true, Bool.or_eq_true, decide_eq_true_eq, beq_iff_eq, show (c : Int) > 0 by omega, if_true]
  omega
theorem wi_rng3 {K : PySem.W.Frag} {F : Fx} {ρ : En} {ki : List D → (En → Prop) → En → Prop} {t : TA} (h : WpA K F t ρ fun xs ρ1 => ∃ l c : Nat, xs = [.dat (.int 0), .dat (.int l), .dat (.int c)] ∧ (1 ≤ c ∧ c ≤ 1000 ∧ l ≤ 100000) ∧ ki (rngD3 c (nRuns l c)) (fun _ => True) ρ1) : WpI K F (iRng3 t) ρ ki := fun as σ H G e R q =>
  h as σ H G e _ fun xs ρ1 vs as1 H1 G1 ⟨l, c, ex, ⟨c1, c2, l2⟩, h1⟩ e1 g1 r1 => by
    subst ex
    cases r1 with
    | cons a b => cases b with | cons b d => cases d with | cons d f => cases f; exact ⟨0, l, c, _, by rw [Rep.intE a, Rep.intE b, Rep.intE d], rgc_runs c1 c2 l2, q _ _ _ _ _ _ _ h1 e1 g1 its_range3⟩
theorem loop_rng3 {K : PySem.W.Frag} {F : Fx} {ρ : En} {ks : KS} {m : Nat} {gd : En → Prop} {g : TG} {tb : TS} {c : Int} {n : Nat} (I : Nat → En → Prop) (h0 : I 0 ρ) (hn : ∀ ρ, I n ρ → gd ρ ∧ ks.nx ρ)
    (hs : ∀ i ρ, i < n → I i ρ → gd ρ ∧ WpG K F g (.dat (.int (0 + i * c))) ρ fun ρ1 => WpS K F tb ρ1 { nx := fun ρ2 => Now (I (i + 1) (ρ2.trunc m)), rt := ks.rt, ct := fun ρ2 => Now (I (i + 1) (ρ2.trunc m)), bk := ks.nx }) : Loop K F m gd g tb ks (rngD3 c n) ρ := by
  refine loop_cut (fun ds ρ => ∃ i, i ≤ n ∧ ds = (rngD3 c n).drop i ∧ I i ρ) ⟨0, Nat.zero_le _, rfl, h0⟩ ?_ ?_
  · rintro ρ ⟨i, hi, hd, h⟩
    have : i = n := by
      rcases Nat.lt_or_ge i n with z | z
      · rw [rngD3_drop z] at hd; cases hd
      · omega
    subst this
    exact hn ρ h
  · rintro d ds ρ ⟨i, hi, hd, h⟩
    rcases Nat.lt_or_ge i n with z | z
    · rw [rngD3_drop z] at hd
      cases hd
      obtain ⟨a, b⟩ := hs i ρ z h
      exact ⟨a, b.imp fun ρ1 h1 => h1.imp (fun ρ2 h2 => now ⟨i + 1, z, rfl, h2.out⟩) (fun _ _ z => z) (fun _ z => z) (fun ρ2 h2 => now ⟨i + 1, z, rfl, h2.out⟩)⟩
    · rw [List.drop_of_length_le (by rw [rngD3_len]; exact z)] at hd; cases hd
/-! ### texts by data -/
section
variable {K : PySem.W.Frag} {F : Fx} {ρ : En} {k : AV → En → Prop} {kb : Bool → En → Prop} {ta te : TE}
/-- one sign as a text -/
def sg1 (c : Nat) : Str := ⟨#[c]⟩
def sgD (c : Nat) : D := .str (sg1 c)
/-- the number as a text -/
def numS (i : Int) : Str := Str.ofString (toString i)
/-- a method of a text -/
theorem we_bmS {r : V → List V → Hp → VK → Prop} {t : TA} (h : WpE K F ta ρ fun x ρ1 => (∃ z, x = .dat (.str z)) ∧ WpA K F t ρ1 fun xs ρ2 => WpM K F r x xs ρ2 k) : WpE K F (tBM K "str" r ta t) ρ k := fun as σ H G e Q q =>
  h as σ H G e _ fun x ρ1 vx as1 H1 G1 ⟨⟨z, ex⟩, h1⟩ e1 g1 r1 => by
    subst ex
    have e0 : vx = .str z := Rep.strE r1
    subst e0
    exact ⟨rfl, h1 as1 σ H1 G1 e1 _ fun xs ρ2 vs as2 H2 G2 h2 e2 g2 r2 => h2 as2 σ H2 G2 _ vs e2 (r1.mono g2) r2 Q (q.imp (g1.trans g2) fun _ _ z => z)⟩
theorem we_bmS0 {r : V → List V → Hp → VK → Prop} (h : WpE K F ta ρ fun x ρ1 => (∃ z, x = .dat (.str z)) ∧ WpM K F r x [] ρ1 k) : WpE K F (tBM0 K "str" r ta) ρ k := fun as σ H G e Q q =>
  h as σ H G e _ fun x ρ1 vx as1 H1 G1 ⟨⟨z, ex⟩, h1⟩ e1 g1 r1 => by
    subst ex
    have e0 : vx = .str z := Rep.strE r1
    subst e0
    exact ⟨rfl, h1 as1 σ H1 G1 _ [] e1 r1 .nil Q (q.imp g1 fun _ _ z => z)⟩
theorem wm_tb {f : Str → Bool} {z : Str} (hk : k (.dat (.bl (f z))) ρ) : WpM K F (fun x xs H Q => ∃ a, x = .str a ∧ xs = [] ∧ True ∧ Q (.bl (f a)) H) (.dat (.str z)) [] ρ k := fun as σ H G v vs e r1 r2 Q q => by
  cases (show Rep K G (.str z) v from r1)
  cases r2
  exact ⟨z, rfl, rfl, trivial, q _ ρ _ as H G hk e .refl (Rep.bl _)⟩
theorem wm_tt {f : Str → Str → Bool} {z y : Str} (hk : k (.dat (.bl (f z y))) ρ) : WpM K F (fun x xs H Q => ∃ a b, x = .str a ∧ xs = [.str b] ∧ Q (.bl (f a b)) H) (.dat (.str z)) [.dat (.str y)] ρ k := fun as σ H G v vs e r1 r2 Q q => by
  cases (show Rep K G (.str z) v from r1)
  cases r2 with
  | cons a b =>
    cases b
    cases (show Rep K G (.str y) _ from a)
    exact ⟨z, y, rfl, rfl, q _ ρ _ as H G hk e .refl (Rep.bl _)⟩
theorem wm_ti {f : Str → Str → Int} {z y : Str} (hk : k (.dat (.int (f z y))) ρ) : WpM K F (fun x xs H Q => ∃ a b, x = .str a ∧ xs = [.str b] ∧ Q (.int (f a b)) H) (.dat (.str z)) [.dat (.str y)] ρ k := fun as σ H G v vs e r1 r2 Q q => by
  cases (show Rep K G (.str z) v from r1)
  cases r2 with
  | cons a b =>
    cases b
    cases (show Rep K G (.str y) _ from a)
    exact ⟨z, y, rfl, rfl, q _ ρ _ as H G hk e .refl (Rep.int _)⟩
theorem wm_par {z y : Str} (h1 : (y.length == 0) = false) (h2 : z.length ≤ sizeLine) (hk : k (.dat (.tup [.str (Txt.partition z y).1, .str (Txt.partition z y).2.1, .str (Txt.partition z y).2.2])) ρ) :
    WpM K F (fun x xs H Q => ∃ a b, x = .str a ∧ xs = [.str b] ∧ (b.length == 0) = false ∧ a.length ≤ sizeLine ∧ ∀ p, H p = none → Q (.ref p) (upd H p (.tup [.str (Txt.partition a b).1, .str (Txt.partition a b).2.1, .str (Txt.partition a b).2.2]))) (.dat (.str z)) [.dat (.str y)] ρ k := fun as σ H G v vs e r1 r2 Q q => by
  cases (show Rep K G (.str z) v from r1)
  cases r2 with
  | cons a b =>
    cases b
    cases (show Rep K G (.str y) _ from a)
    refine ⟨z, y, rfl, rfl, h1, h2, fun p hp => ?_⟩
    obtain ⟨e3, g3⟩ := e.newG (o := .tup [.str (Txt.partition z y).1, .str (Txt.partition z y).2.1, .str (Txt.partition z y).2.2]) hp
    exact q _ _ _ _ _ _ hk e3 g3 (Rep.tup (SqT.of upd_same) (.cons (Rep.str _) (.cons (Rep.str _) (.cons (Rep.str _) .nil))))
theorem reps_strs {G : Hp} : ∀ {ys : List Str} {vs : List V}, Reps K G (ys.map D.str) vs → vs = ys.map V.str
  | [], _, h => by cases h; rfl
  | y :: ys, _, h => by
    cases h with
    | cons a b =>
      cases a
      rw [reps_strs b]
      rfl
theorem wm_join {x : AV} {z : Str} {ys : List Str} (hx : IsL ρ x (ys.map D.str)) (hl : (ys.map (·.length)).sum + ys.length * z.length ≤ 16777216) (hk : k (.dat (.str (Txt.join z ys))) ρ) :
    WpM K F (fun x xs H Q => ∃ a p, ∃ ys : List Str, x = .str a ∧ xs = [.ref p] ∧ (SqL K H p (ys.map V.str) ∨ SqT K H p (ys.map V.str)) ∧ (ys.map (·.length)).sum + ys.length * a.length ≤ 16777216 ∧ Q (.str (Txt.join a ys)) H) (.dat (.str z)) [x] ρ k := fun as σ H G v vs e r1 r2 Q q => by
  cases (show Rep K G (.str z) v from r1)
  cases r2 with
  | cons a b =>
    cases b
    obtain ⟨p, ws, rfl, hs, hr⟩ := hx.rep e a
    rw [reps_strs hr] at hs
    exact ⟨z, p, ys, rfl, rfl, .inl hs, hl, q _ ρ _ as H G hk e .refl (Rep.str _)⟩
theorem wm_idx0 {z y : Str} {j : Nat} (hj : idx0 z y = some j) (hk : k (.dat (.int (j : Nat))) ρ) : WpM K F (fun x xs H Q => ∃ (a b : Str) (k : Nat), x = .str a ∧ xs = [.str b] ∧ idx0 a b = some k ∧ Q (.int (k : Nat)) H) (.dat (.str z)) [.dat (.str y)] ρ k := fun as σ H G v vs e r1 r2 Q q => by
  cases (show Rep K G (.str z) v from r1)
  cases r2 with
  | cons a b =>
    cases b
    cases (show Rep K G (.str y) _ from a)
    exact ⟨z, y, j, rfl, rfl, hj, q _ ρ _ as H G hk e .refl (Rep.int _)⟩
theorem wc_lenS {z : Str} (hl : z.length ≤ sizeLine) (hk : k (.dat (.int z.length)) ρ) : WpC K F (fun xs H Q => ∃ z, xs = [.str z] ∧ z.length ≤ sizeLine ∧ Q (.int z.length) H) [.dat (.str z)] ρ k := fun as σ H G vs e r Q q => by
  cases r with
  | cons r c =>
    cases c
    cases (show Rep K G (.str z) _ from r)
    exact ⟨z, rfl, hl, q _ ρ _ as H G hk e .refl (Rep.int _)⟩
theorem wc_intS {z : Str} {n : Int} (hn : PySem.intText? z = some n) (hl : z.length ≤ 640) (hk : k (.dat (.int n)) ρ) : WpC K F (fun xs H Q => ∃ a n, xs = [.str a] ∧ PySem.intText? a = some n ∧ a.length ≤ 640 ∧ Q (.int n) H) [.dat (.str z)] ρ k := fun as σ H G vs e r Q q => by
  cases r with
  | cons r c =>
    cases c
    cases (show Rep K G (.str z) _ from r)
    exact ⟨z, n, rfl, hn, hl, q _ ρ _ as H G hk e .refl (Rep.int _)⟩
theorem wc_intHex {l : List Nat} (h0 : l ≠ []) (hl : l.length ≤ 640) (hx : ∀ c ∈ l, Hx.IsHex c) (hk : k (.dat (.int ((Hx.hexNum l : Nat) : Int))) ρ) : WpC K F rIntHex [.dat (.str (SX.S l)), .dat (.int 16)] ρ k := fun as σ H G vs e r Q q => by
  cases r with
  | cons r c =>
    cases c with
    | cons c d =>
      cases d
      cases (show Rep K G (.str (SX.S l)) _ from r)
      cases (show Rep K G (.int 16) _ from c)
      exact ⟨l, rfl, h0, hl, hx, q _ ρ _ as H G hk e .refl (Rep.int _)⟩
theorem wc_strI {i : Int} (hl : i.natAbs.log2 < 1920) (hk : k (.dat (.str (numS i))) ρ) : WpC K F (fun xs H Q => ∃ i : Int, xs = [.int i] ∧ i.natAbs.log2 < 1920 ∧ Q (.str (toString i)) H) [.dat (.int i)] ρ k := fun as σ H G vs e r Q q => by
  cases r with
  | cons r c =>
    cases c
    cases (show Rep K G (.int i) _ from r)
    exact ⟨i, rfl, hl, q _ ρ _ as H G hk e .refl (Rep.str _)⟩
theorem wr_ixS {z : Str} {i : Int} {c : Nat} (hl : z.length ≤ sizeLine) (hc : atI (TL.tl z) i = some c) (hk : k (.dat (sgD c)) ρ) : WpR K F rIxS (.dat (.str z)) (.dat (.int i)) ρ k := fun as σ H G vx vy e r1 r2 Q q => by
  cases (show Rep K G (.str z) vx from r1)
  cases (show Rep K G (.int i) vy from r2)
  exact ⟨z, i, c, rfl, rfl, hl, hc, q _ ρ _ as H G hk e .refl (Rep.str _)⟩
theorem wr_inSg {c : Nat} {z : Str} (hk : k (.dat (.bl (decide (c ∈ TL.tl z)))) ρ) : WpR K F (fun x y H Q => ∃ (c : Nat) (z : Str), x = .str ⟨#[c]⟩ ∧ y = .str z ∧ Q (.bl (decide (c ∈ z.cps.toList))) H) (.dat (.str ⟨#[c]⟩)) (.dat (.str z)) ρ k := fun as σ H G vx vy e r1 r2 Q q => by
  cases (show Rep K G (.str ⟨#[c]⟩) vx from r1)
  cases (show Rep K G (.str z) vy from r2)
  exact ⟨c, z, rfl, rfl, q _ ρ _ as H G hk e .refl (Rep.bl _)⟩
theorem wr_ninSg {c : Nat} {z : Str} (hk : k (.dat (.bl (!decide (c ∈ TL.tl z)))) ρ) : WpR K F (fun x y H Q => ∃ (c : Nat) (z : Str), x = .str ⟨#[c]⟩ ∧ y = .str z ∧ Q (.bl (!decide (c ∈ z.cps.toList))) H) (.dat (.str ⟨#[c]⟩)) (.dat (.str z)) ρ k := fun as σ H G vx vy e r1 r2 Q q => by
  cases (show Rep K G (.str ⟨#[c]⟩) vx from r1)
  cases (show Rep K G (.str z) vy from r2)
  exact ⟨c, z, rfl, rfl, q _ ρ _ as H G hk e .refl (Rep.bl _)⟩
theorem wr_mulS {z : Str} {n : Nat} (hn : n ≤ 1000) (hz : z.length ≤ 1000) (hk : k (.dat (.str (repS z n))) ρ) : WpR K F rMulS (.dat (.str z)) (.dat (.int n)) ρ k := fun as σ H G vx vy e r1 r2 Q q => by
  cases (show Rep K G (.str z) vx from r1)
  cases (show Rep K G (.int n) vy from r2)
  exact ⟨z, n, rfl, rfl, hn, hz, q _ ρ _ as H G hk e .refl (Rep.str _)⟩
theorem wr_addS {x y : Str} (hl : x.length + y.length ≤ sizeLine) (hk : k (.dat (.str (x ++ y))) ρ) : WpR K F (fun x y H Q => ∃ i j, x = .str i ∧ y = .str j ∧ i.length + j.length ≤ sizeLine ∧ Q (.str (i ++ j)) H) (.dat (.str x)) (.dat (.str y)) ρ k := fun as σ H G vx vy e r1 r2 Q q => by
  cases (show Rep K G (.str x) vx from r1)
  cases (show Rep K G (.str y) vy from r2)
  exact ⟨x, y, rfl, rfl, hl, q _ ρ _ as H G hk e .refl (Rep.str _)⟩
theorem we_slS {tl th : TO} (h : WpE K F te ρ fun x ρ1 => WpO K F tl ρ1 fun lo ρ2 => WpO K F th ρ2 fun hi ρ3 => ∃ z, x = .dat (.str z) ∧ z.length ≤ sizeLine ∧ k (.dat (.str (cutS z lo hi))) ρ3) : WpE K F (tSl rSlS te tl th) ρ k := fun as σ H G e Q q =>
  h as σ H G e _ fun x ρ1 vx as1 H1 G1 h1 e1 g1 r1 => h1 as1 σ H1 G1 e1 _ fun lo ρ2 as2 H2 G2 h2 e2 g2 => h2 as2 σ H2 G2 e2 _ fun hi ρ3 as3 H3 G3 ⟨z, ex, hz, h3⟩ e3 g3 => by
    subst ex
    have e0 : vx = .str z := Rep.strE r1
    subst e0
    exact ⟨z, rfl, hz, q _ _ _ _ _ _ h3 e3 (g1.trans (g2.trans g3)) (Rep.str _)⟩
/-- the truth of a text, by a word of its own -/
def tTruS (K : PySem.W.Frag) (ta : TE) : TT := fun σ H Q => ta σ H fun x H' => ∃ k, TruV K x H' k ∧ Q k H'
theorem pt_truS {X : Cx} {K : PySem.W.Frag} {a : Expr} {ta : TE} (hK : X.K = K) (h : PE X a ta) (he : ∀ whole, isTrue a X.env whole = (do let v ← whole; standAt a.pos; holding [v] (truthy v))) : PT X a (tTruS K ta) := by
  subst hK
  exact pt_truth h he
theorem wt_truS (h : WpE K F ta ρ fun x ρ1 => ∃ z, x = .dat (.str z) ∧ z.length ≤ sizeLine ∧ kb ((z.length : Int) != 0) ρ1) : WpT K F (tTruS K ta) ρ kb := fun as σ H G e Q q =>
  h as σ H G e _ fun x ρ1 vx as1 H1 G1 ⟨z, ex, hz, h1⟩ e1 g1 r1 => by
    subst ex
    have e0 : vx = .str z := Rep.strE r1
    subst e0
    exact ⟨_, ⟨hz, rfl⟩, q _ _ _ _ _ h1 e1 g1⟩
/-- the signs of a text, one behind the other -/
theorem wi_str {ki : List D → (En → Prop) → En → Prop} (h : WpE K F te ρ fun x ρ1 => ∃ z, x = .dat (.str z) ∧ ki ((TL.tl z).map sgD) (fun _ => True) ρ1) : WpI K F (iStr te) ρ ki := fun as σ H G e R q =>
  h as σ H G e _ fun x ρ1 vx as1 H1 G1 ⟨z, ex, h1⟩ e1 g1 r1 => by
    subst ex
    have e0 : vx = .str z := Rep.strE r1
    subst e0
    refine ⟨z, rfl, q _ _ _ _ _ _ _ h1 e1 g1 fun ρ2 as2 σ2 H2 G2 e2 g2 _ => ?_⟩
    have ln : ((TL.tl z).map sgD).length = z.cps.size := by rw [List.length_map]; exact Array.length_toList
    refine ⟨fun i hi => ?_, ?_, fun i x H' hi y => ?_⟩
    · show i < z.cps.size
      omega
    · show z.cps.size ≤ _
      omega
    · obtain ⟨rfl, c, hc, rfl⟩ := y
      refine ⟨sgD c, G2, ?_, fun _ z => z, .refl, Rep.str _⟩
      rw [List.getElem?_map]
      have : (TL.tl z)[i]? = some c := by rw [← hc]; exact Array.getElem?_toList
      rw [this]
      rfl
theorem wi_ei1 {ki : List D → (En → Prop) → En → Prop} {t u : TI} (h : WpI K F t ρ ki) : WpI K F (iEi t u) ρ ki := fun as σ H G e R q => .inl (h as σ H G e R q)
theorem wi_ei2 {ki : List D → (En → Prop) → En → Prop} {t u : TI} (h : WpI K F u ρ ki) : WpI K F (iEi t u) ρ ki := fun as σ H G e R q => .inr (h as σ H G e R q)
/-! f'..' -/
def tJa (ts : List TE) (acc : Str) : TE := fun σ H Q => tJs ts acc σ H fun out H1 => Q (.str out) H1
theorem we_jn {ts : List TE} (h : WpE K F (tJa ts Str.empty) ρ k) : WpE K F (tJn ts) ρ k := h
theorem wj_nil {acc : Str} (h : k (.dat (.str acc)) ρ) : WpE K F (tJa [] acc) ρ k := fun as σ H G e Q q => q _ ρ _ as H G h e .refl (Rep.str _)
theorem wj_cons {ts : List TE} {acc : Str} (h : WpE K F te ρ fun x ρ1 => ∃ y, x = .dat (.str y) ∧ (acc ++ y).length ≤ sizeLine ∧ WpE K F (tJa ts (acc ++ y)) ρ1 k) : WpE K F (tJa (te :: ts) acc) ρ k := fun as σ H G e Q q =>
  h as σ H G e _ fun x ρ1 vx as1 H1 G1 ⟨y, ex, hy, h1⟩ e1 g1 r1 => by
    subst ex
    have e0 : vx = .str y := Rep.strE r1
    subst e0
    exact ⟨y, rfl, hy, h1 as1 σ H1 G1 e1 Q (q.imp g1 fun _ _ z => z)⟩
theorem we_fmI (h : WpE K F te ρ fun x ρ1 => ∃ i : Int, x = .dat (.int i) ∧ i.natAbs.log2 < 1920 ∧ k (.dat (.str (numS i))) ρ1) : WpE K F (tFmt te) ρ k := fun as σ H G e Q q =>
  h as σ H G e _ fun x ρ1 vx as1 H1 G1 ⟨i, ex, hi, h1⟩ e1 g1 r1 => by
    subst ex
    have e0 : vx = .int i := Rep.intE r1
    subst e0
    exact .inr ⟨i, rfl, hi, q _ _ _ _ _ _ h1 e1 g1 (Rep.str _)⟩
theorem we_fmS (h : WpE K F te ρ fun x ρ1 => ∃ z, x = .dat (.str z) ∧ z.length ≤ sizeLine ∧ k (.dat (.str z)) ρ1) : WpE K F (tFmt te) ρ k := fun as σ H G e Q q =>
  h as σ H G e _ fun x ρ1 vx as1 H1 G1 ⟨z, ex, hz, h1⟩ e1 g1 r1 => by
    subst ex
    have e0 : vx = .str z := Rep.strE r1
    subst e0
    exact .inl ⟨z, rfl, hz, q _ _ _ _ _ _ h1 e1 g1 (Rep.str _)⟩
/-! flat lists: count, index -/
def flatD : D → Bool
  | .non => true | .bl _ => true | .int _ => true | .str _ => true | _ => false
def vD : D → V
  | .non => .non | .bl b => .bl b | .int i => .int i | .str x => .str x | _ => .non
theorem flat_rep {G : Hp} {d : D} {v : V} (h : flatD d = true) (r : Rep K G d v) : v = vD d ∧ flatV v = true := by
  cases d <;> first
    | (exact Bool.noConfusion (show false = true from h))
    | (cases r; exact ⟨rfl, rfl⟩)
theorem flat_reps {G : Hp} : ∀ {ds : List D} {vs : List V}, ds.all flatD = true → Reps K G ds vs → vs = ds.map vD ∧ vs.all flatV = true
  | [], _, _, h => by cases h; exact ⟨rfl, rfl⟩
  | d :: ds, _, f, h => by
    rw [List.all_cons, Bool.and_eq_true] at f
    cases h with
    | cons a b =>
      obtain ⟨e1, f1⟩ := flat_rep f.1 a
      obtain ⟨e2, f2⟩ := flat_reps f.2 b
      refine ⟨by rw [e1, e2]; rfl, ?_⟩
      rw [List.all_cons, f1, f2]; rfl
theorem wm_cnt {j : Nat} {ds : List D} {d : D} (hc : ρ.ce[j]? = some (.lst ds)) (f : ds.all flatD = true) (fd : flatD d = true) (hk : k (.dat (.int ((ds.map vD).countP (fun z => eqV z (vD d)) : Nat))) ρ) : WpM K F (rCntF K) (.cel j) [.dat d] ρ k := fun as σ H G v vs e r1 r2 Q q => by
  obtain ⟨a, ha, rfl⟩ := r1
  cases r2 with
  | cons r2 r3 =>
    cases r3
    obtain ⟨_, _, g, ws, hw, hr⟩ := e.ce j _ a hc ha
    obtain ⟨e1, f1⟩ := flat_reps f hr
    obtain ⟨e2, f2⟩ := flat_rep fd r2
    subst e1 e2
    exact ⟨a, _, _, rfl, rfl, SqL.of hw, f2, f1, q _ ρ _ as H G hk e .refl (Rep.int _)⟩
theorem wm_idx {j m : Nat} {ds : List D} {d z : D} (hc : ρ.ce[j]? = some (.lst ds)) (f : ds.all flatD = true) (fd : flatD d = true) (hm : ds[m]? = some z) (hz : eqV (vD z) (vD d) = true) (hn : ∀ (i : Nat) (y : D), i < m → ds[i]? = some y → eqV (vD y) (vD d) = false) (hk : k (.dat (.int (m : Nat))) ρ) : WpM K F (rIndex K) (.cel j) [.dat d] ρ k := fun as σ H G v vs e r1 r2 Q q => by
  obtain ⟨a, ha, rfl⟩ := r1
  cases r2 with
  | cons r2 r3 =>
    cases r3
    obtain ⟨_, _, g, ws, hw, hr⟩ := e.ce j _ a hc ha
    obtain ⟨e1, f1⟩ := flat_reps f hr
    obtain ⟨e2, f2⟩ := flat_rep fd r2
    subst e1 e2
    refine ⟨a, _, _, m, vD z, rfl, rfl, SqL.of hw, f2, f1, by rw [List.getElem?_map, hm]; rfl, hz, fun i y hi hy => ?_, q _ ρ _ as H G hk e .refl (Rep.int _)⟩
    rw [List.getElem?_map] at hy
    cases w : ds[i]? with
    | none => rw [w] at hy; cases hy
    | some y0 =>
      rw [w] at hy
      cases hy
      exact hn i y0 hi w
end
/-- arguments as data -/
local macro_rules | `(tactic| walk_at "as") => `(tactic| first
  | exact AsD.nil
  | (apply AsD.dat; walk_at "as")
  | (apply AsD.cel rfl; walk_at "as")
  | fail)
local macro_rules | `(tactic| walk_at "fz") => `(tactic| first
  | exact Frz.nil
  | (apply Frz.dat; walk_at "fz")
  | (apply Frz.cel rfl; walk_at "fz")
  | (apply Frz.ins rfl; walk_at "fz")
  | fail)
local macro_rules | `(tactic| walk_at "il") => `(tactic| first
  | exact IsL.dat _
  | exact IsL.cel rfl
  | exact IsL.scr _
  | fail)
local macro_rules | `(tactic| walk_at "od") => `(tactic| first
  | exact OfD.dat _
  | exact OfD.cel rfl
  | fail)
local macro_rules | `(tactic| walk_at "on") => `(tactic| first
  | exact only_name (by simp)
  | (refine only_tup ?_; repeat first | exact onlys_nil | refine onlys_cons (by simp) ?_)
  | fail)
/-- a call: its arguments as data -/
local macro_rules | `(tactic| walk_at "c") => `(tactic| (refine' wspE ?q1 ?z9; (case q1 => walk_at "as")))
local macro_rules | `(tactic| walk_at "cx") => `(tactic| (refine' wspX ?q1 ?z9; (case q1 => walk_at "as")))
local macro_rules | `(tactic| walk_at "al") => `(tactic| first
  | exact AsL.nil
  | (apply AsL.dat; walk_at "al")
  | (apply AsL.own; walk_at "al")
  | (apply AsL.cel (Nat.ne_of_beq_eq_false rfl) rfl; walk_at "al")
  | fail)
/-- a call that is lent a cell -/
local macro_rules | `(tactic| walk_at "c1") => `(tactic| (refine' wsp1 ?q1 ?q2 ?q3 ?z9; (case q1 => rfl); (case q2 => rfl); (case q3 => rfl)))
local macro_rules | `(tactic| walk_at "c2") => `(tactic| (refine' wsp2 ?q1 ?q2 ?q3 ?z9; (case q1 => rfl); (case q2 => rfl); (case q3 => walk_at "al")))
local macro_rules | `(tactic| walk_at "cd") => `(tactic| (refine' wspD ?q1 ?q2 ?z9; (case q2 => walk_at "al"); (case q1 => rfl)))
/-- one step by data -/
local macro_rules | `(tactic| walk_at "d") => `(tactic| first
  | with_reducible refine ws_seq ?_
  | with_reducible refine ws_asg ?_
  | with_reducible refine ws_ret ?_
  | with_reducible refine ws_if ?_
  | with_reducible refine ws_drop ?_
  | with_reducible refine ws_par ?_
  | with_reducible refine ws_next ?_
  | with_reducible refine ws_retN ?_
  | with_reducible refine ws_break ?_
  | with_reducible refine ws_cont ?_
  | with_reducible refine ws_for ?_
  | ((with_reducible refine' we_var ?v1 ?z9); (case v1 => exact rfl))
  | with_reducible refine we_ci ?_
  | with_reducible refine we_cs ?_
  | with_reducible refine we_cn ?_
  | with_reducible refine we_cb ?_
  | with_reducible refine we_ct ?_
  | with_reducible refine we_op ?_
  | with_reducible refine we_un ?_
  | with_reducible refine we_tCB ?_
  | with_reducible refine wa_nil ?_
  | with_reducible refine wa_cons ?_
  | with_reducible refine we_andV ?_
  | with_reducible refine we_orV ?_
  | with_reducible refine we_notV ?_
  | with_reducible refine we_if ?_
  | with_reducible refine wt_test ?_
  | with_reducible refine wt_B ?_
  | with_reducible refine wt_and ?_
  | with_reducible refine wt_or ?_
  | with_reducible refine wt_not ?_
  | with_reducible refine wt_yes ?_
  | with_reducible refine wt_tru ?_
  | with_reducible refine we_tup ?_
  | with_reducible refine we_lst ?_
  | with_reducible refine we_call ?_
  | with_reducible refine we_callS ?_
  | with_reducible refine wo_none ?_
  | with_reducible refine wo_some ?_
  | with_reducible refine wi_rng1 ?_
  | with_reducible refine wi_rngL ?_
  | with_reducible refine wi_rng2 ?_
  | with_reducible refine wg_name ?_
  | with_reducible refine wg_sub ?_
  | with_reducible refine wgs_nil ?_
  | with_reducible refine wgs_cons ?_
  | with_reducible refine wgs_consM ?_
  | with_reducible refine wgs_nilM ?_
  | with_reducible refine wr_I0i ?_
  | with_reducible refine wr_I0b ?_
  | with_reducible refine wr_isN ?_
  | with_reducible refine wr_notN ?_
  | with_reducible refine wr_isB ?_
  | with_reducible refine wr_isnotB ?_
  | (with_reducible refine wu_neg ?_)
  | with_reducible refine wc_abs ?_
  | ((with_reducible refine' wr_eq ?v1 ?z9); (case v1 => exact rfl))
  | ((with_reducible refine' wr_ne ?v1 ?z9); (case v1 => exact rfl))
  | ((with_reducible refine' we_lc ?v0 ?z9); (case v0 => walk_at "on"))
  | ((with_reducible refine' wm_append ?v0 ?v1 ?v2 ?z9); (case v0 => walk_at "fz"); (case v1 => exact rfl))
  | refine we_bm ?_
  | refine we_bm0 ?_
  | refine we_slL ?_
  | refine wi_list ?_
  | refine wi_tup ?_
  | ((refine' wg_tup ?v1 ?z9); (case v1 => exact rfl))
  | ((refine' wr_ixT ?v1 ?z9); (case v1 => exact rfl))
  | ((refine' wr_ixL ?v0 ?v1 ?z9); (case v0 => walk_at "il"); (case v1 => exact rfl))
  | refine wc_lenT ?_
  | ((refine' wc_lenL ?v0 ?z9); (case v0 => walk_at "il"))
  | ((refine' wc_isi ?v0 ?v1 ?z9); (case v0 => simp); (case v1 => exact rfl))
  | ((refine' wc_isiC ?v0 ?v1 ?z9); (case v0 => simp); (case v1 => exact rfl))
  | ((refine' wc_list ?v0 ?z9); (case v0 => walk_at "il"))
  | refine wc_listT ?_
  | ((refine' wc_tuple ?v0 ?z9); (case v0 => walk_at "il"))
  | (first | refine ⟨⟨_, _, rfl, rfl, rfl⟩, ?_⟩ | refine ⟨⟨_, _, rfl, rfl, fun z => by cases z⟩, ?_⟩ | fail)
  | ((with_reducible refine' frz_in ?v0 ?v1 ?z9); (case v0 => walk_at "fz"); (case v1 => exact rfl))
  | ((with_reducible refine' il_in ?v0 ?z9); (case v0 => walk_at "il"))
  | ((with_reducible refine' lc_in ?v0 ?v1 ?v2 ?z9); (case v0 => walk_at "fz"); (case v1 => exact rfl))
  | (refine ⟨_, rfl, ?_⟩)
  | (refine ⟨_, _, rfl, ?_⟩)
  | fail)
/-- steps, and ifs whose test is told -/
local macro_rules | `(tactic| walk_at "D") => `(tactic| repeat (first
  | walk_at "d"
  | refine ifT rfl ?_
  | refine ifF rfl ?_))
/-- the environment written out -/
local macro_rules | `(tactic| walk_at "nrm") => `(tactic| first | (dsimp only [En.put, En.add, En.cell, List.set_cons_zero, List.set_cons_succ, List.cons_append, List.nil_append, List.length_cons, List.length_nil, Nat.zero_add, Nat.reduceAdd]) | skip)

/-- .. with what was frozen and forgotten -/
local macro_rules | `(tactic| walk_at "nr2") => `(tactic| first | (dsimp only [En.start, En.put, En.add, En.cell, En.frz, En.frzD, En.clr, frzA_d, frzA_c, mapC, mapN, Option.map_some, Option.map_none, List.set_cons_zero, List.set_cons_succ, List.cons_append, List.nil_append, List.length_cons, List.length_nil, Nat.zero_add, Nat.reduceAdd, Nat.reduceSub, List.replicate_succ, List.replicate_zero, ↓reduceIte, Nat.reduceEqDiff, reduceCtorEq]) | skip)

local macro_rules | `(tactic| walk_at "nr4") => `(tactic| first | (simp only [En.start, En.put, En.add, En.cell, En.frz, En.frzD, En.clr, frzA_d, frzA_c, mapC, mapN, Option.map_some, Option.map_none, List.set_cons_zero, List.set_cons_succ, List.cons_append, List.nil_append, List.length_cons, List.length_nil, Nat.zero_add, Nat.reduceAdd, Nat.reduceSub, List.replicate_succ, List.replicate_zero, ↓reduceIte, Nat.reduceEqDiff, reduceCtorEq, Nat.succ_ne_self]) | skip)
/-! ### sizes of whole numbers -/
def Sm (n : Nat) (x : Int) : Prop := x.natAbs < 2 ^ n
theorem Sm.mono {a b : Nat} {x : Int} (h : Sm a x) (l : a ≤ b) : Sm b x := Nat.lt_of_lt_of_le h (Nat.pow_le_pow_right (by decide) l)
theorem Sm.mul {a b : Nat} {x y : Int} (h : Sm a x) (k : Sm b y) : Sm (a + b) (x * y) := wide_lt h k
theorem Sm.add {a b : Nat} {x y : Int} (h : Sm a x) (k : Sm b y) : Sm (a + b + 1) (x + y) := by
  have h1 := Sm.mono h (Nat.le_add_right a b)
  have h2 := Sm.mono k (Nat.le_add_left b a)
  unfold Sm at *
  rw [Nat.pow_succ]
  omega
theorem Sm.sub {a b : Nat} {x y : Int} (h : Sm a x) (k : Sm b y) : Sm (a + b + 1) (x - y) := by
  have h1 := Sm.mono h (Nat.le_add_right a b)
  have h2 := Sm.mono k (Nat.le_add_left b a)
  unfold Sm at *
  rw [Nat.pow_succ]
  omega
theorem Sm.neg {a : Nat} {x : Int} (h : Sm a x) : Sm a (-x) := by
  unfold Sm at *
  omega
theorem Sm.le {a : Nat} {x y : Int} (h : Sm a x) (l : y.natAbs ≤ x.natAbs) : Sm a y := Nat.lt_of_le_of_lt l h
theorem Sm.mulok {a b : Nat} {x y : Int} (h : Sm a x) (k : Sm b y) (ha : a ≤ 400000) (hb : b ≤ 400000) : CMulW x y := by
  refine wide_mul (a := a + 1) (b := b + 1) (Sm.mono h (Nat.le_succ a)) (Sm.mono k (Nat.le_succ b)) (Nat.succ_pos _) (Nat.succ_pos _) (by omega)
def CDivZ (_ j : Int) : Prop := j ≠ 0 ∧ Sm 8000 j
theorem op_fdivZ {X : Cx} : OpR X (binaryOp .FloorDiv) (rI CDivZ fun i j => .int (i.fdiv j)) := opI fun i j _ _ _ _ _ hc q => by
  have h : j.natAbs.log2 < 9000 := Nat.lt_of_lt_of_le (PySem.Flt.log2_lt_of (by decide) hc.2) (by decide)
  exact floordiv_int hc.1 q (.inl (PyProof.noPylong_of_log2 h))
/-! ### fractions -/
theorem gcd_turn {x y : Int} (hx : 0 ≤ x) (hy : 0 < y) : Int.gcd y (x % y) = Int.gcd x y := by
  obtain ⟨m, rfl⟩ := Int.eq_ofNat_of_zero_le hx
  obtain ⟨n, rfl⟩ := Int.eq_ofNat_of_zero_le (Int.le_of_lt hy)
  show Nat.gcd _ _ = Nat.gcd _ _
  rw [← Int.natCast_emod]
  simp only [Int.natAbs_natCast]
  rw [Nat.gcd_comm m n, Nat.gcd_rec n m, Nat.gcd_comm]
theorem gcd_abs (x y : Int) : Int.gcd (if x < 0 then -x else x) (if y < 0 then -y else y) = Int.gcd x y := by
  split <;> split <;> simp [Int.gcd]
theorem gcd_pos {t b : Int} (h : b ≠ 0) : (0 : Int) < (Int.gcd t b : Nat) := by
  have := Int.gcd_pos_of_ne_zero_right t h
  omega
/-- the divisor with the bottom's sign -/
def dvs (t b : Int) : Int := if b < 0 then -((Int.gcd t b : Nat) : Int) else ((Int.gcd t b : Nat) : Int)
theorem frac_num {t b : Int} (h : b ≠ 0) : t.fdiv (dvs t b) = (Rat.divInt t b).num := by
  have g0 := gcd_pos (t := t) h
  have gt : ((Int.gcd t b : Nat) : Int) ∣ t := Int.gcd_dvd_left t b
  rw [Rat.num_divInt, Int.gcd_comm b t]
  unfold dvs
  by_cases hb : b < 0
  · rw [if_pos hb, Int.sign_eq_neg_one_of_neg hb, Int.fdiv_neg (by omega), if_pos gt, Int.fdiv_eq_ediv_of_dvd gt]
    rw [Int.neg_mul, Int.one_mul, Int.neg_ediv_of_dvd gt]
  · rw [if_neg hb, Int.sign_eq_one_of_pos (by omega), Int.one_mul, Int.fdiv_eq_ediv_of_dvd gt]
theorem frac_den {t b : Int} (h : b ≠ 0) : b.fdiv (dvs t b) = ((Rat.divInt t b).den : Int) := by
  have g0 := gcd_pos (t := t) h
  have gb : ((Int.gcd t b : Nat) : Int) ∣ b := Int.gcd_dvd_right t b
  rw [Rat.den_divInt, if_neg h, Int.gcd_comm b t, Int.natCast_ediv]
  unfold dvs
  by_cases hb : b < 0
  · rw [if_pos hb, Int.fdiv_neg (by omega), if_pos gb, Int.fdiv_eq_ediv_of_dvd gb]
    rw [show ((b.natAbs : Nat) : Int) = -b by omega, Int.neg_ediv_of_dvd gb]
  · rw [if_neg hb, Int.fdiv_eq_ediv_of_dvd gb]
    rw [show ((b.natAbs : Nat) : Int) = b by omega]
theorem dvs_ne {t b : Int} (h : b ≠ 0) : dvs t b ≠ 0 := by
  have g0 := gcd_pos (t := t) h
  unfold dvs
  split <;> omega
theorem dvs_sm {t b : Int} {n : Nat} (h : b ≠ 0) (s : Sm n b) : Sm n (dvs t b) := by
  refine s.le ?_
  have hd : Int.gcd t b ∣ b.natAbs := Int.gcd_dvd_natAbs_right t b
  have hl := Nat.le_of_dvd (by omega) hd
  unfold dvs
  split <;> omega
theorem num_sm {t b : Int} {n : Nat} (h : b ≠ 0) (s : Sm n t) : Sm n (Rat.divInt t b).num := by
  refine s.le ?_
  have g0 : 0 < Int.gcd t b := Int.gcd_pos_of_ne_zero_right t h
  have gt : ((Int.gcd t b : Nat) : Int) ∣ t := Int.gcd_dvd_left t b
  rw [← frac_num h]
  have e : t.fdiv (dvs t b) * dvs t b = t := by
    rw [Int.mul_comm]
    refine Int.mul_fdiv_cancel_of_dvd ?_
    unfold dvs
    split
    · exact Int.neg_dvd.mpr gt
    · exact gt
  have e2 : t.natAbs = (t.fdiv (dvs t b)).natAbs * (dvs t b).natAbs := by
    rw [← Int.natAbs_mul, e]
  rw [e2]
  have : 0 < (dvs t b).natAbs := by
    have := dvs_ne (t := t) h
    omega
  exact Nat.le_mul_of_pos_right _ this
theorem den_sm {t b : Int} {n : Nat} (h : b ≠ 0) (s : Sm n b) : Sm n ((Rat.divInt t b).den : Int) := by
  refine s.le ?_
  rw [Rat.den_divInt, if_neg h]
  exact Nat.div_le_self _ _
/-- a fraction as it stands in a tuple -/
def pr (q : Rat) : List V := [.int q.num, .int (q.den : Int)]
theorem pr_ints (q : Rat) : pr q = [q.num, (q.den : Int)].map V.int := rfl
theorem den_pos (q : Rat) : (0 : Int) < (q.den : Int) := by
  have := q.den_nz
  omega
theorem num_gcd (q : Rat) : Int.gcd q.num (q.den : Int) = 1 := by
  have := q.reduced
  show Nat.gcd _ _ = 1
  simpa using this
theorem rat_inj {p q : Rat} : ([p.num, (p.den : Int)] = [q.num, (q.den : Int)]) ↔ p = q := by
  constructor
  · intro h
    simp only [List.cons.injEq, and_true] at h
    obtain ⟨h1, h2⟩ := h
    exact Rat.ext h1 (by omega)
  · rintro rfl
    rfl
theorem divInt_self (q : Rat) : Rat.divInt q.num (q.den : Int) = q := Rat.num_divInt_den q
theorem divInt_cross {t b : Int} (h : b ≠ 0) : (Rat.divInt t b).num * b = t * ((Rat.divInt t b).den : Int) := by
  have e : Rat.divInt (Rat.divInt t b).num ((Rat.divInt t b).den : Int) = Rat.divInt t b := divInt_self _
  exact (Rat.divInt_eq_divInt_iff (by have := den_pos (Rat.divInt t b); omega) h).mp e
theorem log_small {n : Int} (h0 : 0 ≤ n) (h1 : n < 1000) : n.natAbs.log2 < 1920 := by
  have h : n.natAbs < 2 ^ 10 := by omega
  exact Nat.lt_of_lt_of_le (PySem.Flt.log2_lt_of (by decide) h) (by decide)
theorem den_ne (a : Rat) : (a.den : Int) ≠ 0 := by
  have := den_pos a
  omega
theorem add_is (a b : Rat) : Rat.divInt (a.num * (b.den : Int) + b.num * (a.den : Int)) ((a.den : Int) * (b.den : Int)) = a + b := by
  rw [← Rat.divInt_add_divInt _ _ (den_ne a) (den_ne b), divInt_self, divInt_self]
theorem sub_is (a b : Rat) : Rat.divInt (a.num * (b.den : Int) - b.num * (a.den : Int)) ((a.den : Int) * (b.den : Int)) = a - b := by
  rw [← Rat.divInt_sub_divInt _ _ (den_ne a) (den_ne b), divInt_self, divInt_self]
theorem mul_is (a b : Rat) : Rat.divInt (a.num * b.num) ((a.den : Int) * (b.den : Int)) = a * b := by
  rw [← Rat.divInt_mul_divInt, divInt_self, divInt_self]
theorem mul_ne {a b : Int} (h : a ≠ 0) (k : b ≠ 0) : a * b ≠ 0 := Int.mul_ne_zero h k
/-! ### sums and products shortened crosswise -/
theorem mul_num (a b : Rat) : a.num.fdiv ((a.num.natAbs.gcd b.den : Nat) : Int) * b.num.fdiv ((b.num.natAbs.gcd a.den : Nat) : Int) = (a * b).num := by
  have e : (a * b).num = a.num / ((a.num.natAbs.gcd b.den : Nat) : Int) * (b.num / ((b.num.natAbs.gcd a.den : Nat) : Int)) := by
    show (Rat.mul a b).num = _
    unfold Rat.mul
    simp only [Int.divExact_eq_ediv]
  rw [e, Int.fdiv_eq_ediv_of_nonneg _ (Int.natCast_nonneg _), Int.fdiv_eq_ediv_of_nonneg _ (Int.natCast_nonneg _)]
theorem mul_den (a b : Rat) : (a.den : Int).fdiv ((b.num.natAbs.gcd a.den : Nat) : Int) * (b.den : Int).fdiv ((a.num.natAbs.gcd b.den : Nat) : Int) = ((a * b).den : Int) := by
  have e : (a * b).den = a.den / (b.num.natAbs.gcd a.den) * (b.den / (a.num.natAbs.gcd b.den)) := by
    show (Rat.mul a b).den = _
    unfold Rat.mul
    simp only [Nat.divExact_eq_div]
  rw [e, Int.fdiv_eq_ediv_of_nonneg _ (Int.natCast_nonneg _), Int.fdiv_eq_ediv_of_nonneg _ (Int.natCast_nonneg _)]
  rw [Int.natCast_mul, Int.natCast_ediv, Int.natCast_ediv]
/-- the sum's top before it is shortened -/
def sumTop (a c : Rat) : Int := a.num * ((c.den / a.den.gcd c.den : Nat) : Int) + c.num * ((a.den / a.den.gcd c.den : Nat) : Int)
def sumRest (a c : Rat) : Nat := (sumTop a c).natAbs.gcd (a.den.gcd c.den)
theorem sum_facts (a c : Rat) : (sumTop a c).fdiv (sumRest a c : Int) = (a + c).num ∧ ((c.den / a.den.gcd c.den : Nat) : Int) * ((a.den / sumRest a c : Nat) : Int) = ((a + c).den : Int) := by
  have d0 : 0 < a.den.gcd c.den := Nat.gcd_pos_of_pos_left _ a.den_pos
  have aux := Rat.add.aux a c (g := a.den.gcd c.den) rfl rfl rfl
  obtain ⟨x, hx⟩ := Nat.gcd_dvd_left a.den c.den
  obtain ⟨y, hy⟩ := Nat.gcd_dvd_right a.den c.den
  have ex : a.den / a.den.gcd c.den = x := by conv => lhs; lhs; rw [hx]
                                              exact Nat.mul_div_cancel_left _ d0
  have ey : c.den / a.den.gcd c.den = y := by conv => lhs; lhs; rw [hy]
                                              exact Nat.mul_div_cancel_left _ d0
  have er : sumRest a c = (sumTop a c).natAbs.gcd (x * c.den) := by
    unfold sumRest
    rw [← ex]
    exact aux
  have hz : (x * c.den : Nat) ≠ 0 := by
    have h1 := a.den_pos
    have h2 := c.den_pos
    intro z
    rcases Nat.mul_eq_zero.mp z with z | z
    · rw [z, Nat.mul_zero] at hx; omega
    · omega
  have hv : Rat.divInt (sumTop a c) ((x * c.den : Nat) : Int) = a + c := by
    rw [← add_is a c]
    have d1 : ((a.den.gcd c.den : Nat) : Int) ≠ 0 := by omega
    rw [← Rat.divInt_mul_right d1]
    have hx' : (a.den : Int) = ((a.den.gcd c.den : Nat) : Int) * (x : Int) := by exact_mod_cast hx
    have hy' : (c.den : Int) = ((a.den.gcd c.den : Nat) : Int) * (y : Int) := by exact_mod_cast hy
    have e1 : sumTop a c * ((a.den.gcd c.den : Nat) : Int) = a.num * (c.den : Int) + c.num * (a.den : Int) := by
      unfold sumTop
      rw [ex, ey]
      generalize ((a.den.gcd c.den : Nat) : Int) = g at hx' hy'
      rw [hx', hy']
      grind
    have e2 : ((x * c.den : Nat) : Int) * ((a.den.gcd c.den : Nat) : Int) = (a.den : Int) * (c.den : Int) := by
      rw [Int.natCast_mul]
      generalize ((a.den.gcd c.den : Nat) : Int) = g at hx' hy'
      rw [hx']
      grind
    rw [e1, e2]
  have hzi : ((x * c.den : Nat) : Int) ≠ 0 := by omega
  have ed : dvs (sumTop a c) ((x * c.den : Nat) : Int) = (sumRest a c : Int) := by
    unfold dvs
    rw [if_neg (by omega), er]; rfl
  have n1 := frac_num (t := sumTop a c) hzi
  have n2 := frac_den (t := sumTop a c) hzi
  rw [hv, ed] at n1 n2
  refine ⟨n1, ?_⟩
  rw [← n2, Int.fdiv_eq_ediv_of_nonneg _ (Int.natCast_nonneg _), ← Int.natCast_ediv, ← Int.natCast_mul, ey]
  congr 1
  obtain ⟨z, hz2⟩ : sumRest a c ∣ a.den.gcd c.den := Nat.gcd_dvd_right _ _
  have r0 : 0 < sumRest a c := Nat.gcd_pos_of_pos_right _ d0
  have e3 : a.den / sumRest a c = z * x := by
    conv => lhs; lhs; rw [hx, hz2, Nat.mul_assoc]
    exact Nat.mul_div_cancel_left _ r0
  have e4 : x * c.den / sumRest a c = x * z * y := by
    have : x * c.den = sumRest a c * (x * z * y) := by
      conv => lhs; rw [hy, hz2]
      simp only [Nat.mul_assoc, Nat.mul_comm, Nat.mul_left_comm]
    rw [this]
    exact Nat.mul_div_cancel_left _ r0
  rw [e3, e4]
  simp only [Nat.mul_assoc, Nat.mul_comm, Nat.mul_left_comm]
theorem inv_pos {b : Rat} (h : 0 < b.num) : (b⁻¹).num = (b.den : Int) ∧ ((b⁻¹).den : Int) = b.num := by
  show (Rat.inv b).num = _ ∧ ((Rat.inv b).den : Int) = _
  unfold Rat.inv
  rw [dif_neg (by omega), dif_pos h]
  exact ⟨rfl, by show ((b.num.natAbs : Nat) : Int) = b.num; omega⟩
theorem inv_neg {b : Rat} (h : b.num < 0) : (b⁻¹).num = -(b.den : Int) ∧ ((b⁻¹).den : Int) = -b.num := by
  show (Rat.inv b).num = _ ∧ ((Rat.inv b).den : Int) = _
  unfold Rat.inv
  rw [dif_pos h]
  exact ⟨rfl, by show ((b.num.natAbs : Nat) : Int) = -b.num; omega⟩
theorem fdiv_nat (m n : Nat) : (m : Int).fdiv (n : Int) = ((m / n : Nat) : Int) := by
  rw [Int.fdiv_eq_ediv_of_nonneg _ (Int.natCast_nonneg _), ← Int.natCast_ediv]
theorem gcd_absN (x : Int) (n : Nat) : Int.gcd (if x < 0 then -x else x) (n : Int) = x.natAbs.gcd n := by
  split <;> simp [Int.gcd]
def spSummed : Sp := fun vs H Q _ => ∃ (p : Addr) (a c : Rat), vs = [.ref p, .int c.num, .int (c.den : Int)] ∧ H p = some (.tup (pr a)) ∧ Sm 1900 a.num ∧ Sm 1900 (a.den : Int) ∧ Sm 1900 c.num ∧ Sm 1900 (c.den : Int) ∧ ∀ n, H n = none → Q (.ref n) (upd H n (.tup (pr (a + c))))
theorem Sm.div {n m k : Nat} (h : Sm n (m : Int)) : Sm n ((m / k : Nat) : Int) := h.le (show m / k ≤ m from Nat.div_le_self m k)
theorem Sm.ediv {n k : Nat} {x : Int} (h : Sm n x) : Sm n (x / (k : Int)) := h.le (Int.natAbs_ediv_le_natAbs x k)
theorem Sm.fdiv {n k : Nat} {x : Int} (h : Sm n x) : Sm n (x.fdiv (k : Int)) := by
  rw [Int.fdiv_eq_ediv_of_nonneg _ (Int.natCast_nonneg _)]
  exact Sm.ediv h
section
variable {P : Program} {w : World} {K : PySem.W.Frag} {mg : Str → Option Value} {base : Heap}
/-! ### fractions by data -/
def fD (q : Rat) : D := .tup [.int q.num, .int (q.den : Int)]
/-- small enough to be reckoned with -/
def Sz (n : Nat) (q : Rat) : Prop := Sm n q.num ∧ Sm n (q.den : Int)
def wGcd : PW0 := fun xs cs post _ => ∃ a b : Int, xs = [.dat (.int a), .dat (.int b)] ∧ cs = [] ∧ 0 ≤ a ∧ 0 ≤ b ∧ post (.dat (.int ((Int.gcd a b : Nat) : Int))) []
theorem ok_common_divisor (T : Txt K mg) : FnOk P w K mg base CX0 1 T.a_common_divisor T.d_common_divisor ["one", "other"] (spG K wGcd) := by
  refine T.F_common_divisor.ok sc_common_divisor (fun vs H Q E h => spG_len h fun xs cs post exc ⟨a, b, e, _⟩ => by rw [e]; rfl) (fun cdv A outer s H vs Q E hr h => ⟨_, (pss_cons (ps_while PassesOwn.never (pt_cmpR op_gt (pv 1) pe_int (nomark _)) (pss_one (ps_par (i := 0) (j := 1) (by rfl) sc_common_divisor.nd rfl rfl (by decide) rfl rfl (pa_cons (pv 1) (pa_cons (pe_op op_mod (pv 0) (pv 1)) pa_nil)) (by rfl))))
      (pss_one (ps_ret (pv 0)))), enter h fun F xs cs post hE hw => ?_⟩)
  obtain ⟨a, b, rfl, rfl, a0, b0, q⟩ := hw
  walk_at "D"
  refine ws_while (fun m ρ1 => ∃ x y : Int, ρ1 = ⟨[some (.dat (.int x)), some (.dat (.int y))], []⟩ ∧ 0 ≤ x ∧ 0 ≤ y ∧ Int.gcd x y = Int.gcd a b ∧ m = y.toNat) b.toNat ⟨a, b, rfl, a0, b0, rfl, rfl⟩ ?_
  rintro m ρ1 ⟨x, y, rfl, x0, y0, e, rfl⟩
  walk_at "D"
  refine ifC (fun c => ?_) (fun c => ?_)
  · have c := of_decide_eq_true c
    walk_at "D"
    refine wr_Ii c ?_
    walk_at "D"
    have := Int.emod_lt_of_pos x c
    have := Int.emod_nonneg x (show y ≠ 0 by omega)
    exact ⟨_, by omega, y, x % y, rfl, y0, by omega, (gcd_turn x0 c).trans e, rfl⟩
  · have c := of_decide_eq_false c
    have y1 : y = 0 := by omega
    subst y1
    rw [← e] at q
    walk_at "D"
    have e2 : ((Int.gcd x 0 : Nat) : Int) = x := by
      rw [Int.gcd_zero_right]
      omega
    rw [e2] at q
    exact ⟨_, .dat _, rfl, q⟩
/-- what ends a def's body -/
theorem fin_dat {n : Nat} {post : RV → List Cell → Prop} {ρ : En} {d : D} (ng : noGone (ρ.ce.take n) = true) (q : post (.dat d) (ρ.ce.take n)) : (KS.fin n post).rt (.dat d) ρ := ⟨_, .dat d, ng, q⟩
def wSummed : PW0 := fun xs cs post _ => ∃ a c : Rat, xs = [.dat (fD a), .dat (.int c.num), .dat (.int (c.den : Int))] ∧ cs = [] ∧ Sz 4000 a ∧ Sz 4000 c ∧ post (.dat (fD (a + c))) []
theorem ok_summed (T : Txt K mg) : FnOk P w K mg base CX0 2 T.a_summed T.d_summed ["one", "top", "bottom"] (spG K wSummed) := by
  refine T.F_summed.ok sc_summed (fun vs H Q E h => spG_len h fun xs cs post exc ⟨a, b, e, _⟩ => by rw [e]; rfl) (fun cdv A outer s H vs Q E hr h => ⟨_, (pss_cons (ps_set (i := 3) sc_summed.nd rfl (Or.inl rfl) (pe_call (ok_common_divisor T) (hr.mono (by decide)) (by rfl) T.g_common_divisor T.F_common_divisor.kp T.b_common_divisor .nil pass0 (pa_cons (pe_ix ix_tup (pv 0) pe_int (fun _ _ => rfl)) (pa_cons (pv 2) pa_nil))))
      (pss_cons (ps_set (i := 4) sc_summed.nd rfl (Or.inl rfl) (pe_op op_fdivZ (pv 2) (pv 3)))
      (pss_cons (ps_set (i := 5) sc_summed.nd rfl (Or.inl rfl) (pe_op op_add (pe_op op_mulW (pe_ix ix_tup (pv 0) pe_int (fun _ _ => rfl)) (pv 4)) (pe_op op_mulW (pv 1) (pe_op op_fdivZ (pe_ix ix_tup (pv 0) pe_int (fun _ _ => rfl)) (pv 3)))))
      (pss_cons (ps_set (i := 6) sc_summed.nd rfl (Or.inl rfl) (pe_call (ok_common_divisor T) (hr.mono (by decide)) (by rfl) T.g_common_divisor T.F_common_divisor.kp T.b_common_divisor .nil pass0 (pa_cons (pe_callB call_abs (by rfl) T.m_abs (by decide +kernel) (pa_cons (pv 5) pa_nil)) (pa_cons (pv 3) pa_nil))))
      (pss_one (ps_ret (pe_tup (pa_cons (pe_op op_fdivZ (pv 5) (pv 6)) (pa_cons (pe_op op_mulW (pv 4) (pe_op op_fdivZ (pe_ix ix_tup (pv 0) pe_int (fun _ _ => rfl)) (pv 6))) pa_nil))))))))), enter h fun F xs cs post hE hw => ?_⟩)
  obtain ⟨a, c, rfl, rfl, ⟨s1, s2⟩, ⟨s3, s4⟩, q⟩ := hw
  have hf := sum_facts a c
  have d0 : 0 < a.den.gcd c.den := Nat.gcd_pos_of_pos_left _ a.den_pos
  have dz : ((a.den.gcd c.den : Nat) : Int) ≠ 0 := by omega
  have r0 : 0 < sumRest a c := Nat.gcd_pos_of_pos_right _ d0
  have rz : ((sumRest a c : Nat) : Int) ≠ 0 := by omega
  have dl := Nat.le_of_dvd a.den_pos (Nat.gcd_dvd_left a.den c.den)
  have rl : sumRest a c ≤ a.den.gcd c.den := Nat.le_of_dvd d0 (Nat.gcd_dvd_right _ _)
  have ds : Sm 4000 ((a.den.gcd c.den : Nat) : Int) := s2.le (by omega)
  have rs : Sm 4000 ((sumRest a c : Nat) : Int) := s2.le (by omega)
  have ps : Sm 4000 ((c.den / a.den.gcd c.den : Nat) : Int) := s4.div
  have qs : Sm 4000 ((a.den / a.den.gcd c.den : Nat) : Int) := s2.div
  have us : Sm 4000 ((a.den / sumRest a c : Nat) : Int) := s2.div
  walk_at "D"
  walk_at "c"
  refine ⟨_, _, rfl, rfl, by omega, by omega, rfl, ?_⟩
  rw [show Int.gcd (a.den : Int) (c.den : Int) = a.den.gcd c.den from rfl]
  walk_at "D"
  refine wr_Ii ⟨dz, ds.mono (by decide)⟩ ?_
  rw [fdiv_nat c.den (a.den.gcd c.den)]
  walk_at "D"
  refine wr_Ii (Sm.mulok s1 ps (by decide) (by decide)) ?_
  walk_at "D"
  refine wr_Ii ⟨dz, ds.mono (by decide)⟩ ?_
  rw [fdiv_nat a.den (a.den.gcd c.den)]
  walk_at "D"
  refine wr_Ii (Sm.mulok s3 qs (by decide) (by decide)) ?_
  walk_at "D"
  walk_at "c"
  refine ⟨_, _, rfl, rfl, by split <;> omega, by omega, rfl, ?_⟩
  rw [gcd_absN]
  rw [show (Int.natAbs (a.num * ((c.den / a.den.gcd c.den : Nat) : Int) + c.num * ((a.den / a.den.gcd c.den : Nat) : Int))).gcd (a.den.gcd c.den) = sumRest a c from rfl]
  walk_at "D"
  refine wr_Ii ⟨rz, rs.mono (by decide)⟩ ?_
  walk_at "D"
  refine wr_Ii ⟨rz, rs.mono (by decide)⟩ ?_
  rw [fdiv_nat a.den (sumRest a c)]
  refine wr_Ii (Sm.mulok ps us (by decide) (by decide)) ?_
  walk_at "D"
  rw [hf.2]
  rw [show (a.num * ((c.den / a.den.gcd c.den : Nat) : Int) + c.num * ((a.den / a.den.gcd c.den : Nat) : Int)).fdiv (sumRest a c : Int) = (a + c).num from hf.1]
  exact fin_dat rfl q
def wBin (f : Rat → Rat → Rat) : PW0 := fun xs cs post _ => ∃ a c : Rat, xs = [.dat (fD a), .dat (fD c)] ∧ cs = [] ∧ Sz 4000 a ∧ Sz 4000 c ∧ post (.dat (fD (f a c))) []
theorem ok_plus (T : Txt K mg) : FnOk P w K mg base CX0 3 T.a_plus T.d_plus ["one", "other"] (spG K (wBin HAdd.hAdd)) := by
  refine T.F_plus.ok sc_plus (fun vs H Q E h => spG_len h fun xs cs post exc ⟨a, b, e, _⟩ => by rw [e]; rfl) (fun cdv A outer s H vs Q E hr h => ⟨_, (pss_one (ps_ret (pe_call (ok_summed T) (hr.mono (by decide)) (by rfl) T.g_summed T.F_summed.kp T.b_summed .nil pass0 (pa_cons (pv 0) (pa_cons (pe_ix ix_tup (pv 1) pe_int (fun _ _ => rfl)) (pa_cons (pe_ix ix_tup (pv 1) pe_int (fun _ _ => rfl)) pa_nil)))))), enter h fun F xs cs post hE hw => ?_⟩)
  obtain ⟨a, c, rfl, rfl, s1, s2, q⟩ := hw
  walk_at "D"
  walk_at "c"
  refine ⟨a, c, rfl, rfl, s1, s2, rfl, fin_dat rfl q⟩
theorem ok_times (T : Txt K mg) : FnOk P w K mg base CX0 2 T.a_times T.d_times ["one", "other"] (spG K (wBin HMul.hMul)) := by
  refine T.F_times.ok sc_times (fun vs H Q E h => spG_len h fun xs cs post exc ⟨a, b, e, _⟩ => by rw [e]; rfl) (fun cdv A outer s H vs Q E hr h => ⟨_, (pss_cons (ps_set (i := 2) sc_times.nd rfl (Or.inl rfl) (pe_call (ok_common_divisor T) (hr.mono (by decide)) (by rfl) T.g_common_divisor T.F_common_divisor.kp T.b_common_divisor .nil pass0 (pa_cons (pe_callB call_abs (by rfl) T.m_abs (by decide +kernel) (pa_cons (pe_ix ix_tup (pv 0) pe_int (fun _ _ => rfl)) pa_nil)) (pa_cons (pe_ix ix_tup (pv 1) pe_int (fun _ _ => rfl)) pa_nil))))
      (pss_cons (ps_set (i := 3) sc_times.nd rfl (Or.inl rfl) (pe_call (ok_common_divisor T) (hr.mono (by decide)) (by rfl) T.g_common_divisor T.F_common_divisor.kp T.b_common_divisor .nil pass0 (pa_cons (pe_callB call_abs (by rfl) T.m_abs (by decide +kernel) (pa_cons (pe_ix ix_tup (pv 1) pe_int (fun _ _ => rfl)) pa_nil)) (pa_cons (pe_ix ix_tup (pv 0) pe_int (fun _ _ => rfl)) pa_nil))))
      (pss_one (ps_ret (pe_tup (pa_cons (pe_op op_mulW (pe_op op_fdivZ (pe_ix ix_tup (pv 0) pe_int (fun _ _ => rfl)) (pv 2)) (pe_op op_fdivZ (pe_ix ix_tup (pv 1) pe_int (fun _ _ => rfl)) (pv 3))) (pa_cons (pe_op op_mulW (pe_op op_fdivZ (pe_ix ix_tup (pv 0) pe_int (fun _ _ => rfl)) (pv 3)) (pe_op op_fdivZ (pe_ix ix_tup (pv 1) pe_int (fun _ _ => rfl)) (pv 2))) pa_nil))))))), enter h fun F xs cs post hE hw => ?_⟩)
  obtain ⟨a, b, rfl, rfl, ⟨s1, s2⟩, ⟨s3, s4⟩, q⟩ := hw
  have l0 : 0 < a.num.natAbs.gcd b.den := Nat.gcd_pos_of_pos_right _ b.den_pos
  have r0 : 0 < b.num.natAbs.gcd a.den := Nat.gcd_pos_of_pos_right _ a.den_pos
  have ll := Nat.le_of_dvd b.den_pos (Nat.gcd_dvd_right a.num.natAbs b.den)
  have rl := Nat.le_of_dvd a.den_pos (Nat.gcd_dvd_right b.num.natAbs a.den)
  have cl : CDivZ 0 ((a.num.natAbs.gcd b.den : Nat) : Int) := ⟨by omega, (s4.le (by omega) : Sm 4000 _).mono (by decide)⟩
  have cr : CDivZ 0 ((b.num.natAbs.gcd a.den : Nat) : Int) := ⟨by omega, (s2.le (by omega) : Sm 4000 _).mono (by decide)⟩
  walk_at "D"
  walk_at "c"
  refine ⟨_, _, rfl, rfl, by split <;> omega, by omega, rfl, ?_⟩
  rw [gcd_absN]
  walk_at "D"
  walk_at "c"
  refine ⟨_, _, rfl, rfl, by split <;> omega, by omega, rfl, ?_⟩
  rw [gcd_absN]
  walk_at "D"
  refine wr_Ii cl ?_
  walk_at "D"
  refine wr_Ii cr ?_
  refine wr_Ii (Sm.mulok s1.fdiv s3.fdiv (by decide) (by decide)) ?_
  walk_at "D"
  refine wr_Ii cr ?_
  walk_at "D"
  refine wr_Ii cl ?_
  refine wr_Ii (Sm.mulok s2.fdiv s4.fdiv (by decide) (by decide)) ?_
  walk_at "D"
  rw [mul_num, mul_den]
  exact fin_dat rfl q
theorem lt_cross (a b : Rat) : (a.num * (b.den : Int) < b.num * (a.den : Int)) ↔ a < b := (Rat.lt_iff a b).symm
def wLess : PW0 := fun xs cs post _ => ∃ a c : Rat, xs = [.dat (fD a), .dat (fD c)] ∧ cs = [] ∧ Sz 40000 a ∧ Sz 40000 c ∧ post (.dat (.bl (decide (a < c)))) []
/-! ### sizes of fractions -/
theorem Sz.mono {a b : Nat} {q : Rat} (h : Sz a q) (l : a ≤ b) : Sz b q := ⟨h.1.mono l, h.2.mono l⟩
theorem Sz.div {n m : Nat} {t b : Int} (h : b ≠ 0) (s1 : Sm n t) (s2 : Sm n b) : Sz n (Rat.divInt t b) := ⟨num_sm h s1, den_sm h s2⟩
theorem Sz.add {a b : Nat} {p q : Rat} (h : Sz a p) (k : Sz b q) : Sz (a + b + 1) (p + q) := by
  rw [← add_is p q]
  have h1 : Sm (a + b) (p.num * (q.den : Int)) := h.1.mul k.2
  have h2 : Sm (a + b) (q.num * (p.den : Int)) := by rw [Nat.add_comm]; exact k.1.mul h.2
  have h3 : Sm (a + b) ((p.den : Int) * (q.den : Int)) := h.2.mul k.2
  refine ⟨num_sm (mul_ne (den_ne p) (den_ne q)) ?_, den_sm (mul_ne (den_ne p) (den_ne q)) (h3.mono (by omega))⟩
  unfold Sm at *
  rw [Nat.pow_succ]
  omega
theorem Sz.neg {a : Nat} {p : Rat} (h : Sz a p) : Sz a (-p) := ⟨by rw [Rat.neg_num]; exact h.1.neg, by rw [Rat.neg_den]; exact h.2⟩
theorem Sz.sub {a b : Nat} {p q : Rat} (h : Sz a p) (k : Sz b q) : Sz (a + b + 1) (p - q) := by rw [Rat.sub_eq_add_neg]; exact h.add k.neg
theorem Sz.mul {a b : Nat} {p q : Rat} (h : Sz a p) (k : Sz b q) : Sz (a + b) (p * q) := by
  rw [← mul_is p q]
  exact ⟨num_sm (mul_ne (den_ne p) (den_ne q)) (h.1.mul k.1), den_sm (mul_ne (den_ne p) (den_ne q)) (h.2.mul k.2)⟩
end

section
variable {P : Program} {w : World} {K : PySem.W.Frag} {mg : Str → Option Value} {base : Heap}
/-! ### what is a number, a fraction, a moment: of any plain data -/
mutual
def pl : D → Bool
  | .tup ds => pls ds
  | .lst ds => pls ds
  | .scr _ => false
  | .obj _ _ _ => false
  | .ty _ => false
  | .cls _ => false
  | _ => true
def pls : List D → Bool
  | [] => true
  | d :: ds => pl d && pls ds
end
theorem pl_ty {d : D} (h : pl d = true) : (tyD d).isSome = true := by cases d <;> first | rfl | (simp [pl] at h)
theorem pls_cons {d : D} {ds : List D} (h : pls (d :: ds) = true) : pl d = true ∧ pls ds = true := by rw [pls, Bool.and_eq_true] at h; exact h
theorem pls_mem {ds : List D} (h : pls ds = true) : ∀ d ∈ ds, pl d = true := by
  induction ds with
  | nil => intro d m; cases m
  | cons e ds ih =>
    intro d m
    obtain ⟨a, b⟩ := pls_cons h
    rcases List.mem_cons.mp m with rfl | m
    · exact a
    · exact ih b d m
def isInt : D → Bool
  | .int _ => true
  | _ => false
def isFr : D → Bool
  | .tup [.int t, .int b] => decide (1 ≤ b) && decide (Int.gcd t b = 1)
  | _ => false
def isMo : D → Bool
  | .tup [.int t, .int b] => decide (1 ≤ b) && decide (Int.gcd t b = 1) && decide (0 ≤ t)
  | _ => false
theorem isFr_of {d : D} (h : isFr d = true) : ∃ q : Rat, d = fD q := by
  unfold isFr at h
  split at h
  · rename_i t b
    rw [Bool.and_eq_true, decide_eq_true_eq, decide_eq_true_eq] at h
    obtain ⟨h1, h2⟩ := h
    have hb : ((b.toNat : Nat) : Int) = b := by omega
    refine ⟨⟨t, b.toNat, by omega, ?_⟩, ?_⟩
    · show Nat.Coprime t.natAbs b.toNat
      unfold Nat.Coprime
      have : b.toNat = b.natAbs := by omega
      rw [this]
      exact h2
    · show D.tup [.int t, .int b] = .tup [.int t, .int ((b.toNat : Nat) : Int)]
      rw [hb]
  · cases h
theorem isFr_fD (q : Rat) : isFr (fD q) = true := by
  have h1 := den_pos q
  have h2 := num_gcd q
  show (decide (1 ≤ (q.den : Int)) && decide (Int.gcd q.num (q.den : Int) = 1)) = true
  rw [h2, decide_eq_true (by omega : 1 ≤ (q.den : Int))]
  rfl
theorem isMo_fD (q : Rat) : isMo (fD q) = decide (0 ≤ q.num) := by
  have h1 := den_pos q
  have h2 := num_gcd q
  show (decide (1 ≤ (q.den : Int)) && decide (Int.gcd q.num (q.den : Int) = 1) && decide (0 ≤ q.num)) = _
  rw [h2, decide_eq_true (by omega : 1 ≤ (q.den : Int))]
  rfl
def wNumber : PW0 := fun xs cs post _ => ∃ d, xs = [.dat d] ∧ cs = [] ∧ pl d = true ∧ post (.dat (.bl (isInt d))) []
theorem ok_is_number (T : Txt K mg) : FnOk P w K mg base CX0 1 T.a_is_number T.d_is_number ["thing"] (spG K wNumber) := by
  refine T.F_is_number.ok sc_is_number (fun vs H Q E h => spG_len h fun xs cs post exc ⟨a, e, _⟩ => by rw [e]; rfl) (fun cdv A outer s H vs Q E hr h => ⟨_, (pss_one (ps_ret (pe_and (pe_callB call_isi (by rfl) T.m_isinstance (by decide +kernel) (pa_cons (pv 0) (pa_cons (pe_bltn (v := .ty "int") (by rfl) T.m_int (by decide +kernel) rfl) pa_nil))) (pe_one (pe_not (pe_callB call_isi (by rfl) T.m_isinstance (by decide +kernel) (pa_cons (pv 0) (pa_cons (pe_bltn (v := .ty "bool") (by rfl) T.m_bool (by decide +kernel) rfl) pa_nil)))))))), enter h fun F xs cs post hE hw => ?_⟩)
  obtain ⟨d, rfl, rfl, hp, q⟩ := hw
  cases d <;> first
    | (exact Bool.noConfusion (show false = true by simpa [pl] using hp))
    | (walk_at "D"; exact fin_dat rfl q)
def wThing (f : D → Bool) : PW0 := fun xs cs post _ => ∃ d, xs = [.dat d] ∧ cs = [] ∧ pl d = true ∧ post (.dat (.bl (f d))) []
theorem ok_is_fraction (T : Txt K mg) : FnOk P w K mg base CX0 2 T.a_is_fraction T.d_is_fraction ["thing"] (spG K (wThing isFr)) := by
  refine T.F_is_fraction.ok sc_is_fraction (fun vs H Q E h => spG_len h fun xs cs post exc ⟨a, e, _⟩ => by rw [e]; rfl) (fun cdv A outer s H vs Q E hr h => ⟨_, (pss_cons (ps_if (PW.pt (pw_or (pt_not (pt_val (pe_callB call_isi (by rfl) T.m_isinstance (by decide +kernel) (pa_cons (pv 0) (pa_cons (pe_bltn (v := .ty "tuple") (by rfl) T.m_tuple (by decide +kernel) rfl) pa_nil))))) (pw_or1 (pt_cmpR op_ne (pe_callB call_len_seq (by rfl) T.m_len (by decide +kernel) (pa_cons (pv 0) pa_nil)) pe_int (nomark _))))) (pss_one (ps_ret pe_bl)) pss_nil)
      (pss_cons (ps_asg (pv 0) (pg_tup rfl (pgs_cons (pg_name (i := 1) sc_is_fraction.nd rfl (Or.inl rfl)) (pgs_cons (pg_name (i := 2) sc_is_fraction.nd rfl (Or.inl rfl)) pgs_nil))))
      (pss_cons (ps_if (PW.pt (pw_or (pt_not (pt_val (pe_call (ok_is_number T) (hr.mono (by decide)) (by rfl) T.g_is_number T.F_is_number.kp T.b_is_number .nil pass0 (pa_cons (pv 1) pa_nil)))) (pw_or (pt_not (pt_val (pe_call (ok_is_number T) (hr.mono (by decide)) (by rfl) T.g_is_number T.F_is_number.kp T.b_is_number .nil pass0 (pa_cons (pv 2) pa_nil)))) (pw_or1 (pt_cmpR op_lt (pv 2) pe_int (nomark _)))))) (pss_one (ps_ret pe_bl)) pss_nil)
      (pss_one (ps_ret (pe_cmpR op_eq (pe_call (ok_common_divisor T) (hr.mono (by decide)) (by rfl) T.g_common_divisor T.F_common_divisor.kp T.b_common_divisor .nil pass0 (pa_cons (pe_callB call_abs (by rfl) T.m_abs (by decide +kernel) (pa_cons (pv 1) pa_nil)) (pa_cons (pv 2) pa_nil))) pe_int (nomark _))))))), enter h fun F xs cs post hE hw => ?_⟩)
  obtain ⟨d, rfl, rfl, hp, q⟩ := hw
  cases d with
  | tup ds =>
    match ds, hp, q with
    | [], hp, q => walk_at "D"; exact fin_dat rfl q
    | [a], hp, q =>
      rw [show isFr (.tup [a]) = false from by cases a <;> rfl] at q
      walk_at "D"; exact fin_dat rfl q
    | a :: b :: c :: r, hp, q =>
      rw [show isFr (.tup (a :: b :: c :: r)) = false from by cases a <;> first | rfl | (cases b <;> rfl)] at q
      walk_at "D"
      exact fin_dat rfl q
    | [a, b], hp, q =>
      obtain ⟨pa, hp⟩ := pls_cons (show pls [a, b] = true by rw [pl] at hp; exact hp)
      obtain ⟨pb, _⟩ := pls_cons hp
      walk_at "D"
      walk_at "c"
      refine ⟨a, rfl, rfl, pa, rfl, ?_⟩
      cases ha : isInt a with
      | false =>
        walk_at "D"
        rw [show isFr (.tup [a, b]) = false from by cases a <;> first | rfl | cases ha] at q
        exact fin_dat rfl q
      | true =>
        obtain ⟨t, rfl⟩ : ∃ t, a = .int t := by cases a <;> first | exact ⟨_, rfl⟩ | cases ha
        walk_at "D"
        walk_at "c"
        refine ⟨b, rfl, rfl, pb, rfl, ?_⟩
        cases hb : isInt b with
        | false =>
          walk_at "D"
          rw [show isFr (.tup [.int t, b]) = false from by cases b <;> first | rfl | cases hb] at q
          exact fin_dat rfl q
        | true =>
          obtain ⟨n, rfl⟩ : ∃ t, b = .int t := by cases b <;> first | exact ⟨_, rfl⟩ | cases hb
          walk_at "D"
          have e : isFr (.tup [.int t, .int n]) = (decide (1 ≤ n) && decide (Int.gcd t n = 1)) := rfl
          refine ifC (fun c => ?_) (fun c => ?_)
          · have c := of_decide_eq_true c
            rw [e, decide_eq_false (by omega : ¬ 1 ≤ n)] at q
            walk_at "D"
            exact fin_dat rfl q
          · have c := of_decide_eq_false c
            walk_at "D"
            walk_at "c"
            refine ⟨_, _, rfl, rfl, by split <;> omega, by omega, rfl, ?_⟩
            walk_at "D"
            rw [e, decide_eq_true (by omega : 1 ≤ n)] at q
            have g : Int.gcd (if t < 0 then -t else t) n = Int.gcd t n := by split <;> simp [Int.gcd]
            rw [g]
            have e2 : eqS (.int ((Int.gcd t n : Nat) : Int)) (.int 1) = decide (Int.gcd t n = 1) := by
              simp only [eqS]
              exact decide_eq_decide.mpr ⟨fun h => by omega, fun h => by omega⟩
            rw [e2]
            exact fin_dat rfl q
  | obj => rw [pl] at hp; cases hp
  | scr => rw [pl] at hp; cases hp
  | ty => rw [pl] at hp; cases hp
  | cls => rw [pl] at hp; cases hp
  | _ => walk_at "D"; exact fin_dat rfl q
theorem ok_is_moment (T : Txt K mg) : FnOk P w K mg base CX0 3 T.a_is_moment T.d_is_moment ["thing"] (spG K (wThing isMo)) := by
  refine T.F_is_moment.ok sc_is_moment (fun vs H Q E h => spG_len h fun xs cs post exc ⟨a, e, _⟩ => by rw [e]; rfl) (fun cdv A outer s H vs Q E hr h => ⟨_, (pss_one (ps_ret (pe_and (pe_call (ok_is_fraction T) (hr.mono (by decide)) (by rfl) T.g_is_fraction T.F_is_fraction.kp T.b_is_fraction .nil pass0 (pa_cons (pv 0) pa_nil)) (pe_one (pe_cmpR op_ge (pe_ix ix_tup (pv 0) pe_int (fun _ _ => rfl)) pe_int (nomark _)))))), enter h fun F xs cs post hE hw => ?_⟩)
  obtain ⟨d, rfl, rfl, hp, q⟩ := hw
  walk_at "D"
  walk_at "c"
  refine ⟨d, rfl, rfl, hp, rfl, ?_⟩
  cases hf : isFr d with
  | false =>
    walk_at "D"
    rw [show isMo d = false from by
      unfold isFr at hf
      unfold isMo
      split at hf
      · rw [hf]; rfl
      · first | rfl | (split <;> first | rfl | (rename_i h1 _ _; exact absurd rfl (h1 _ _)))] at q
    exact fin_dat rfl q
  | true =>
    obtain ⟨r, rfl⟩ := isFr_of hf
    walk_at "D"
    rw [isMo_fD] at q
    exact fin_dat rfl q
/-! ### whole numbers from low to high -/
def inR (lo hi : Int) : D → Bool
  | .int i => decide (lo ≤ i) && decide (i ≤ hi)
  | _ => false
theorem inR_of {lo hi : Int} {d : D} (h : inR lo hi d = true) : ∃ i, d = .int i ∧ lo ≤ i ∧ i ≤ hi := by
  cases d with
  | int i =>
    have h : (decide (lo ≤ i) && decide (i ≤ hi)) = true := h
    rw [Bool.and_eq_true, decide_eq_true_eq, decide_eq_true_eq] at h
    exact ⟨i, rfl, h.1, h.2⟩
  | _ => cases h
theorem inR_int {lo hi i : Int} (h1 : lo ≤ i) (h2 : i ≤ hi) : inR lo hi (.int i) = true := by
  show (decide (lo ≤ i) && decide (i ≤ hi)) = true
  rw [decide_eq_true h1, decide_eq_true h2]; rfl
def wWhole : PW0 := fun xs cs post _ => ∃ (d : D) (lo hi : Int), xs = [.dat d, .dat (.int lo), .dat (.int hi)] ∧ cs = [] ∧ pl d = true ∧ post (.dat (.bl (inR lo hi d))) []
theorem ok_is_whole (T : Txt K mg) : FnOk P w K mg base CX0 2 T.a_is_whole T.d_is_whole ["thing", "low", "high"] (spG K wWhole) := by
  refine T.F_is_whole.ok sc_is_whole (fun vs H Q E h => spG_len h fun xs cs post exc ⟨a, b, c, e, _⟩ => by rw [e]; rfl) (fun cdv A outer s H vs Q E hr h => ⟨_, (pss_one (ps_ret (pe_and (pe_call (ok_is_number T) (hr.mono (by decide)) (by rfl) T.g_is_number T.F_is_number.kp T.b_is_number .nil pass0 (pa_cons (pv 0) pa_nil)) (pe_one (pe_chainI op_le op_le (pv 1) (pv 0) (pv 2) mn_var mn_var mn_var sh_var))))), enter h fun F xs cs post hE hw => ?_⟩)
  obtain ⟨d, lo, hi, rfl, rfl, hp, q⟩ := hw
  walk_at "D"
  walk_at "c"
  refine ⟨d, rfl, rfl, hp, rfl, ?_⟩
  cases d with
  | int i =>
    walk_at "D"
    refine we_chV ?_
    walk_at "D"
    refine ⟨_, _, _, rfl, rfl, rfl, ?_⟩
    exact fin_dat rfl q
  | _ =>
    walk_at "D"
    exact fin_dat rfl q
/-! ### rows of bytes, numbers in them -/
def isRw : D → Bool
  | .lst ds => ds.all (inR 0 255)
  | _ => false
theorem ok_is_bytes (T : Txt K mg) : FnOk P w K mg base CX0 3 T.a_is_bytes T.d_is_bytes ["thing"] (spG K (wThing isRw)) := by
  refine T.F_is_bytes.ok sc_is_bytes (fun vs H Q E h => spG_len h fun xs cs post exc ⟨a, e, _⟩ => by rw [e]; rfl) (fun cdv A outer s H vs Q E hr h => ⟨_, (pss_cons (ps_if (pt_not (pt_val (pe_callB call_isi (by rfl) T.m_isinstance (by decide +kernel) (pa_cons (pv 0) (pa_cons (pe_bltn (v := .ty "list") (by rfl) T.m_list (by decide +kernel) rfl) pa_nil))))) (pss_one (ps_ret pe_bl)) pss_nil)
      (pss_cons (ps_for PassesOwn.never rfl (pi_list (pv 0)) (pg_name (i := 1) sc_is_bytes.nd rfl (Or.inl rfl))
        (pss_one (ps_if (pt_not (pt_val (pe_call (ok_is_whole T) (hr.mono (by decide)) (by rfl) T.g_is_whole T.F_is_whole.kp T.b_is_whole .nil pass0 (pa_cons (pv 1) (pa_cons pe_int (pa_cons pe_int pa_nil)))))) (pss_one (ps_ret pe_bl)) pss_nil)))
      (pss_one (ps_ret pe_bl)))), enter h fun F xs cs post hE hw => ?_⟩)
  obtain ⟨d, rfl, rfl, hp, q⟩ := hw
  cases d with
  | lst ds =>
    have hp : pls ds = true := by rw [pl] at hp; exact hp
    walk_at "D"
    refine loop_by (fun es ρ => ∃ x, ρ = ⟨[some (.dat (.lst ds)), x], []⟩ ∧ pls es = true ∧ post (.dat (.bl (es.all (inR 0 255)))) []) ⟨none, rfl, hp, q⟩ ?_ ?_
    · rintro ρ ⟨x, rfl, _, q⟩
      refine ⟨.dat _, ?_⟩
      walk_at "D"
      exact fin_dat rfl q
    · rintro e es ρ ⟨x, rfl, hp, q⟩
      obtain ⟨pe, hp⟩ := pls_cons hp
      refine ⟨.dat _, ?_⟩
      walk_at "D"
      walk_at "c"
      refine ⟨e, 0, 255, rfl, rfl, pe, rfl, ?_⟩
      rw [List.all_cons] at q
      cases he : inR 0 255 e with
      | false =>
        rw [he] at q
        walk_at "D"
        exact fin_dat rfl q
      | true =>
        rw [he, Bool.true_and] at q
        walk_at "D"
        exact now ⟨_, rfl, hp, q⟩
  | obj => rw [pl] at hp; cases hp
  | scr => rw [pl] at hp; cases hp
  | ty => rw [pl] at hp; cases hp
  | cls => rw [pl] at hp; cases hp
  | _ => walk_at "D"; exact fin_dat rfl q
def wRefBytes (C : Addr) : PW0 := fun xs cs post exc => ∃ d, xs = [.dat d] ∧ cs = [] ∧ pl d = true ∧ (isRw d = true → post (.dat .non) []) ∧ (isRw d = false → exc C)
theorem ok_refuse_no_bytes (T : Txt K mg) : FnOk P w K mg base (L2.CX P w) 4 T.a_refuse_no_bytes T.d_refuse_no_bytes ["row"] (spG K (wRefBytes T.c_NoBytes)) := by
  refine T.F_refuse_no_bytes.okX sc_refuse_no_bytes (fun vs H Q E h => spG_len h fun xs cs post exc ⟨a, e, _⟩ => by rw [e]; rfl) (fun cdv A outer s H vs Q E hr h => ⟨_, (pss_one (ps_if (pt_not (pt_val (pe_call (ok_is_bytes T) (hr.mono (by decide)) (by rfl) T.g_is_bytes T.F_is_bytes.kp T.b_is_bytes .nil pass0 (pa_cons (pv 0) pa_nil)))) (pss_one (ps_raise rfl (takes_of rfl rfl rfl rfl) (pmk_own PySem.F.excBase_ValueError T.x_NoBytes T.g_NoBytes T.k_NoBytes (raises_own T.bb_NoBytes T.t_NoBytes) rfl))) pss_nil)), enter h fun F xs cs post hE hw => ?_⟩)
  subst hE
  obtain ⟨d, rfl, rfl, hp, q, qx⟩ := hw
  walk_at "D"
  walk_at "c"
  refine ⟨d, rfl, rfl, hp, rfl, ?_⟩
  cases hd : isRw d with
  | false =>
    walk_at "D"
    exact ws_exc fun as σ H G D en => F.hE _ H (qx hd) en.fh en.kx
  | true =>
    walk_at "D"
    exact ⟨rfl, q hd⟩
def lnR : D → Int
  | .lst ds => (ds.length : Int)
  | _ => 0
def wRefPlace (C1 C2 : Addr) : PW0 := fun xs cs post exc => ∃ d e, xs = [.dat d, .dat e] ∧ cs = [] ∧ pl d = true ∧ pl e = true ∧ (isRw d = false → exc C1) ∧ (isRw d = true → inR 0 (lnR d) e = false → exc C2) ∧ (isRw d = true → inR 0 (lnR d) e = true → post (.dat .non) [])
/-! a number's figures -/
def tlN (n : Nat) : List Int := if h : n = 0 then [] else ((128 + n % 128 : Nat) : Int) :: tlN (n / 128)
termination_by n
decreasing_by omega
theorem tlN_0 : tlN 0 = [] := by rw [tlN]; rfl
theorem tlN_s {n : Nat} (h : n ≠ 0) : tlN n = ((128 + n % 128 : Nat) : Int) :: tlN (n / 128) := by rw [tlN, dif_neg h]
def figN (n : Nat) : List Int := (tlN (n / 128)).reverse ++ [((n % 128 : Nat) : Int)]
theorem tlN_len (b n : Nat) (h : n < 128 ^ b) : (tlN n).length ≤ b := by
  induction b generalizing n with
  | zero =>
    have : n = 0 := by simpa using h
    subst this
    rw [tlN_0]; exact Nat.le_refl _
  | succ b ih =>
    by_cases z : n = 0
    · subst z; rw [tlN_0]; exact Nat.zero_le _
    · rw [tlN_s z]
      have := ih (n / 128) (by rw [Nat.pow_succ] at h; omega)
      rw [List.length_cons]; omega
def wWritten (C : Addr) : PW0 := fun xs cs post exc => ∃ d, xs = [.dat d] ∧ cs = [] ∧ pl d = true ∧ (∀ n : Nat, d = .int n → (n : Int) ≤ 10 ^ 60 → post (.new ((figN n).map D.int)) []) ∧ (inR 0 (10 ^ 60) d = false → exc C)
end

/-- one step, texts too -/
local macro_rules | `(tactic| walk_at "s") => `(tactic| first
  | with_reducible refine we_jn ?_
  | with_reducible refine wj_nil ?_
  | with_reducible refine wj_cons ?_
  | with_reducible refine we_fmI ?_
  | with_reducible refine wi_str ?_
  | refine we_bmS ?_
  | refine we_bmS0 ?_
  | refine wm_ti ?_
  | refine wr_ixS ?_ ?_ ?_
  | refine wr_inSg ?_
  | refine wr_ninSg ?_
  | refine we_slS ?_
  | refine wt_truS ?_
  | refine ⟨⟨_, rfl⟩, ?_⟩
  | fail)
local macro_rules | `(tactic| walk_at "S") => `(tactic| repeat (first
  | walk_at "d"
  | refine ifT rfl ?_
  | refine ifF rfl ?_
  | walk_at "s"))
local macro_rules | `(tactic| walk_at "T") => `(tactic| repeat ((fail_if_success (with_reducible refine ws_seq ?_)); first
  | walk_at "d"
  | refine we_dnew ?_
  | refine ifT rfl ?_
  | refine ifF rfl ?_
  | walk_at "s"))
/-- the next statement -/
local macro_rules | `(tactic| walk_at "N") => `(tactic| (walk_at "nr4"; refine ws_seq ?_; walk_at "T"))
section
variable {P : Program} {w : World} {K : PySem.W.Frag} {mg : Str → Option Value} {base : Heap}
/-! ### words of numbers -/
def dg (c : Nat) : Bool := decide (48 ≤ c) && decide (c ≤ 57)
theorem dg_iff {c : Nat} : dg c = true ↔ 48 ≤ c ∧ c ≤ 57 := by unfold dg; rw [Bool.and_eq_true, decide_eq_true_eq, decide_eq_true_eq]
def isNW (l : List Nat) : Bool := !l.isEmpty && l.all dg && decide (l.length ≤ 60) && (l == [48] || l.head? != some 48)
theorem uni_digit {c : Nat} (h : c < 128) : Unicode.isDigit c = dg c := by
  have k : ∀ n : _root_.Fin 128, Unicode.isDigit n.val = dg n.val := by decide +kernel
  exact k ⟨c, h⟩
theorem asc_tl (z : Str) : Txt.isascii z = (TL.tl z).all (fun c => decide (c < 128)) := by
  unfold Txt.isascii
  rw [← Array.all_toList]
theorem dig_tl (z : Str) : Txt.isdigit z = (!(TL.tl z).isEmpty && (TL.tl z).all Unicode.isDigit) := by
  unfold Txt.isdigit
  rw [← Array.all_toList, TL.len_tl, show z.cps.toList = TL.tl z from rfl]
  cases TL.tl z with
  | nil => rfl
  | cons a l => rfl
theorem asc_dig (z : Str) : (Txt.isascii z && Txt.isdigit z) = (!(TL.tl z).isEmpty && (TL.tl z).all dg) := by
  rw [asc_tl, dig_tl, Bool.eq_iff_iff]
  simp only [Bool.and_eq_true, List.all_eq_true, decide_eq_true_eq]
  constructor
  · rintro ⟨h1, h2, h3⟩
    exact ⟨h2, fun c hc => by rw [← uni_digit (h1 c hc)]; exact h3 c hc⟩
  · rintro ⟨h1, h2⟩
    have h3 : ∀ c ∈ TL.tl z, c < 128 := fun c hc => by have := dg_iff.mp (h2 c hc); omega
    exact ⟨h3, h1, fun c hc => by rw [uni_digit (h3 c hc)]; exact h2 c hc⟩
theorem tl_zero : TL.tl ("0" : Str) = [48] := by decide +kernel
theorem tl_slash : TL.tl ("/" : Str) = [47] := by decide +kernel
theorem eq_tl {x y : Str} : x = y ↔ TL.tl x = TL.tl y := ⟨fun h => by rw [h], TL.ext_tl⟩
theorem sw_zero (z : Str) : Txt.startswith z "0" = ((TL.tl z).head? == some 48) := by
  unfold Txt.startswith
  rw [PySem.StrLaws.subAt_eq, TL.len_tl, TL.len_tl, tl_zero]
  cases h : TL.tl z with
  | nil => have h2 : z.cps.toList = [] := h; rw [h2]; rfl
  | cons a l =>
    have h2 : z.cps.toList = a :: l := h
    have h3 : ("0" : Str).cps.toList = [48] := tl_zero
    rw [h2, h3]
    show (decide (0 + 1 ≤ l.length + 1) && ((a :: l).drop 0).take 1 == [48]) = _
    rw [decide_eq_true (by omega)]
    show ([a] == [48]) = (some a == some 48)
    rw [Bool.eq_iff_iff, beq_iff_eq, beq_iff_eq]
    exact ⟨fun h => by injection h with h; rw [h], fun h => by injection h with h; rw [h]⟩
/-- the word's own figures, no more and no less -/
structure Canon (l : List Nat) : Prop where
  ne : l ≠ []
  dg : NumText.AllDigits l
  hd : l = [48] ∨ l.head? ≠ some 48
theorem isNW_iff {l : List Nat} : isNW l = true ↔ Canon l ∧ l.length ≤ 60 := by
  unfold isNW
  simp only [Bool.and_eq_true, Bool.or_eq_true, decide_eq_true_eq, List.all_eq_true, beq_iff_eq, bne_iff_ne, Bool.not_eq_true', List.isEmpty_eq_false_iff]
  constructor
  · rintro ⟨⟨⟨h1, h2⟩, h3⟩, h4⟩
    exact ⟨⟨h1, fun c hc => dg_iff.mp (h2 c hc), h4⟩, h3⟩
  · rintro ⟨⟨h1, h2, h4⟩, h3⟩
    exact ⟨⟨⟨h1, fun c hc => dg_iff.mpr (h2 c hc)⟩, h3⟩, h4⟩
theorem dv_app (p : List Nat) (c : Nat) : NumText.digitsVal (p ++ [c]) = NumText.digitsVal p * 10 + (c - 48) := by
  unfold NumText.digitsVal
  rw [List.foldl_append]
  rfl
theorem all_front {p q : List Nat} (h : NumText.AllDigits (p ++ q)) : NumText.AllDigits p := fun c hc => h c (List.mem_append_left _ hc)
theorem dv_lt : ∀ (n : Nat) (l : List Nat), l.length = n → NumText.AllDigits l → NumText.digitsVal l < 10 ^ n
  | 0, l, h, _ => by rw [List.length_eq_zero_iff.mp h]; decide
  | n + 1, l, h, a => by
    rcases List.eq_nil_or_concat l with rfl | ⟨p, c, rfl⟩
    · cases h
    · rw [List.concat_eq_append] at *
      have hp : p.length = n := by rw [List.length_append] at h; simpa using h
      have ih := dv_lt n p hp (all_front a)
      have hc := a c (List.mem_append_right _ (List.mem_singleton.mpr rfl))
      rw [dv_app, Nat.pow_succ]
      omega
theorem dv_pos : ∀ (n : Nat) (l : List Nat), l.length = n → NumText.AllDigits l → l ≠ [] → l.head? ≠ some 48 → 1 ≤ NumText.digitsVal l
  | 0, l, h, _, ne, _ => absurd (List.length_eq_zero_iff.mp h) ne
  | n + 1, l, h, a, _, hd => by
    rcases List.eq_nil_or_concat l with rfl | ⟨p, c, rfl⟩
    · cases h
    · rw [List.concat_eq_append] at *
      have hp : p.length = n := by rw [List.length_append] at h; simpa using h
      have hc := a c (List.mem_append_right _ (List.mem_singleton.mpr rfl))
      rw [dv_app]
      cases p with
      | nil =>
        have : c ≠ 48 := fun z => hd (by rw [z]; rfl)
        omega
      | cons x r =>
        have ih := dv_pos n (x :: r) hp (all_front a) (fun z => nomatch z) hd
        omega
theorem num_back : ∀ (n : Nat) (l : List Nat), l.length = n → Canon l → TL.numL (NumText.digitsVal l) = l
  | 0, l, h, c => absurd (List.length_eq_zero_iff.mp h) c.ne
  | n + 1, l, h, cn => by
    rcases List.eq_nil_or_concat l with rfl | ⟨p, c, rfl⟩
    · cases h
    · rw [List.concat_eq_append] at *
      have hp : p.length = n := by rw [List.length_append] at h; simpa using h
      have hc := cn.dg c (List.mem_append_right _ (List.mem_singleton.mpr rfl))
      rw [dv_app]
      cases p with
      | nil =>
        have e : NumText.digitsVal [] * 10 + (c - 48) = c - 48 := by show 0 * 10 + (c - 48) = _; omega
        rw [e, TL.numL_lt (by omega)]
        show [48 + (c - 48)] = [c]
        rw [show 48 + (c - 48) = c by omega]
      | cons x r =>
        have hx : (x :: r).head? ≠ some 48 := by
          rcases cn.hd with z | z
          · have := congrArg List.length z
            rw [List.length_append] at this
            simp at this
          · exact z
        have ih := num_back n (x :: r) hp ⟨fun z => (nomatch z), all_front cn.dg, .inr hx⟩
        have pos := dv_pos n (x :: r) hp (all_front cn.dg) (fun z => nomatch z) hx
        rw [TL.numL_step (by omega)]
        have e1 : (NumText.digitsVal (x :: r) * 10 + (c - 48)) / 10 = NumText.digitsVal (x :: r) := by omega
        have e2 : 48 + (NumText.digitsVal (x :: r) * 10 + (c - 48)) % 10 = c := by omega
        rw [e1, e2, ih]
theorem numL_canon (n : Nat) : Canon (TL.numL n) := by
  refine ⟨TL.numL_ne n, TL.numL_digits n, ?_⟩
  induction n using Nat.strongRecOn with
  | _ n ih =>
    by_cases h : n < 10
    · rw [TL.numL_lt h]
      by_cases h0 : n = 0
      · exact .inl (by rw [h0])
      · exact .inr fun z => h0 (by have : 48 + n = 48 := by injection z
                                   omega)
    · rw [TL.numL_step (by omega)]
      refine .inr fun z => ?_
      cases e : TL.numL (n / 10) with
      | nil => exact TL.numL_ne _ e
      | cons c r =>
        rw [e] at z
        have z : some c = some 48 := z
        rcases ih (n / 10) (by omega) with y | y
        · have : n / 10 = 0 := TL.numL_inj (y.trans (TL.numL_lt (n := 0) (by decide)).symm)
          omega
        · exact y (by rw [e]; exact z)
theorem isNW_num {n : Nat} (h : n < 10 ^ 60) : isNW (TL.numL n) = true := isNW_iff.mpr ⟨numL_canon n, TL.numL_len (by decide) h⟩
theorem isNW_lt {l : List Nat} (h : isNW l = true) : NumText.digitsVal l < 10 ^ 60 := by
  obtain ⟨c, hl⟩ := isNW_iff.mp h
  exact Nat.lt_of_lt_of_le (dv_lt _ l rfl c.dg) (Nat.pow_le_pow_right (by decide) hl)
theorem isNW_back {l : List Nat} (h : isNW l = true) : TL.numL (NumText.digitsVal l) = l := num_back _ l rfl (isNW_iff.mp h).1
theorem isNW_int {z : Str} (h : isNW (TL.tl z) = true) : intText? z = some ((NumText.digitsVal (TL.tl z) : Nat) : Int) := by
  obtain ⟨c, hl⟩ := isNW_iff.mp h
  exact intText_digits c.dg c.ne (by rw [TL.len_tl]; omega)
/-- the number that a word tells -/
def numO (l : List Nat) : Option Nat := if isNW l = true then some (NumText.digitsVal l) else none
/-! what stands ahead of the first stroke, and behind it -/
def pre47 (l : List Nat) : List Nat := l.takeWhile (· != 47)
def post47 (l : List Nat) : List Nat := (l.dropWhile (· != 47)).drop 1
theorem split47 : ∀ {l : List Nat}, 47 ∈ l → l = pre47 l ++ 47 :: post47 l ∧ 47 ∉ pre47 l
  | [], h => nomatch h
  | a :: l, h => by
    by_cases e : a = 47
    · subst e
      exact ⟨rfl, fun z => nomatch z⟩
    · have hl : 47 ∈ l := by
        rcases List.mem_cons.mp h with z | z
        · exact absurd z.symm e
        · exact z
      obtain ⟨h1, h2⟩ := split47 hl
      have hb : (a != 47) = true := bne_iff_ne.mpr e
      have e1 : pre47 (a :: l) = a :: pre47 l := by unfold pre47; rw [List.takeWhile_cons, if_pos hb]
      have e2 : post47 (a :: l) = post47 l := by unfold post47; rw [List.dropWhile_cons, if_pos hb]
      rw [e1, e2]
      refine ⟨by rw [List.cons_append, ← h1], fun z => ?_⟩
      rcases List.mem_cons.mp z with z | z
      · exact e z.symm
      · exact h2 z
theorem part_in {z : Str} (h : 47 ∈ TL.tl z) : Txt.partition z "/" = ((⟨(pre47 (TL.tl z)).toArray⟩ : Str), ("/" : Str), (⟨(post47 (TL.tl z)).toArray⟩ : Str)) := by
  obtain ⟨h1, h2⟩ := split47 h
  rw [TL.partition_par z "/" (by rw [tl_slash]; exact fun z => nomatch z), tl_slash]
  have e := TL.par_part1 (s := 47) (S := []) (p := pre47 (TL.tl z)) (rest := post47 (TL.tl z)) (acc := []) h2
  have e2 : pre47 (TL.tl z) ++ ([47] ++ post47 (TL.tl z)) = TL.tl z := h1.symm
  rw [e2] at e
  rw [e]
  rfl
theorem part_no {z : Str} (h : 47 ∉ TL.tl z) : Txt.partition z "/" = (z, Str.empty, Str.empty) := TL.partition_none (s := 47) (S := []) tl_slash h
theorem index_in {z : Str} (h : 47 ∈ TL.tl z) : idx0 z "/" = some (pre47 (TL.tl z)).length := by
  obtain ⟨h1, h2⟩ := split47 h
  have hat : ∀ i, StrLaws.At z "/" z.length i ↔ TL.pre [47] ((TL.tl z).drop i) = true := fun i => by
    rw [TL.at_iff (by rw [tl_slash]; exact fun z => nomatch z), tl_slash]
  have p0 : TL.pre [47] ((TL.tl z).drop (pre47 (TL.tl z)).length) = true := by
    have : (TL.tl z).drop (pre47 (TL.tl z)).length = 47 :: post47 (TL.tl z) := by
      conv => lhs; arg 2; rw [h1]
      exact List.drop_left
    rw [this]
    exact TL.pre_self [47] _
  unfold idx0
  rcases StrLaws.occ_head z "/" 1 (Nat.le_refl 1) with ⟨_, hn⟩ | ⟨i, r, h0, hi, hn⟩
  · exact absurd ((hat _).mpr p0) (hn _)
  · rw [h0]
    show some i = _
    congr 1
    rcases Nat.lt_trichotomy i (pre47 (TL.tl z)).length with lt | eq | gt
    · have hp := (hat i).mp hi
      have hf := TL.free_of (s := 47) (S := []) (p := pre47 (TL.tl z)) (q := 47 :: post47 (TL.tl z)) h2 i lt
      rw [← h1, hp] at hf
      cases hf
    · exact eq
    · exact absurd ((hat _).mpr p0) (hn _ gt)
theorem cut_front {z : Str} {k : Nat} (h : k ≤ z.length) : TL.tl (cutS z none (some (k : Int))) = (TL.tl z).take k := by
  show ((TL.tl z).drop 0).take ((if (k : Int) < 0 then ((k : Int) + z.length).toNat else min (k : Int).toNat z.length) - 0) = _
  rw [if_neg (by omega), List.drop_zero, Int.toNat_natCast, Nat.min_eq_left h, Nat.sub_zero]
theorem cut_back {z : Str} {k : Nat} (h : k ≤ z.length) : TL.tl (cutS z (some (k : Int)) none) = (TL.tl z).drop k := by
  show ((TL.tl z).drop (if (k : Int) < 0 then ((k : Int) + z.length).toNat else min (k : Int).toNat z.length)).take (z.length - (if (k : Int) < 0 then ((k : Int) + z.length).toNat else min (k : Int).toNat z.length)) = _
  rw [if_neg (by omega), Int.toNat_natCast, Nat.min_eq_left h]
  exact List.take_of_length_le (by rw [List.length_drop, TL.len_tl]; exact Nat.le_refl _)
theorem pre_le {z : Str} (h : 47 ∈ TL.tl z) : (pre47 (TL.tl z)).length + 1 ≤ z.length := by
  rw [TL.len_tl]
  conv => rhs; rw [(split47 h).1]
  rw [List.length_append, List.length_cons]
  omega
theorem cut_pre {z : Str} (h : 47 ∈ TL.tl z) : TL.tl (cutS z none (some (((pre47 (TL.tl z)).length : Nat) : Int))) = pre47 (TL.tl z) := by
  rw [cut_front (by have := pre_le h; omega)]
  conv => lhs; arg 2; rw [(split47 h).1]
  exact List.take_left
theorem cut_post {z : Str} (h : 47 ∈ TL.tl z) : TL.tl (cutS z (some (((pre47 (TL.tl z)).length : Nat) + 1 : Int)) none) = post47 (TL.tl z) := by
  have e := cut_back (k := (pre47 (TL.tl z)).length + 1) (pre_le h)
  rw [show (((pre47 (TL.tl z)).length + 1 : Nat) : Int) = ((pre47 (TL.tl z)).length : Int) + 1 by omega] at e
  rw [e]
  conv => lhs; arg 2; rw [(split47 h).1]
  rw [← List.drop_drop, List.drop_left]
  rfl
/-- the moment that a word tells -/
def momO (l : List Nat) : Option (Nat × Nat) :=
  if 47 ∈ l then (match numO (pre47 l), numO (post47 l) with
    | some t, some b => if 2 ≤ b ∧ Nat.gcd t b = 1 then some (t, b) else none
    | _, _ => none)
  else (numO l).map fun t => (t, 1)
def momW (t b : Nat) : List Nat := if b = 1 then TL.numL t else TL.numL t ++ 47 :: TL.numL b
theorem tl_numS (n : Nat) : TL.tl (numS (n : Int)) = TL.numL n := TL.tl_num n
def fracW (t b : Int) : Str := if b = 1 then numS t else numS t ++ "/" ++ numS b
theorem tl_fracW (t b : Nat) : TL.tl (fracW t b) = momW t b := by
  unfold fracW momW
  by_cases h : b = 1
  · rw [if_pos (by omega), if_pos h, tl_numS]
  · rw [if_neg (by omega), if_neg h, TL.tl_append, TL.tl_append, tl_numS, tl_numS, tl_slash, List.append_assoc]
    rfl
theorem split_at {p q : List Nat} (h : 47 ∉ p) : pre47 (p ++ 47 :: q) = p ∧ post47 (p ++ 47 :: q) = q := by
  induction p with
  | nil => exact ⟨rfl, rfl⟩
  | cons a p ih =>
    have ha : (a != 47) = true := bne_iff_ne.mpr fun z => h (by rw [z]; exact List.mem_cons_self)
    obtain ⟨h1, h2⟩ := ih fun z => h (List.mem_cons_of_mem _ z)
    refine ⟨?_, ?_⟩
    · show pre47 (a :: (p ++ 47 :: q)) = _
      have e1 : pre47 (a :: (p ++ 47 :: q)) = a :: pre47 (p ++ 47 :: q) := by unfold pre47; rw [List.takeWhile_cons, if_pos ha]
      rw [e1, h1]
    · show post47 (a :: (p ++ 47 :: q)) = _
      have e2 : post47 (a :: (p ++ 47 :: q)) = post47 (p ++ 47 :: q) := by unfold post47; rw [List.dropWhile_cons, if_pos ha]
      rw [e2, h2]
theorem numO_num {n : Nat} (h : n < 10 ^ 60) : numO (TL.numL n) = some n := by unfold numO; rw [if_pos (isNW_num h), TL.numL_val]
theorem mom_word {t b : Nat} (ht : t < 10 ^ 60) (hb : b < 10 ^ 60) (b1 : 1 ≤ b) (g : Nat.gcd t b = 1) : momO (momW t b) = some (t, b) := by
  have f : ∀ n, 47 ∉ TL.numL n := fun n => TL.numL_free (.inl (by decide))
  unfold momW momO
  by_cases h : b = 1
  · rw [if_pos h, if_neg (f t), numO_num ht, h]
    rfl
  · rw [if_neg h, if_pos (List.mem_append_right _ List.mem_cons_self), (split_at (f t)).1, (split_at (f t)).2, numO_num ht, numO_num hb]
    exact if_pos ⟨by omega, g⟩
theorem momO_lt {l : List Nat} {t b : Nat} (h : momO l = some (t, b)) : t < 10 ^ 60 ∧ b < 10 ^ 60 ∧ 1 ≤ b ∧ Nat.gcd t b = 1 ∧ momW t b = l := by
  unfold momO at h
  by_cases hs : 47 ∈ l
  · rw [if_pos hs] at h
    unfold numO at h
    by_cases h1 : isNW (pre47 l) = true
    · by_cases h2 : isNW (post47 l) = true
      · rw [if_pos h1, if_pos h2] at h
        have h : (if 2 ≤ NumText.digitsVal (post47 l) ∧ Nat.gcd (NumText.digitsVal (pre47 l)) (NumText.digitsVal (post47 l)) = 1 then some (NumText.digitsVal (pre47 l), NumText.digitsVal (post47 l)) else none) = some (t, b) := h
        by_cases hg : 2 ≤ NumText.digitsVal (post47 l) ∧ Nat.gcd (NumText.digitsVal (pre47 l)) (NumText.digitsVal (post47 l)) = 1
        · rw [if_pos hg] at h
          cases h
          refine ⟨isNW_lt h1, isNW_lt h2, by omega, hg.2, ?_⟩
          unfold momW
          rw [if_neg (by omega), isNW_back h1, isNW_back h2]
          exact (split47 hs).1.symm
        · rw [if_neg hg] at h; cases h
      · rw [if_pos h1, if_neg h2] at h; cases h
    · rw [if_neg h1] at h
      cases (if isNW (post47 l) = true then some (NumText.digitsVal (post47 l)) else none) <;> cases h
  · rw [if_neg hs] at h
    unfold numO at h
    by_cases h1 : isNW l = true
    · rw [if_pos h1] at h
      cases h
      refine ⟨isNW_lt h1, by decide, Nat.le_refl _, Nat.gcd_one_right _, ?_⟩
      unfold momW
      rw [if_pos rfl, isNW_back h1]
    · rw [if_neg h1] at h; cases h
/-! ### bytes as figures -/
def hexF : Str := "0123456789abcdef"
theorem tl_hex : TL.tl hexF = [48, 49, 50, 51, 52, 53, 54, 55, 56, 57, 97, 98, 99, 100, 101, 102] := by decide +kernel
def isHx (c : Nat) : Bool := dg c || (decide (97 ≤ c) && decide (c ≤ 102))
theorem in_hex (c : Nat) : decide (c ∈ TL.tl hexF) = isHx c := by
  rw [tl_hex, Bool.eq_iff_iff, decide_eq_true_eq]
  unfold isHx
  rw [Bool.or_eq_true, dg_iff, Bool.and_eq_true, decide_eq_true_eq, decide_eq_true_eq]
  simp only [List.mem_cons, List.not_mem_nil, or_false]
  omega
theorem tl_dec : TL.tl ("0123456789" : Str) = [48, 49, 50, 51, 52, 53, 54, 55, 56, 57] := by decide +kernel
theorem in_dec (c : Nat) : decide (c ∈ TL.tl ("0123456789" : Str)) = dg c := by
  rw [tl_dec, Bool.eq_iff_iff, decide_eq_true_eq, dg_iff]
  simp only [List.mem_cons, List.not_mem_nil, or_false]
  omega
theorem isHex_of {c : Nat} (h : isHx c = true) : Hx.IsHex c := by
  unfold isHx at h
  rw [Bool.or_eq_true, dg_iff, Bool.and_eq_true, decide_eq_true_eq, decide_eq_true_eq] at h
  rcases h with h | h
  · exact .inl h
  · exact .inr (.inl h)
def hvI (c : Nat) : Int := if isHx c = true then ((Hx.hv c : Nat) : Int) else -1
def hexD (v : Nat) : Nat := (TL.tl hexF).getD v 0
theorem hexD_hv {v : Nat} (h : v < 16) : isHx (hexD v) = true ∧ Hx.hv (hexD v) = v := by
  have k : ∀ n : _root_.Fin 16, isHx (hexD n.val) = true ∧ Hx.hv (hexD n.val) = n.val := by decide +kernel
  exact k ⟨v, h⟩
theorem hexD_at {v : Nat} (h : v < 16) : (TL.tl hexF)[v]? = some (hexD v) := by
  have k : ∀ n : _root_.Fin 16, (TL.tl hexF)[n.val]? = some (hexD n.val) := by decide +kernel
  exact k ⟨v, h⟩
theorem hv_hexD {c : Nat} (h : isHx c = true) : hexD (Hx.hv c) = c := by
  have hm : c ∈ TL.tl hexF := of_decide_eq_true (by rw [in_hex]; exact h)
  obtain ⟨i, hi⟩ := List.mem_iff_getElem?.mp hm
  have hl : i < 16 := by
    have := (List.getElem?_eq_some_iff.mp hi).1
    rw [tl_hex] at this
    exact this
  have e := hexD_at hl
  rw [hi] at e
  cases e
  rw [(hexD_hv hl).2]
theorem find_hex (c : Nat) : Txt.find hexF (sg1 c) = hvI c := by
  have ts : TL.tl (sg1 c) = [c] := rfl
  have hat : ∀ i, StrLaws.At hexF (sg1 c) hexF.length i ↔ TL.pre [c] ((TL.tl hexF).drop i) = true := fun i => by
    rw [TL.at_iff (by rw [ts]; exact fun z => nomatch z), ts]
  rcases PyProof.Rows.find_whole hexF (sg1 c) with ⟨e, hn⟩ | ⟨i, e, hi, _⟩
  · rw [e]
    unfold hvI
    rw [if_neg]
    intro h
    have hm : c ∈ TL.tl hexF := of_decide_eq_true (by rw [in_hex]; exact h)
    obtain ⟨i, hi⟩ := List.mem_iff_getElem?.mp hm
    refine hn i ((hat i).mpr ?_)
    obtain ⟨hl, he⟩ := List.getElem?_eq_some_iff.mp hi
    rw [List.drop_eq_getElem_cons hl, he]
    exact TL.pre_self [c] _
  · rw [e]
    have hp := (hat i).mp hi
    have hi2 : (TL.tl hexF)[i]? = some c := by
      cases w : (TL.tl hexF).drop i with
      | nil => rw [w] at hp; cases hp
      | cons d r =>
        rw [w] at hp
        have e1 : (d :: r).take [c].length = [c] := eq_of_beq hp
        have e2 : d = c := by
          have e3 : [d] = [c] := e1
          injection e3
        rw [← e2, ← List.head?_drop, w]
        rfl
    have hl : i < 16 := by
      have := (List.getElem?_eq_some_iff.mp hi2).1
      rw [tl_hex] at this
      exact this
    have ee := hexD_at hl
    rw [hi2] at ee
    cases ee
    unfold hvI
    rw [if_pos (hexD_hv hl).1, (hexD_hv hl).2]
theorem hv_lt16 {c : Nat} (h : isHx c = true) : Hx.hv c < 16 := Hx.hv_lt (isHex_of h)
/-- figures, two by two -/
def pairsB : List Nat → List Int
  | a :: b :: r => (((Hx.hv a : Nat) : Int) * 16 + ((Hx.hv b : Nat) : Int)) :: pairsB r
  | _ => []
theorem pairs_len : ∀ (n : Nat) (l : List Nat), l.length ≤ n → (pairsB l).length = l.length / 2
  | _, [], _ => by simp [pairsB]
  | _, [_], _ => by simp [pairsB]
  | 0, _ :: _ :: _, h => by simp at h
  | n + 1, a :: b :: r, h => by
    have h : r.length + 1 + 1 ≤ n + 1 := h
    have ih := pairs_len n r (by omega)
    show (pairsB r).length + 1 = (r.length + 1 + 1) / 2
    omega
theorem pairs_get : ∀ (i : Nat) (l : List Nat) (a b : Nat), l[2 * i]? = some a → l[2 * i + 1]? = some b → (pairsB l)[i]? = some (((Hx.hv a : Nat) : Int) * 16 + ((Hx.hv b : Nat) : Int))
  | _, [], _, _, h, _ => by simp at h
  | 0, [_], _, _, _, h => by simp at h
  | i + 1, [_], _, _, h, _ => by simp at h
  | 0, x :: y :: r, a, b, h1, h2 => by
    have e1 : x = a := by simpa using h1
    have e2 : y = b := by simpa using h2
    subst e1 e2
    rfl
  | i + 1, x :: y :: r, a, b, h1, h2 => by
    have e1 : 2 * (i + 1) = (2 * i + 1) + 1 := by omega
    have e2 : 2 * (i + 1) + 1 = (2 * i + 1 + 1) + 1 := by omega
    rw [e1, List.getElem?_cons_succ, List.getElem?_cons_succ] at h1
    rw [e2, List.getElem?_cons_succ, List.getElem?_cons_succ] at h2
    exact pairs_get i r a b h1 h2
def rowO (l : List Nat) : Option (List Int) := if l.length % 2 = 1 ∨ l.all isHx = false then none else some (pairsB l)
/-- two figures of a byte -/
def hx2 (b : Int) : Str := sg1 (hexD (b / 16).toNat) ++ sg1 (hexD (b % 16).toNat)
def hexT (row : List Int) : Str := Txt.join "" (row.map hx2)
theorem joinL_nil : ∀ ps : List (List Nat), TL.joinL [] ps = ps.flatten
  | [] => rfl
  | [p] => by simp [TL.joinL]
  | p :: q :: r => by
    show p ++ ([] ++ TL.joinL [] (q :: r)) = _
    rw [joinL_nil (q :: r)]
    simp
theorem tl_hx2 (b : Int) : TL.tl (hx2 b) = [hexD (b / 16).toNat, hexD (b % 16).toNat] := by
  unfold hx2
  rw [TL.tl_append]
  rfl
theorem tl_hexT (row : List Int) : TL.tl (hexT row) = (row.map fun b => [hexD (b / 16).toNat, hexD (b % 16).toNat]).flatten := by
  unfold hexT
  rw [TL.join_eq, TL.tl_join, show TL.tl ("" : Str) = [] from rfl, joinL_nil, List.map_map]
  exact congrArg List.flatten (List.map_congr_left fun b _ => tl_hx2 b)
theorem row_back : ∀ {row : List Int}, (∀ b ∈ row, 0 ≤ b ∧ b ≤ 255) → (row.map fun b => [hexD (b / 16).toNat, hexD (b % 16).toNat]).flatten.length = 2 * row.length ∧ ((row.map fun b => [hexD (b / 16).toNat, hexD (b % 16).toNat]).flatten).all isHx = true ∧ pairsB ((row.map fun b => [hexD (b / 16).toNat, hexD (b % 16).toNat]).flatten) = row
  | [], _ => ⟨rfl, rfl, rfl⟩
  | b :: row, h => by
    obtain ⟨i1, i2, i3⟩ := row_back (row := row) fun x hx => h x (List.mem_cons_of_mem _ hx)
    have hb := h b List.mem_cons_self
    have a1 := hexD_hv (v := (b / 16).toNat) (by omega)
    have a2 := hexD_hv (v := (b % 16).toNat) (by omega)
    rw [List.map_cons, List.flatten_cons]
    refine ⟨by rw [List.length_append, i1, List.length_cons]; simp; omega, ?_, ?_⟩
    · rw [List.all_append, i2]
      show ((isHx _ && (isHx _ && true)) && true) = true
      rw [a1.1, a2.1]; rfl
    · show (((Hx.hv (hexD (b / 16).toNat) : Nat) : Int) * 16 + ((Hx.hv (hexD (b % 16).toNat) : Nat) : Int)) :: pairsB ((row.map fun b => [hexD (b / 16).toNat, hexD (b % 16).toNat]).flatten) = _
      rw [i3, a1.2, a2.2]
      congr 1
      omega
theorem row_hex {row : List Int} (h : ∀ b ∈ row, 0 ≤ b ∧ b ≤ 255) : rowO (TL.tl (hexT row)) = some row := by
  obtain ⟨i1, i2, i3⟩ := row_back h
  unfold rowO
  rw [tl_hexT, if_neg (by rw [i1, i2]; rintro (z | z); · omega
                          · cases z), i3]
theorem hexT_len {row : List Int} (h : ∀ b ∈ row, 0 ≤ b ∧ b ≤ 255) : (hexT row).length = 2 * row.length := by
  rw [TL.len_tl, tl_hexT]
  exact (row_back h).1
/-! ### words of numbers and moments, bytes as texts: the program -/
def wRefMom (C : Addr) : PW0 := fun xs cs post exc => ∃ d, xs = [.dat d] ∧ cs = [] ∧ pl d = true ∧ (isMo d = true → post (.dat .non) []) ∧ (isMo d = false → exc C)
theorem ok_refuse_no_moment (T : Txt K mg) : FnOk P w K mg base (L2.CX P w) 4 T.a_refuse_no_moment T.d_refuse_no_moment ["thing"] (spG K (wRefMom T.c_NoMoment)) := by
  refine T.F_refuse_no_moment.okX sc_refuse_no_moment (fun vs H Q E h => spG_len h fun xs cs post exc ⟨a, e, _⟩ => by rw [e]; rfl) (fun cdv A outer s H vs Q E hr h => ⟨_, (pss_one (ps_if (pt_not (pt_val (pe_call (ok_is_moment T) (hr.mono (by decide)) (by rfl) T.g_is_moment T.F_is_moment.kp T.b_is_moment .nil pass0 (pa_cons (pv 0) pa_nil)))) (pss_one (ps_raise rfl (takes_of rfl rfl rfl rfl) (pmk_own PySem.F.excBase_ValueError T.x_NoMoment T.g_NoMoment T.k_NoMoment (raises_own T.bb_NoMoment T.t_NoMoment) rfl))) pss_nil)), enter h fun F xs cs post hE hw => ?_⟩)
  subst hE
  obtain ⟨d, rfl, rfl, hp, q, qx⟩ := hw
  walk_at "D"
  walk_at "c"
  refine ⟨d, rfl, rfl, hp, rfl, ?_⟩
  cases hd : isMo d with
  | false =>
    walk_at "D"
    exact ws_exc fun as σ H G D en => F.hE _ H (qx hd) en.fh en.kx
  | true =>
    walk_at "D"
    exact ⟨rfl, q hd⟩
theorem isNW_z (z : Str) : isNW (TL.tl z) = (Txt.isascii z && Txt.isdigit z && decide (z.length ≤ 60) && (decide (z = "0") || !Txt.startswith z "0")) := by
  rw [asc_dig, sw_zero, TL.len_tl]
  unfold isNW
  have e : decide (z = "0") = (TL.tl z == [48]) := by
    rw [Bool.eq_iff_iff, decide_eq_true_eq, beq_iff_eq, eq_tl, tl_zero]
  rw [e]
  rfl
theorem wm_tbG {K : PySem.W.Frag} {F : Fx} {ρ : En} {k : AV → En → Prop} {f : Str → Bool} {z : Str} (hk : ∀ b, f z = b → k (.dat (.bl b)) ρ) : WpM K F (fun x xs H Q => ∃ a, x = .str a ∧ xs = [] ∧ True ∧ Q (.bl (f a)) H) (.dat (.str z)) [] ρ k := wm_tb (hk _ rfl)
theorem wm_ttG {K : PySem.W.Frag} {F : Fx} {ρ : En} {k : AV → En → Prop} {f : Str → Str → Bool} {z y : Str} (hk : ∀ b, f z y = b → k (.dat (.bl b)) ρ) : WpM K F (fun x xs H Q => ∃ a b, x = .str a ∧ xs = [.str b] ∧ Q (.bl (f a b)) H) (.dat (.str z)) [.dat (.str y)] ρ k := wm_tt (hk _ rfl)
def wIsNW : PW0 := fun xs cs post _ => ∃ z : Str, xs = [.dat (.str z)] ∧ cs = [] ∧ z.length ≤ 100000 ∧ post (.dat (.bl (isNW (TL.tl z)))) []
theorem ok_is_number_word (T : Txt K mg) : FnOk P w K mg base CX0 1 T.a_is_number_word T.d_is_number_word ["word"] (spG K wIsNW) := by
  refine T.F_is_number_word.ok sc_is_number_word (fun vs H Q E h => spG_len h fun xs cs post exc ⟨a, e, _⟩ => by rw [e]; rfl) (fun cdv A outer s H vs Q E hr h => ⟨_, (pss_cons (ps_if (PW.pt (pw_or (pt_not (pt_val (pe_bm0 PySem.F.plainAttrs_str PySem.F.slot_str_isascii PySem.F.type_str_isascii mt_isascii (pv 0)))) (pw_or (pt_not (pt_val (pe_bm0 PySem.F.plainAttrs_str PySem.F.slot_str_isdigit PySem.F.type_str_isdigit mt_isdigit (pv 0)))) (pw_or1 (pt_cmpR op_gt (pe_callB call_len_str (by rfl) T.m_len (by decide +kernel) (pa_cons (pv 0) pa_nil)) (pe_glob (v := .int 60) (by rfl) T.g_MOST_FIGURES ⟨_, rfl⟩) (nomark _)))))) (pss_one (ps_ret pe_bl)) pss_nil)
      (pss_one (ps_ret (pe_or (pe_cmpR op_eq (pv 0) pe_str (nomark _)) (pe_one (pe_not (pe_bm PySem.F.plainAttrs_str PySem.F.slot_str_startswith PySem.F.type_str_startswith mt_startswith (pv 0) (pa_cons pe_str pa_nil)))))))), enter h fun F xs cs post hE hw => ?_⟩)
  obtain ⟨z, rfl, rfl, hl, q⟩ := hw
  have hsl := sizeLine_eq
  rw [isNW_z] at q
  walk_at "S"
  refine wm_tbG fun b1 h1 => ?_
  rw [h1] at q
  cases b1 with
  | false =>
    walk_at "S"
    exact fin_dat rfl q
  | true =>
    walk_at "S"
    refine wm_tbG fun b2 h2 => ?_
    rw [h2] at q
    cases b2 with
    | false =>
      walk_at "S"
      exact fin_dat rfl q
    | true =>
      walk_at "S"
      refine wc_lenS (by omega) ?_
      walk_at "S"
      refine ifC (fun c => ?_) (fun c => ?_)
      · have c := of_decide_eq_true c
        rw [decide_eq_false (by omega : ¬ z.length ≤ 60)] at q
        walk_at "S"
        exact fin_dat rfl q
      · have c := of_decide_eq_false c
        rw [decide_eq_true (by omega : z.length ≤ 60)] at q
        walk_at "S"
        refine ifC (fun c => ?_) (fun c => ?_)
        · have c : decide (z = "0") = true := c
          rw [c] at q
          walk_at "S"
          exact fin_dat rfl q
        · have c : decide (z = "0") = false := c
          rw [c] at q
          walk_at "S"
          refine wm_ttG fun b3 h3 => ?_
          rw [h3] at q
          walk_at "S"
          exact fin_dat rfl q
def wNumOf (C : Addr) : PW0 := fun xs cs post exc => ∃ z : Str, xs = [.dat (.str z)] ∧ cs = [] ∧ z.length ≤ 100000 ∧ (∀ n : Nat, numO (TL.tl z) = some n → post (.dat (.int (n : Int))) []) ∧ (numO (TL.tl z) = none → exc C)
theorem ok_number_of (T : Txt K mg) : FnOk P w K mg base (L2.CX P w) 2 T.a_number_of T.d_number_of ["word"] (spG K (wNumOf T.c_NoText)) := by
  refine T.F_number_of.okX sc_number_of (fun vs H Q E h => spG_len h fun xs cs post exc ⟨a, e, _⟩ => by rw [e]; rfl) (fun cdv A outer s H vs Q E hr h => ⟨_, (pss_cons (ps_if (pt_not (pt_val (pe_call (ok_is_number_word T) (hr.mono (by decide)) (by rfl) T.g_is_number_word T.F_is_number_word.kp T.b_is_number_word .nil pass0 (pa_cons (pv 0) pa_nil)))) (pss_one (ps_raise rfl (takes_of rfl rfl rfl rfl) (pmk_own PySem.F.excBase_ValueError T.x_NoText T.g_NoText T.k_NoText (raises_own T.bb_NoText T.t_NoText) rfl))) pss_nil)
      (pss_one (ps_ret (pe_callTy call_int_str (by rfl) T.m_int (by decide +kernel) (pa_cons (pv 0) pa_nil))))), enter h fun F xs cs post hE hw => ?_⟩)
  subst hE
  obtain ⟨z, rfl, rfl, hl, q, qx⟩ := hw
  unfold numO at q qx
  walk_at "S"
  walk_at "c"
  refine ⟨z, rfl, rfl, hl, rfl, ?_⟩
  cases hd : isNW (TL.tl z) with
  | false =>
    walk_at "S"
    exact ws_exc fun as σ H G D en => F.hE _ H (qx (if_neg (by rw [hd]; exact Bool.false_ne_true))) en.fh en.kx
  | true =>
    walk_at "S"
    refine wc_intS (isNW_int hd) (by have := (isNW_iff.mp hd).2; rw [TL.len_tl]; omega) ?_
    exact fin_dat rfl (q _ (if_pos hd))
/-- small enough to be written -/
def SmN (t : Int) : Prop := 0 ≤ t ∧ t < 10 ^ 200
theorem SmN.nat {t : Int} (h : SmN t) : ∃ n : Nat, t = n ∧ n < 10 ^ 200 := by
  obtain ⟨h0, h1⟩ := h
  obtain ⟨n, rfl⟩ := Int.eq_ofNat_of_zero_le h0
  refine ⟨n, rfl, ?_⟩
  have e : ((10 ^ 200 : Nat) : Int) = 10 ^ 200 := by decide +kernel
  have h2 : (n : Int) < ((10 ^ 200 : Nat) : Int) := by rw [e]; exact h1
  exact Int.ofNat_lt.mp h2
theorem SmN.log {t : Int} (h : SmN t) : t.natAbs.log2 < 1920 := by
  obtain ⟨n, rfl, hn⟩ := h.nat
  rw [Int.natAbs_natCast]
  by_cases z : n = 0
  · rw [z]; decide
  · have h2 : n < 2 ^ 700 := Nat.lt_of_lt_of_le hn (by decide +kernel)
    have h5 : n.log2 < 700 := (Nat.log2_lt z).mpr h2
    omega
theorem SmN.len {t : Int} (h : SmN t) : (numS t).length ≤ 200 := by
  obtain ⟨n, rfl, hn⟩ := h.nat
  rw [TL.len_tl, tl_numS]
  exact TL.numL_len (by decide) hn
theorem app_len (x y : Str) : (x ++ y).length = x.length + y.length := by
  rw [TL.len_tl, TL.tl_append, List.length_append, TL.len_tl, TL.len_tl]
theorem emp_app (x : Str) : Str.empty ++ x = x := TL.ext_tl (by rw [TL.tl_append]; rfl)
def wFracW : PW0 := fun xs cs post _ => ∃ t b : Int, xs = [.dat (.tup [.int t, .int b])] ∧ cs = [] ∧ SmN t ∧ SmN b ∧ post (.dat (.str (fracW t b))) []
theorem ok_fraction_word (T : Txt K mg) : FnOk P w K mg base CX0 1 T.a_fraction_word T.d_fraction_word ["told"] (spG K wFracW) := by
  refine T.F_fraction_word.ok sc_fraction_word (fun vs H Q E h => spG_len h fun xs cs post exc ⟨a, b, e, _⟩ => by rw [e]; rfl) (fun cdv A outer s H vs Q E hr h => ⟨_, (pss_cons (ps_asg (pv 0) (pg_tup rfl (pgs_cons (pg_name (i := 1) sc_fraction_word.nd rfl (Or.inl rfl)) (pgs_cons (pg_name (i := 2) sc_fraction_word.nd rfl (Or.inl rfl)) pgs_nil))))
      (pss_one (ps_ret (pe_ifExp (pt_cmpR op_eq (pv 2) pe_int (nomark _)) (pe_callTy call_str_int (by rfl) T.m_str (by decide +kernel) (pa_cons (pv 1) pa_nil)) (pe_joinedD (.cons (pe_fmt (pv 1)) (.cons pe_str (.cons (pe_fmt (pv 2)) .nil)))))))), enter h fun F xs cs post hE hw => ?_⟩)
  obtain ⟨t, b, rfl, rfl, st, sb, q⟩ := hw
  have hsl := sizeLine_eq
  have l1 := st.len
  have l2 := sb.len
  unfold fracW at q
  walk_at "S"
  refine ifC (fun c => ?_) (fun c => ?_)
  · have c : decide (b = 1) = true := c
    rw [if_pos (of_decide_eq_true c)] at q
    walk_at "S"
    refine wc_strI st.log ?_
    exact fin_dat rfl q
  · have c : decide (b = 1) = false := c
    rw [if_neg (of_decide_eq_false c)] at q
    refine we_jn ?_
    walk_at "nr4"
    with_reducible refine wj_cons ?_
    with_reducible refine we_fmI ?_
    walk_at "d"
    refine ⟨_, rfl, st.log, _, rfl, ?_, ?_⟩
    · rw [emp_app]; omega
    rw [emp_app]
    with_reducible refine wj_cons ?_
    walk_at "d"
    refine ⟨_, rfl, ?_, ?_⟩
    · rw [app_len]; show _ + 1 ≤ _; omega
    with_reducible refine wj_cons ?_
    with_reducible refine we_fmI ?_
    walk_at "d"
    refine ⟨_, rfl, sb.log, _, rfl, ?_, ?_⟩
    · rw [app_len, app_len]; show _ + 1 + _ ≤ _; omega
    with_reducible refine wj_nil ?_
    exact fin_dat rfl q
def wMomW (C : Addr) : PW0 := fun xs cs post exc => ∃ d, xs = [.dat d] ∧ cs = [] ∧ pl d = true ∧ (isMo d = false → exc C) ∧ (isMo d = true → ∃ t b, d = .tup [.int t, .int b] ∧ SmN t ∧ SmN b ∧ post (.dat (.str (fracW t b))) [])
theorem ok_moment_word (T : Txt K mg) : FnOk P w K mg base (L2.CX P w) 5 T.a_moment_word T.d_moment_word ["moment"] (spG K (wMomW T.c_NoMoment)) := by
  refine T.F_moment_word.okX sc_moment_word (fun vs H Q E h => spG_len h fun xs cs post exc ⟨a, e, _⟩ => by rw [e]; rfl) (fun cdv A outer s H vs Q E hr h => ⟨_, (pss_cons (ps_expr (pe_call (ok_refuse_no_moment T) (hr.mono (by decide)) (by rfl) T.g_refuse_no_moment T.F_refuse_no_moment.kp T.b_refuse_no_moment .nil (passes_call (takes_of rfl rfl rfl rfl) (fun _ _ _ _ h => h)) (pa_cons (pv 0) pa_nil)))
      (pss_one (ps_ret (pe_call (ok_fraction_word T) (hr.mono (by decide)) (by rfl) T.g_fraction_word T.F_fraction_word.kp T.b_fraction_word .nil pass0 (pa_cons (pv 0) pa_nil))))), enter h fun F xs cs post hE hw => ?_⟩)
  subst hE
  obtain ⟨d, rfl, rfl, hp, qx, q⟩ := hw
  walk_at "S"
  walk_at "cx"
  refine ⟨d, rfl, rfl, hp, fun hd => ⟨rfl, ?_⟩, qx⟩
  obtain ⟨t, b, rfl, st, sb, q⟩ := q hd
  walk_at "S"
  walk_at "c"
  exact ⟨t, b, rfl, rfl, st, sb, rfl, fin_dat rfl q⟩
theorem smN_lt {n : Nat} (h : n < 10 ^ 60) : SmN (n : Int) := by
  refine ⟨by omega, ?_⟩
  have h2 : n < 10 ^ 200 := Nat.lt_of_lt_of_le h (by decide +kernel)
  have e : ((10 ^ 200 : Nat) : Int) = 10 ^ 200 := by decide +kernel
  rw [← e]
  exact Int.ofNat_lt.mpr h2
theorem isMo_tup (t b : Nat) : isMo (.tup [.int t, .int b]) = (decide (1 ≤ b) && decide (Nat.gcd t b = 1)) := by
  show (decide (1 ≤ (b : Int)) && decide (Int.gcd (t : Int) (b : Int) = 1) && decide (0 ≤ (t : Int))) = _
  rw [decide_eq_true (by omega : 0 ≤ (t : Int)), Bool.and_true]
  congr 1
  exact decide_eq_decide.mpr (by omega)
def isStr : D → Bool
  | .str _ => true
  | _ => false
def wRdMom (C : Addr) : PW0 := fun xs cs post exc => ∃ d, xs = [.dat d] ∧ cs = [] ∧ pl d = true ∧ (isStr d = false → exc C) ∧ ∀ z, d = .str z → z.length ≤ 100000 ∧ (momO (TL.tl z) = none → exc C) ∧ ∀ t b : Nat, momO (TL.tl z) = some (t, b) → post (.dat (.tup [.int t, .int b])) []
theorem ok_read_moment (T : Txt K mg) : FnOk P w K mg base (L2.CX P w) 4 T.a_read_moment T.d_read_moment ["word"] (spG K (wRdMom T.c_NoText)) := by
  refine T.F_read_moment.okX sc_read_moment (fun vs H Q E h => spG_len h fun xs cs post exc ⟨a, e, _⟩ => by rw [e]; rfl) (fun cdv A outer s H vs Q E hr h => ⟨_, (pss_cons (ps_if (pt_not (pt_val (pe_callB call_isi (by rfl) T.m_isinstance (by decide +kernel) (pa_cons (pv 0) (pa_cons (pe_bltn (v := .ty "str") (by rfl) T.m_str (by decide +kernel) rfl) pa_nil))))) (pss_one (ps_raise rfl (takes_of rfl rfl rfl rfl) (pmk_own PySem.F.excBase_ValueError T.x_NoText T.g_NoText T.k_NoText (raises_own T.bb_NoText T.t_NoText) rfl))) pss_nil)
      (pss_cons (ps_asg (pe_bm PySem.F.plainAttrs_str PySem.F.slot_str_partition PySem.F.type_str_partition mt_partition (pv 0) (pa_cons pe_str pa_nil)) (pg_tup rfl (pgs_cons (pg_name (i := 1) sc_read_moment.nd rfl (Or.inl rfl)) (pgs_cons (pg_name (i := 2) sc_read_moment.nd rfl (Or.inl rfl)) (pgs_cons (pg_name (i := 3) sc_read_moment.nd rfl (Or.inl rfl)) pgs_nil)))))
      (pss_cons (ps_set (i := 4) sc_read_moment.nd rfl (Or.inl rfl) (pe_tup (pa_cons (pe_call (ok_number_of T) (hr.mono (by decide)) (by rfl) T.g_number_of T.F_number_of.kp T.b_number_of .nil (passes_call (takes_of rfl rfl rfl rfl) (fun _ _ _ _ h => h)) (pa_cons (pv 1) pa_nil)) (pa_cons (pe_ifExp (pt_truS (K := K) rfl (pv 2) (fun _ => rfl)) (pe_call (ok_number_of T) (hr.mono (by decide)) (by rfl) T.g_number_of T.F_number_of.kp T.b_number_of .nil (passes_call (takes_of rfl rfl rfl rfl) (fun _ _ _ _ h => h)) (pa_cons (pv 3) pa_nil)) pe_int) pa_nil))))
      (pss_cons (ps_if (PW.pt (pw_or (pt_not (pt_val (pe_call (ok_is_moment T) (hr.mono (by decide)) (by rfl) T.g_is_moment T.F_is_moment.kp T.b_is_moment .nil pass0 (pa_cons (pv 4) pa_nil)))) (pw_or1 (pt_cmpR op_ne (pe_call (ok_fraction_word T) (hr.mono (by decide)) (by rfl) T.g_fraction_word T.F_fraction_word.kp T.b_fraction_word .nil pass0 (pa_cons (pv 4) pa_nil)) (pv 0) (nomark _))))) (pss_one (ps_raise rfl (takes_of rfl rfl rfl rfl) (pmk_own PySem.F.excBase_ValueError T.x_NoText T.g_NoText T.k_NoText (raises_own T.bb_NoText T.t_NoText) rfl))) pss_nil)
      (pss_one (ps_ret (pv 4))))))), enter h fun F xs cs post hE hw => ?_⟩)
  subst hE
  obtain ⟨d, rfl, rfl, hp, qs, q⟩ := hw
  cases hs : isStr d with
  | false =>
    have hx : F.ex T.c_NoText := qs hs
    cases d <;> first
      | (exact Bool.noConfusion (show false = true by simpa [pl] using hp))
      | (exact Bool.noConfusion hs)
      | (walk_at "S"; exact ws_exc fun as σ H G D en => F.hE _ H hx en.fh en.kx)
  | true =>
    obtain ⟨z, rfl⟩ : ∃ z, d = .str z := by cases d <;> first | exact ⟨_, rfl⟩ | exact Bool.noConfusion hs
    obtain ⟨hl, qn, q⟩ := q z rfl
    have hsl := sizeLine_eq
    have hxr : momO (TL.tl z) = none → F.ex T.c_NoText := qn
    walk_at "S"
    refine wm_par rfl (by omega) ?_
    by_cases h47 : 47 ∈ TL.tl z
    · rw [part_in h47]
      have hm : momO (TL.tl z) = (match numO (pre47 (TL.tl z)), numO (post47 (TL.tl z)) with
          | some t, some b => if 2 ≤ b ∧ Nat.gcd t b = 1 then some (t, b) else none
          | _, _ => none) := by unfold momO; rw [if_pos h47]
      obtain ⟨hsp, hnp⟩ := split47 h47
      have hlen := congrArg List.length hsp
      rw [List.length_append, List.length_cons, ← TL.len_tl] at hlen
      walk_at "S"
      walk_at "cx"
      refine ⟨_, rfl, rfl, ?_, fun t ht => ⟨rfl, ?_⟩, fun hn => hxr ?_⟩
      · show (pre47 (TL.tl z)).toArray.size ≤ _
        rw [List.size_toArray]; omega
      rotate_left
      · have hn : numO (pre47 (TL.tl z)) = none := hn
        rw [hm, hn]
      have ht : numO (pre47 (TL.tl z)) = some t := ht
      walk_at "S"
      walk_at "S"
      refine ⟨by show 1 ≤ _; omega, ?_⟩
      walk_at "S"
      walk_at "cx"
      refine ⟨_, rfl, rfl, ?_, fun b hb => ⟨rfl, ?_⟩, fun hn => hxr ?_⟩
      · show (post47 (TL.tl z)).toArray.size ≤ _
        rw [List.size_toArray]; omega
      rotate_left
      · have hn : numO (post47 (TL.tl z)) = none := hn
        rw [hm, ht, hn]
      have hb : numO (post47 (TL.tl z)) = some b := hb
      have hm2 : momO (TL.tl z) = if 2 ≤ b ∧ Nat.gcd t b = 1 then some (t, b) else none := by rw [hm, ht, hb]
      have lt : t < 10 ^ 60 ∧ TL.numL t = pre47 (TL.tl z) := by
        unfold numO at ht
        by_cases c : isNW (pre47 (TL.tl z)) = true
        · rw [if_pos c] at ht; cases ht; exact ⟨isNW_lt c, isNW_back c⟩
        · rw [if_neg c] at ht; cases ht
      have lb : b < 10 ^ 60 ∧ TL.numL b = post47 (TL.tl z) := by
        unfold numO at hb
        by_cases c : isNW (post47 (TL.tl z)) = true
        · rw [if_pos c] at hb; cases hb; exact ⟨isNW_lt c, isNW_back c⟩
        · rw [if_neg c] at hb; cases hb
      walk_at "S"
      walk_at "c"
      refine ⟨_, rfl, rfl, rfl, rfl, ?_⟩
      rw [isMo_tup]
      by_cases hg : 1 ≤ b ∧ Nat.gcd t b = 1
      · rw [decide_eq_true hg.1, decide_eq_true hg.2]
        walk_at "S"
        walk_at "c"
        refine ⟨_, _, rfl, rfl, smN_lt lt.1, smN_lt lb.1, rfl, ?_⟩
        by_cases h2 : 2 ≤ b
        · have e : fracW t b = z := by
            refine TL.ext_tl ?_
            rw [tl_fracW]
            unfold momW
            rw [if_neg (by omega), lt.2, lb.2]
            exact hsp.symm
          rw [e]
          walk_at "S"
          rw [show (!eqS (.str z) (.str z)) = false by show (!decide (z = z)) = false; rw [decide_eq_true rfl]; rfl]
          walk_at "S"
          exact fin_dat rfl (q t b (by rw [hm2, if_pos ⟨h2, hg.2⟩]))
        · have e : fracW t b ≠ z := fun e => by
            have e2 := congrArg TL.tl e
            rw [tl_fracW] at e2
            unfold momW at e2
            rw [if_pos (by omega), lt.2] at e2
            exact hnp (by rw [e2]; exact h47)
          walk_at "S"
          rw [show (!eqS (.str (fracW t b)) (.str z)) = true by show (!decide (fracW t b = z)) = true; rw [decide_eq_false e]; rfl]
          walk_at "S"
          exact ws_exc fun as σ H G D en => F.hE _ H (hxr (by rw [hm2, if_neg fun x => h2 x.1])) en.fh en.kx
      · have e : (decide (1 ≤ b) && decide (Nat.gcd t b = 1)) = false := by
          rw [Bool.eq_false_iff]
          intro x
          rw [Bool.and_eq_true, decide_eq_true_eq, decide_eq_true_eq] at x
          exact hg x
        rw [e]
        walk_at "S"
        exact ws_exc fun as σ H G D en => F.hE _ H (hxr (by rw [hm2, if_neg fun x => hg ⟨by omega, x.2⟩])) en.fh en.kx
    · rw [part_no h47]
      have hm : momO (TL.tl z) = (numO (TL.tl z)).map fun t => (t, 1) := by unfold momO; rw [if_neg h47]
      walk_at "S"
      walk_at "cx"
      refine ⟨_, rfl, rfl, hl, fun t ht => ⟨rfl, ?_⟩, fun hn => hxr (by rw [hm, hn]; rfl)⟩
      have lt : t < 10 ^ 60 ∧ TL.numL t = TL.tl z := by
        unfold numO at ht
        by_cases c : isNW (TL.tl z) = true
        · rw [if_pos c] at ht; cases ht; exact ⟨isNW_lt c, isNW_back c⟩
        · rw [if_neg c] at ht; cases ht
      walk_at "S"
      walk_at "S"
      refine ⟨Nat.zero_le _, ?_⟩
      walk_at "S"
      walk_at "c"
      refine ⟨_, rfl, rfl, rfl, rfl, ?_⟩
      rw [show isMo (.tup [.int (t : Int), .int 1]) = true from by
        exact (isMo_tup t 1).trans (by rw [decide_eq_true (Nat.le_refl 1), decide_eq_true (Nat.gcd_one_right t)]; rfl)]
      walk_at "S"
      walk_at "c"
      refine ⟨_, _, rfl, rfl, smN_lt lt.1, ⟨by decide, by decide⟩, rfl, ?_⟩
      have e : fracW t 1 = z := by
        refine TL.ext_tl ?_
        have := tl_fracW t 1
        unfold momW at this
        rw [if_pos rfl, lt.2] at this
        exact this
      rw [e]
      walk_at "S"
      rw [show (!eqS (.str z) (.str z)) = false by show (!decide (z = z)) = false; rw [decide_eq_true rfl]; rfl]
      walk_at "S"
      exact fin_dat rfl (q t 1 (by rw [hm, ht]; rfl))
end


theorem room65 {k : Nat} {A : Around} (r : Room k A) : A.units + 65 < cLine := by have := r.un; omega
/-- methods of built-in things within a comprehension -/
theorem pe_bmK {X : Cx} {K : PySem.W.Frag} {o e : Expr} {es : List Expr} {to : TE} {t : TA} {name : Str} {apos cpos : Pos} {T id : String} {r : V → List V → Hp → VK → Prop} (hK : X.K = K) (h1 : PlainAttrs T) (h2 : Slot T name id) (h3 : typeOf (Value.builtin id) = pure (Value.type "method_descriptor")) (h4 : MtR X id r) (h5 : PE X o to) (h6 : PA X (e :: es) t)
    (a1 : attributeBase o name X.env (eval o X.env) = eval o X.env := by rfl) (a2 : ((((backTo cpos (starEach (e :: es) X.env)).all fun x => !x.fst) && (backToKw cpos (keywordEach [] X.env)).all fun x => x.fst.isSome) && decide (((e :: es).length + ([] : List Keyword).length + if ([] : List Keyword).isEmpty = true then 0 else 1) < 30)) = true := by rfl) (a3 : (apos.endLine == cpos.line) = true := by rfl) (a4 : starEach (e :: es) X.env = (false, eval e X.env) :: starEach es X.env := by rfl) (a5 : ((backTo cpos (starEach es X.env)).any fun x => x.fst) = false := by rfl) :
    PE X ((o.Attribute name apos).Call (e :: es) [] cpos) (tBM K T r to t) := hK ▸ pe_bm h1 h2 h3 h4 h5 h6 a1 a2 a3 a4 a5
theorem pe_bm0K {X : Cx} {K : PySem.W.Frag} {o : Expr} {to : TE} {name : Str} {apos cpos : Pos} {T id : String} {r : V → List V → Hp → VK → Prop} (hK : X.K = K) (h1 : PlainAttrs T) (h2 : Slot T name id) (h3 : typeOf (Value.builtin id) = pure (Value.type "method_descriptor")) (h4 : MtR X id r) (h5 : PE X o to)
    (a1 : attributeBase o name X.env (eval o X.env) = eval o X.env := by rfl) (a3 : (apos.endLine == cpos.line) = true := by rfl) :
    PE X ((o.Attribute name apos).Call [] [] cpos) (tBM0 K T r to) := hK ▸ pe_bm0 h1 h2 h3 h4 h5 a1 a3
theorem mt_indexK {X : Cx} {K : PySem.W.Frag} (h : X.K = K) : MtR X "list.index" (rIndex K) := h ▸ mt_index
theorem mt_lcountBK {X : Cx} {K : PySem.W.Frag} (h : X.K = K) : MtR X "list.count" (rCntF K) := h ▸ mt_lcountB
section
variable {P : Program} {w : World} {K : PySem.W.Frag} {mg : Str → Option Value} {base : Heap}
/-! ### bytes as texts: the program -/
def Bys (row : List Int) : Prop := ∀ b ∈ row, 0 ≤ b ∧ b ≤ 255
theorem isRw_of {d : D} (h : isRw d = true) : ∃ row : List Int, d = .lst (row.map D.int) ∧ Bys row := by
  cases d with
  | lst ds =>
    have h : ds.all (inR 0 255) = true := h
    have main : ∀ ds : List D, ds.all (inR 0 255) = true → ∃ row : List Int, ds = row.map D.int ∧ Bys row := by
      intro ds
      induction ds with
      | nil => intro _; exact ⟨[], rfl, fun b hb => nomatch hb⟩
      | cons x ds ih =>
        intro h
        rw [List.all_cons, Bool.and_eq_true] at h
        obtain ⟨i, rfl, h1, h2⟩ := inR_of h.1
        obtain ⟨row, rfl, hb⟩ := ih h.2
        exact ⟨i :: row, rfl, fun b hb2 => by
          rcases List.mem_cons.mp hb2 with rfl | m
          · exact ⟨h1, h2⟩
          · exact hb b m⟩
    obtain ⟨row, rfl, hb⟩ := main ds h
    exact ⟨row, rfl, hb⟩
  | _ => cases h
theorem sum_hx2 : ∀ row : List Int, ((row.map hx2).map (·.length)).sum = 2 * row.length
  | [] => rfl
  | b :: row => by
    show (hx2 b).length + ((row.map hx2).map (·.length)).sum = 2 * (row.length + 1)
    rw [sum_hx2 row, TL.len_tl, tl_hx2]
    show 2 + _ = _
    omega
theorem hexI {v : Int} (h0 : 0 ≤ v) (h1 : v < 16) : atI (TL.tl hexF) v = some (hexD v.toNat) := by
  have e : ((v.toNat : Nat) : Int) = v := by omega
  have := atI_nat (xs := TL.tl hexF) (j := v.toNat) (hexD_at (by omega))
  rw [e] at this
  exact this
def wHexOf (C : Addr) : PW0 := fun xs cs post exc => ∃ d, xs = [.dat d] ∧ cs = [] ∧ pl d = true ∧ (isRw d = false → exc C) ∧ ∀ row : List Int, d = .lst (row.map D.int) → Bys row → row.length ≤ 100000 ∧ post (.dat (.str (hexT row))) []
theorem ok_hex_of (T : Txt K mg) : FnOk P w K mg base (L2.CX P w) 5 T.a_hex_of T.d_hex_of ["row"] (spG K (wHexOf T.c_NoBytes)) := by
  refine T.F_hex_of.okX sc_hex_of (fun vs H Q E h => spG_len h fun xs cs post exc ⟨a, e, _⟩ => by rw [e]; rfl) (fun cdv A outer s H vs Q E hr h => ⟨_, (pss_cons (ps_expr (pe_call (ok_refuse_no_bytes T) (hr.mono (by decide)) (by rfl) T.g_refuse_no_bytes T.F_refuse_no_bytes.kp T.b_refuse_no_bytes .nil (passes_call (takes_of rfl rfl rfl rfl) (fun _ _ _ _ h => h)) (pa_cons (pv 0) pa_nil)))
      (pss_one (ps_ret (pe_bm PySem.F.plainAttrs_str PySem.F.slot_str_join PySem.F.type_str_join mt_join pe_str (pa_cons (pe_lc (own := [("byte", 1)]) (g := gName 1) (tt := tYes) (by rfl) sc_hex_of.nd (pi_list (pv 0)) (blkOk_by (own := [("byte", 1)]) (N := N_hex_of) (sc := defScope s_hex_of) (by decide +kernel)) (fun _ _ _ _ _ => (pg_name (i := 1) sc_hex_of.nd rfl (Or.inl rfl))) (fun _ _ _ _ _ => pts_nil) (fun _ _ _ _ _ => (pe_op op_add_str (pe_ix ix_str (pe_glob (v := .str "0123456789abcdef") (by rfl) T.g_HEX_FIGURES ⟨_, rfl⟩) (pe_op op_fdivW (pv 1) pe_int) (fun _ _ => rfl)) (pe_ix ix_str (pe_glob (v := .str "0123456789abcdef") (by rfl) T.g_HEX_FIGURES ⟨_, rfl⟩) (pe_op op_mod (pv 1) pe_int) (fun _ _ => rfl))))) pa_nil))))), enter h fun F xs cs post hE hw => ?_⟩)
  subst hE
  obtain ⟨d, rfl, rfl, hp, qx, q⟩ := hw
  have hsl := sizeLine_eq
  walk_at "S"
  walk_at "cx"
  refine ⟨d, rfl, rfl, hp, fun hd => ⟨rfl, ?_⟩, qx⟩
  obtain ⟨row, rfl, hb⟩ := isRw_of hd
  obtain ⟨hl, q⟩ := q row rfl hb
  walk_at "S"
  refine loopC_by (fun es ρ => ∃ done rest : List Int, row = done ++ rest ∧ es = rest.map D.int ∧ ρ = ⟨[some (.dat (.lst (row.map D.int))), none], [.lst ((done.map hx2).map D.str)]⟩) ⟨[], row, rfl, rfl, rfl⟩ ?_ ?_
  · rintro ρ ⟨done, rest, hr, he, rfl⟩
    have r0 : rest = [] := by cases rest with | nil => rfl | cons x r => cases he
    subst r0
    rw [List.append_nil] at hr
    subst hr
    refine ⟨.dat _, ?_⟩
    walk_at "S"
    refine wm_join (.cel rfl) ?_ ?_
    · rw [sum_hx2, List.length_map]
      show _ + _ * 0 ≤ _
      omega
    exact fin_dat rfl q
  · rintro e es ρ ⟨done, rest, hr, he, rfl⟩
    cases rest with
    | nil => cases he
    | cons b rest =>
      injection he with he1 he2
      subst he1 he2
      have hb1 := hb b (by rw [hr]; exact List.mem_append_right _ List.mem_cons_self)
      refine ⟨.dat _, ?_⟩
      walk_at "S"
      refine wr_Ii ⟨by decide, by decide⟩ ?_
      walk_at "S"
      refine wr_ixS (by show 16 ≤ _; omega) (hexI (by omega) (by omega)) ?_
      walk_at "S"
      refine wr_Ii (by decide) ?_
      walk_at "S"
      refine wr_ixS (by show 16 ≤ _; omega) (hexI (by omega) (by omega)) ?_
      refine wr_addS (by show 1 + 1 ≤ _; omega) ?_
      walk_at "S"
      · rw [List.length_map, List.length_map]
        have := congrArg List.length hr
        rw [List.length_append] at this
        omega
      exact now ⟨done ++ [b], rest, by rw [hr, List.append_assoc]; rfl, rfl, by rw [List.map_append, List.map_append]; rfl⟩
theorem all_pairs (l : List Nat) : ((l.map hvI).map D.int).any (fun z => eqD z (.int (-1))) = !l.all isHx := by
  induction l with
  | nil => rfl
  | cons c l ih =>
    rw [List.map_cons, List.map_cons, List.any_cons, ih, List.all_cons, Bool.not_and]
    congr 1
    show PyData.eqv (.int (hvI c)) (.int (-1)) = _
    have e : PyData.eqv (.int (hvI c)) (.int (-1)) = decide (hvI c = -1) := by
      rw [Bool.eq_iff_iff, decide_eq_true_eq]
      have := eqD_iff (.int (hvI c)) (.int (-1)) rfl rfl
      exact this.trans ⟨fun h => by injection h, fun h => by rw [h]⟩
    rw [e]
    unfold hvI
    cases h : isHx c with
    | true =>
      rw [if_pos rfl]
      exact decide_eq_false (by omega)
    | false =>
      rw [if_neg Bool.false_ne_true]
      rfl
def wBytOf (C : Addr) : PW0 := fun xs cs post exc => ∃ d, xs = [.dat d] ∧ cs = [] ∧ pl d = true ∧ (isStr d = false → exc C) ∧ ∀ z, d = .str z → z.length ≤ 10000 ∧ (rowO (TL.tl z) = none → exc C) ∧ ∀ row, rowO (TL.tl z) = some row → post (.new (row.map D.int)) []
theorem ok_bytes_of (T : Txt K mg) : FnOk P w K mg base (L2.CX P w) 1 T.a_bytes_of T.d_bytes_of ["text"] (spG K (wBytOf T.c_NoText)) := by
  refine T.F_bytes_of.okX sc_bytes_of (fun vs H Q E h => spG_len h fun xs cs post exc ⟨a, e, _⟩ => by rw [e]; rfl) (fun cdv A outer s H vs Q E hr h => ⟨_, (pss_cons (ps_if (PW.pt (pw_or (pt_not (pt_val (pe_callB call_isi (by rfl) T.m_isinstance (by decide +kernel) (pa_cons (pv 0) (pa_cons (pe_bltn (v := .ty "str") (by rfl) T.m_str (by decide +kernel) rfl) pa_nil))))) (pw_or1 (pt_cmpR op_eq (pe_op op_mod (pe_callB call_len_str (by rfl) T.m_len (by decide +kernel) (pa_cons (pv 0) pa_nil)) pe_int) pe_int (nomark _))))) (pss_one (ps_raise rfl (takes_of rfl rfl rfl rfl) (pmk_own PySem.F.excBase_ValueError T.x_NoText T.g_NoText T.k_NoText (raises_own T.bb_NoText T.t_NoText) rfl))) pss_nil)
      (pss_cons (ps_set (i := 1) sc_bytes_of.nd rfl (Or.inr rfl) (pe_lc (own := [("sign", 2)]) (g := gName 2) (tt := tYes) (by rfl) sc_bytes_of.nd (pi_str (pv 0)) (blkOk_by (own := [("sign", 2)]) (N := N_bytes_of) (sc := defScope s_bytes_of) (by decide +kernel)) (fun _ _ _ _ _ => (pg_name (i := 2) sc_bytes_of.nd rfl (Or.inl rfl))) (fun _ _ _ _ _ => pts_nil) (fun _ _ _ _ _ => (pe_bmK (K := K) rfl PySem.F.plainAttrs_str PySem.F.slot_str_find PySem.F.type_str_find mt_find (pe_glob (v := .str "0123456789abcdef") (by rfl) T.g_HEX_FIGURES ⟨_, rfl⟩) (pa_cons (pv 2) pa_nil)))))
      (pss_cons (ps_if (pt_cmpR (op_inD (room65 hr)) (pe_un un_neg pe_int) (pv 1) rfl) (pss_one (ps_raise rfl (takes_of rfl rfl rfl rfl) (pmk_own PySem.F.excBase_ValueError T.x_NoText T.g_NoText T.k_NoText (raises_own T.bb_NoText T.t_NoText) rfl))) pss_nil)
      (pss_one (ps_ret (pe_lc (own := [("at", 3)]) (g := gName 3) (tt := tYes) (by rfl) sc_bytes_of.nd (pi_range3 (by rfl) T.m_range (pa_cons pe_int (pa_cons (pe_callB call_len_seq (by rfl) T.m_len (by decide +kernel) (pa_cons (pv 1) pa_nil)) (pa_cons pe_int pa_nil)))) (blkOk_by (own := [("at", 3)]) (N := N_bytes_of) (sc := defScope s_bytes_of) (by decide +kernel)) (fun _ _ _ _ _ => (pg_name (i := 3) sc_bytes_of.nd rfl (Or.inl rfl))) (fun _ _ _ _ _ => pts_nil) (fun _ _ _ _ _ => (pe_op op_add (pe_op op_mulW (pe_ix (ix_listK (K := K) rfl) (pv 1) (pv 3) (fun _ _ => rfl)) pe_int) (pe_ix (ix_listK (K := K) rfl) (pv 1) (pe_op op_add (pv 3) pe_int) (fun _ _ => rfl)))))))))), enter h fun F xs cs post hE hw => ?_⟩)
  subst hE
  obtain ⟨d, rfl, rfl, hp, qs, q⟩ := hw
  have hsl := sizeLine_eq
  cases hs : isStr d with
  | false =>
    have hx : F.ex T.c_NoText := qs hs
    cases d <;> first
      | (exact Bool.noConfusion (show false = true by simpa [pl] using hp))
      | (exact Bool.noConfusion hs)
      | (walk_at "S"; exact ws_exc fun as σ H G D en => F.hE _ H hx en.fh en.kx)
  | true =>
    obtain ⟨z, rfl⟩ : ∃ z, d = .str z := by cases d <;> first | exact ⟨_, rfl⟩ | exact Bool.noConfusion hs
    obtain ⟨hl, qn, q⟩ := q z rfl
    have hxr : rowO (TL.tl z) = none → F.ex T.c_NoText := qn
    have ln := TL.len_tl z
    walk_at "S"
    refine wc_lenS (by omega) ?_
    walk_at "S"
    refine wr_Ii (by decide) ?_
    walk_at "S"
    refine ifC (fun c => ?_) (fun c => ?_)
    · have c : decide ((z.length : Int) % 2 = 1) = true := c
      have c := of_decide_eq_true c
      walk_at "S"
      exact ws_exc fun as σ H G D en => F.hE _ H (hxr (if_pos (.inl (by omega)))) en.fh en.kx
    · have c : decide ((z.length : Int) % 2 = 1) = false := c
      have c := of_decide_eq_false c
      have hl2 : z.length % 2 = 0 := by omega
      walk_at "S"
      walk_at "nr4"
      refine loopC_by (fun es ρ => ∃ done rest : List Nat, TL.tl z = done ++ rest ∧ es = rest.map sgD ∧ ρ = ⟨[some (.dat (.str z)), none, none, none], [.lst ((done.map hvI).map D.int)]⟩) ⟨[], TL.tl z, rfl, rfl, rfl⟩ ?_ ?_
      · rintro ρ ⟨done, rest, hr, he, rfl⟩
        have r0 : rest = [] := by cases rest with | nil => rfl | cons x r => cases he
        subst r0
        rw [List.append_nil] at hr
        rw [← hr]
        refine ⟨trivial, ?_⟩
        walk_at "S"
        have fn : ∀ l : List Int, fine 2 (.lst (l.map D.int)) = true := fun l => by
          rw [fine]
          induction l with
          | nil => rfl
          | cons x l ih => exact ih
        refine wr_inD 2 (.of (by walk_at "od")) (by walk_at "od") rfl (fn _) (by decide) ?_
        rw [all_pairs]
        walk_at "S"
        cases ha : (TL.tl z).all isHx with
        | false =>
          walk_at "S"
          exact ws_exc fun as σ H G D en => F.hE _ H (hxr (if_pos (.inr ha))) en.fh en.kx
        | true =>
          walk_at "S"
          refine wi_rng3 ?_
          walk_at "S"
          refine ⟨⟨by decide, by decide, by rw [List.length_map, List.length_map, ← ln]; omega⟩, ?_⟩
          rw [show (List.map D.int (List.map hvI (TL.tl z))).length = z.length by rw [List.length_map, List.length_map, ← ln]]
          have hrow : rowO (TL.tl z) = some (pairsB (TL.tl z)) := if_neg (by rw [← ln, ha, hl2]; rintro (x | x) <;> cases x)
          have hpl : (pairsB (TL.tl z)).length = z.length / 2 := by rw [pairs_len _ _ (Nat.le_refl _), ← ln]
          have hn : nRuns z.length 2 = z.length / 2 := by unfold nRuns; omega
          walk_at "nr4"
          refine loopC_by (fun es ρ => ∃ i, i ≤ nRuns z.length 2 ∧ es = (rngD3 2 (nRuns z.length 2)).drop i ∧ ρ = ⟨[some (.dat (.str z)), some (.cel 0), none, none], [.lst (((TL.tl z).map hvI).map D.int), .lst (((pairsB (TL.tl z)).take i).map D.int)]⟩) ⟨0, Nat.zero_le _, rfl, rfl⟩ ?_ ?_
          · rintro ρ ⟨i, hi, he, rfl⟩
            have e : i = nRuns z.length 2 := by
              rcases Nat.lt_or_ge i (nRuns z.length 2) with y | y
              · rw [rngD3_drop y] at he; cases he
              · omega
            subst e
            refine ⟨trivial, ?_⟩
            rw [List.take_of_length_le (by omega)]
            exact ⟨_, .cel (by decide) rfl, rfl, q _ hrow⟩
          · rintro e es ρ ⟨i, hi, he, rfl⟩
            rcases Nat.lt_or_ge i (nRuns z.length 2) with y | y
            · rw [rngD3_drop y] at he
              injection he with he1 he2
              subst he1 he2
              have g0 : 2 * i < (TL.tl z).length := by rw [← ln]; omega
              have g1 : 2 * i + 1 < (TL.tl z).length := by rw [← ln]; omega
              have hx0 : isHx ((TL.tl z)[2 * i]) = true := List.all_eq_true.mp ha _ (List.getElem_mem _)
              have hx1 : isHx ((TL.tl z)[2 * i + 1]) = true := List.all_eq_true.mp ha _ (List.getElem_mem _)
              have a0 : atI (((TL.tl z).map hvI).map D.int) (0 + (i : Int) * 2) = some (.int ((Hx.hv ((TL.tl z)[2 * i]) : Nat) : Int)) := by
                have := atI_nat (xs := ((TL.tl z).map hvI).map D.int) (j := 2 * i) (v := .int ((Hx.hv ((TL.tl z)[2 * i]) : Nat) : Int)) (by
                  rw [List.getElem?_map, List.getElem?_map, List.getElem?_eq_getElem g0]
                  show some (D.int (hvI _)) = _
                  unfold hvI
                  rw [if_pos hx0])
                rw [← this]; congr 1; omega
              have a1 : atI (((TL.tl z).map hvI).map D.int) (0 + (i : Int) * 2 + 1) = some (.int ((Hx.hv ((TL.tl z)[2 * i + 1]) : Nat) : Int)) := by
                have := atI_nat (xs := ((TL.tl z).map hvI).map D.int) (j := 2 * i + 1) (v := .int ((Hx.hv ((TL.tl z)[2 * i + 1]) : Nat) : Int)) (by
                  rw [List.getElem?_map, List.getElem?_map, List.getElem?_eq_getElem g1]
                  show some (D.int (hvI _)) = _
                  unfold hvI
                  rw [if_pos hx1])
                rw [← this]; congr 1; omega
              have hg := pairs_get i (TL.tl z) _ _ (List.getElem?_eq_getElem g0) (List.getElem?_eq_getElem g1)
              have v0 := hv_lt16 hx0
              have v1 := hv_lt16 hx1
              generalize Hx.hv ((TL.tl z)[2 * i]) = p at *
              generalize Hx.hv ((TL.tl z)[2 * i + 1]) = r at *
              refine ⟨trivial, ?_⟩
              walk_at "S"
              refine wr_ixL (by walk_at "il") a0 ?_
              walk_at "S"
              refine wr_Ii ?_ ?_
              · show ((p : Int)).natAbs.log2 + (16 : Int).natAbs.log2 < 1000000
                have : ((p : Int)).natAbs.log2 ≤ ((p : Int)).natAbs := Nat.log2_le_self _
                have : (16 : Int).natAbs.log2 = 4 := by decide
                omega
              walk_at "S"
              refine wr_ixL (by walk_at "il") a1 ?_
              walk_at "S"
              · rw [List.length_map, List.length_take]; omega
              refine now ⟨i + 1, y, rfl, ?_⟩
              rw [List.take_add_one, hg, List.map_append]
              rfl
            · rw [List.drop_of_length_le (by rw [rngD3_len]; exact y)] at he; cases he
      · rintro e es ρ ⟨done, rest, hr, he, rfl⟩
        cases rest with
        | nil => cases he
        | cons b rest =>
          injection he with he1 he2
          subst he1 he2
          refine ⟨trivial, ?_⟩
          walk_at "S"
          · rw [List.length_map, List.length_map]
            have := congrArg List.length hr
            rw [List.length_append, ← ln] at this
            omega
          rw [show Txt.find "0123456789abcdef" (sg1 b) = hvI b from find_hex b]
          exact now ⟨done ++ [b], rest, by rw [hr, List.append_assoc]; rfl, rfl, by rw [List.map_append, List.map_append]; rfl⟩
end


theorem wc_min2 {K : PySem.W.Frag} {F : Fx} {ρ : En} {k : AV → En → Prop} {i j : Int} (hk : k (.dat (.int (if j < i then j else i))) ρ) : WpC K F (fun xs H Q => ∃ i j, xs = [.int i, .int j] ∧ Q (.int (if j < i then j else i)) H) [.dat (.int i), .dat (.int j)] ρ k := fun as σ H G vs e r Q q => by
  cases r with
  | cons a b =>
    cases b with
    | cons b c =>
      cases c
      cases (show Rep K G (.int i) _ from a)
      cases (show Rep K G (.int j) _ from b)
      exact ⟨i, j, rfl, q _ ρ _ as H G hk e .refl (Rep.int _)⟩
theorem we_frz {K : PySem.W.Frag} {F : Fx} {ρ : En} {k : AV → En → Prop} {t : TE} (h : WpE K F t ρ (frzK k)) : WpE K F t ρ k := fun as σ H G e Q q => h as σ H G e Q (got_frz q)
theorem wc_frz {K : PySem.W.Frag} {F : Fx} {ρ : En} {k : AV → En → Prop} {r : List V → Hp → VK → Prop} {xs : List AV} (h : WpC K F r xs ρ (frzK k)) : WpC K F r xs ρ k := fun as σ H G vs e rs Q q => h as σ H G vs e rs Q (got_frz q)
theorem frz_as {K : PySem.W.Frag} {G G' : Hp} {as : List Addr} {j : Nat} {a : Addr} {d : D} (s : Same G G') (ha : as[j]? = some a) (ra : Rep K G' d (.ref a)) {xs : List AV} {vs : List V} (h : RepAs K G as xs vs) : RepAs K G' as (xs.map (frzA j d)) vs := by
  induction h with
  | nil => exact .nil
  | @cons x xs v vs h _ ih =>
    refine .cons ?_ ih
    cases x with
    | dat e => exact Rep.mono s _ _ h
    | cel i =>
      obtain ⟨b, hb, rfl⟩ := h
      show RepA K G' as (if i = j then .dat d else .cel i) (.ref b)
      by_cases q : i = j
      · subst q
        rw [if_pos rfl]
        rw [ha] at hb
        cases hb
        exact ra
      · rw [if_neg q]
        exact ⟨b, hb, rfl⟩
    | tup ys =>
      obtain ⟨b, ws, rfl, hs, hr⟩ := h
      exact ⟨b, ws, rfl, Same.seqT s hs, TNs.frz s ha ra ys ws hr⟩
/-- a list that nobody writes to any more is data ahead of a call -/
theorem wsp_frz {K : PySem.W.Frag} {F : Fx} {ρ : En} {k : AV → En → Prop} {sp : Sp} {E : L2.St → XK} {xs : List AV} {j : Nat} {ds : List D} (hj : ρ.ce[j]? = some (.lst ds)) (h : WpSp K F sp E (xs.map (frzA j (.lst ds))) (ρ.frz j ds) k) : WpSp K F sp E xs ρ k := fun as σ H G vs e r Q q => by
  have hl : j < as.length := by rw [e.ln]; exact (List.getElem?_eq_some_iff.mp hj).1
  obtain ⟨o, e2, g2, rr⟩ := e.frz hj (List.getElem?_eq_getElem hl)
  exact h as σ H _ vs e2 (frz_as g2.1 (List.getElem?_eq_getElem hl) rr r) Q (q.imp g2 fun _ _ z => z)
section
variable {P : Program} {w : World} {K : PySem.W.Frag} {mg : Str → Option Value} {base : Heap}
theorem wc_intB {F : Fx} {ρ : En} {k : AV → En → Prop} {b : Bool} (hk : k (.dat (.int (if b = true then 1 else 0))) ρ) : WpC K F (fun xs H Q => (∃ i, xs = [V.int i] ∧ Q (V.int i) H) ∨ ∃ k, xs = [V.bl k] ∧ Q (V.int (if k = true then 1 else 0)) H) [.dat (.bl b)] ρ k := fun as σ H G vs e r Q q => by
  cases r with
  | cons r1 c =>
    cases c
    cases (show Rep K G (.bl b) _ from r1)
    exact .inr ⟨b, rfl, q _ ρ _ as H G hk e .refl (Rep.int _)⟩
/-! ### the draws of the laws of texts -/
theorem fin_cel {n : Nat} {post : RV → List Cell → Prop} {ρ : En} {j : Nat} {ds : List D} (hj : n ≤ j) (hc : ρ.ce[j]? = some (.lst ds)) (ng : noGone (ρ.ce.take n) = true) (q : post (.new ds) (ρ.ce.take n)) : (KS.fin n post).rt (.cel j) ρ := ⟨_, .cel hj hc, ng, q⟩
def wCellS : PW0 := fun xs cs post _ => ∃ ns : List Int, xs = [.dat (.scr (ns.map D.int)), .dat (.int 0)] ∧ cs = [] ∧ ∀ n, post (.dat (.int n)) []
theorem ok_l_cell_at (T : Txt K mg) : FnOk P w K mg base CX0 1 T.a_l_cell_at T.d_l_cell_at ["_law_script", "_law_k"] (spG K wCellS) := by
  refine T.F_l_cell_at.ok sc_l_cell_at (fun vs H Q E h => spG_len h fun xs cs post exc ⟨a, e, _⟩ => by rw [e]; rfl) (fun cdv A outer s H vs Q E hr h => ⟨_, (pss_cons (ps_if (pt_cmpR op_lt (pv 1) (pe_callB call_len_seq (by rfl) T.m_len (by decide +kernel) (pa_cons (pv 0) pa_nil)) (nomark _)) (pss_one (ps_ret (pe_ix ix_list (pv 0) (pv 1) (fun _ _ => rfl)))) pss_nil)
      (pss_one (ps_ret pe_int))), enter h fun F xs cs post hE hw => ?_⟩)
  obtain ⟨ns, rfl, rfl, q⟩ := hw
  walk_at "D"
  refine ifC (fun c => ?_) (fun c => ?_)
  · have c := of_decide_eq_true c
    rw [List.length_map] at c
    walk_at "D"
    have hl : 0 < ns.length := by omega
    have ha : atI (ns.map D.int) 0 = some (D.int ns[0]) :=
      atI_nat (xs := ns.map D.int) (j := 0) (v := D.int ns[0]) (by rw [List.getElem?_map, List.getElem?_eq_getElem hl]; rfl)
    refine wr_ixL (.scr _) ha ?_
    exact fin_dat rfl (q _)
  · walk_at "D"
    exact fin_dat rfl (q _)
/-- a well from which was drawn at most m times -/
def IsV (m : Nat) (s : List D) : Prop := ∃ x y z : Int, s = [.int x, .int y, .int z] ∧ 0 ≤ y ∧ y < 2147483647 ∧ 0 ≤ z ∧ z ≤ m
def wWellV : PW0 := fun xs cs post _ => ∃ n : Int, xs = [.dat (.int n)] ∧ cs = [] ∧ ∀ s, IsV 0 s → post (.new s) []
theorem ok_l_well (T : Txt K mg) : FnOk P w K mg base CX0 1 T.a_l_well T.d_l_well ["_law_cell"] (spG K wWellV) := by
  refine T.F_l_well.ok sc_l_well (fun vs H Q E h => spG_len h fun xs cs post exc ⟨a, e, _⟩ => by rw [e]; rfl) (fun cdv A outer s H vs Q E hr h => ⟨_, (pss_one (ps_ret (pe_lst (pa_cons (pe_op op_mul (pv 0) (pe_callTy call_int1 (by rfl) T.m_int (by decide +kernel) (pa_cons (pe_cmpR op_ge (pv 0) (pe_op op_pow pe_int pe_int) (nomark _)) pa_nil))) (pa_cons (pe_op op_mod (pv 0) pe_int) (pa_cons pe_int pa_nil)))))), enter h fun F xs cs post hE hw => ?_⟩)
  obtain ⟨n, rfl, rfl, q⟩ := hw
  walk_at "D"
  refine wr_Ii ⟨by decide, by decide, by decide⟩ ?_
  walk_at "D"
  refine wc_intB ?_
  walk_at "D"
  refine wr_Ii (.inr (by split <;> decide)) ?_
  walk_at "D"
  refine wr_Ii (by decide) ?_
  walk_at "D"
  exact fin_cel (Nat.zero_le _) rfl rfl (q _ ⟨_, _, _, rfl, Int.emod_nonneg _ (by decide), Int.emod_lt_of_pos _ (by decide), Int.le_refl _, Int.le_refl _⟩)
theorem lg_60 {b : Int} (b0 : 0 < b) (b1 : b ≤ 10 ^ 60) : b.natAbs.log2 < 9000 := by
  have h2 : b.natAbs < 2 ^ 200 := by
    have e : (b.natAbs : Int) = b := by omega
    have h3 : (10 : Int) ^ 60 < ((2 ^ 200 : Nat) : Int) := by decide +kernel
    have h4 : (b.natAbs : Int) < ((2 ^ 200 : Nat) : Int) := by rw [e]; exact Int.lt_of_le_of_lt b1 h3
    exact Int.ofNat_lt.mp h4
  have h5 : b.natAbs.log2 < 200 := (Nat.log2_lt (by omega)).mpr h2
  omega
def wDrawV : PW0 := fun xs cs post _ => ∃ (m : Nat) (s : List D) (b : Int), xs = [.cel 0, .dat (.int b)] ∧ cs = [.lst s] ∧ IsV m s ∧ m ≤ 100000 ∧ 0 < b ∧ b ≤ 10 ^ 60 ∧ ∀ d s', 0 ≤ d → d < b → IsV (m + 1) s' → post (.dat (.int d)) [.lst s']
theorem ok_l_draw (T : Txt K mg) : FnOk P w K mg base CX0 1 T.a_l_draw T.d_l_draw ["_law_well_here", "_law_many"] (spG K wDrawV) := by
  refine T.F_l_draw.ok sc_l_draw (fun vs H Q E h => spG_len h fun xs cs post exc ⟨a, b, c, e, _⟩ => by rw [e]; rfl) (fun cdv A outer s H vs Q E hr h => ⟨_, (pss_cons (ps_if (pt_cmpR op_gt (pe_ix ix_list (pv 0) pe_int (fun _ _ => rfl)) pe_int (nomark _)) (pss_cons (ps_set (i := 2) sc_l_draw.nd rfl (Or.inl rfl) (pe_op op_mod (pe_ix ix_list (pv 0) pe_int (fun _ _ => rfl)) (pv 1)))
      (pss_cons (ps_asg (pe_op op_fdivW (pe_ix ix_list (pv 0) pe_int (fun _ _ => rfl)) (pv 1)) (pg_sub (pv 0) pe_int set_list))
      (pss_one (ps_ret (pv 2))))) pss_nil)
      (pss_cons (ps_asg (pe_op op_add (pe_ix ix_list (pv 0) pe_int (fun _ _ => rfl)) pe_int) (pg_sub (pv 0) pe_int set_list))
      (pss_cons (ps_set (i := 3) sc_l_draw.nd rfl (Or.inl rfl) (pe_ix ix_list (pe_lst (pa_cons pe_int (pa_cons pe_int (pa_cons pe_int (pa_cons pe_int (pa_cons pe_int pa_nil)))))) (pe_op op_mod (pe_ix ix_list (pv 0) pe_int (fun _ _ => rfl)) pe_int) (fun _ _ => rfl)))
      (pss_cons (ps_set (i := 4) sc_l_draw.nd rfl (Or.inl rfl) (pe_op op_mod (pe_op op_pow (pe_op op_add (pe_op op_add (pe_ix ix_list (pv 0) pe_int (fun _ _ => rfl)) (pe_op op_mul pe_int (pe_ix ix_list (pv 0) pe_int (fun _ _ => rfl)))) pe_int) pe_int) (pv 3)))
      (pss_cons (ps_set (i := 4) sc_l_draw.nd rfl (Or.inl rfl) (pe_op op_mod (pe_op op_mul (pe_op op_add (pv 4) (pe_ix ix_list (pv 0) pe_int (fun _ _ => rfl))) (pe_op op_add (pe_op op_fdivW (pv 4) pe_int) pe_int)) pe_int))
      (pss_one (ps_ret (pe_op op_mod (pe_op op_fdivW (pv 4) pe_int) (pv 1))))))))), enter h fun F xs cs post hE hw => ?_⟩)
  obtain ⟨m, st, b, rfl, rfl, ⟨x, y, z, rfl, y0, y1, z0, z1⟩, hm, b0, b1, q⟩ := hw
  walk_at "D"
  refine ifC (fun c => ?_) (fun c => ?_)
  · walk_at "D"
    refine wr_Ii b0 ?_
    walk_at "D"
    refine wr_Ii ⟨b0, lg_60 b0 b1⟩ ?_
    walk_at "D"
    refine sub_in rfl rfl (by walk_at "fz") rfl (m := 0) rfl ?_
    walk_at "D"
    exact fin_dat rfl (q _ _ (Int.emod_nonneg _ (by omega)) (Int.emod_lt_of_pos _ b0) ⟨_, _, _, rfl, y0, y1, z0, by omega⟩)
  · walk_at "D"
    refine sub_in rfl rfl (by walk_at "fz") rfl (m := 2) rfl ?_
    walk_at "D"
    refine wr_Ii (by decide) ?_
    have r0 := Int.emod_nonneg (z + 1) (show (5 : Int) ≠ 0 by decide)
    have r1 := Int.emod_lt_of_pos (z + 1) (show (0 : Int) < 5 by decide)
    generalize (z + 1) % 5 = r at *
    refine wr_ixA (.cel rfl) r0 r1 fun pd hpd => ?_
    obtain ⟨p, rfl, p0, p1⟩ : ∃ p : Int, pd = .int p ∧ 2147483563 ≤ p ∧ p ≤ 2147483647 := by
      simp only [List.mem_cons, List.not_mem_nil, or_false] at hpd
      rcases hpd with rfl | rfl | rfl | rfl | rfl <;> exact ⟨_, rfl, by decide, by decide⟩
    walk_at "D"
    refine wr_Ii (.inl (by decide)) ?_
    walk_at "D"
    refine wr_Ii ⟨by decide, by decide, by omega⟩ ?_
    walk_at "D"
    refine wr_Ii (by omega) ?_
    have n0 := Int.emod_nonneg ((y + 6007 * (z + 1) + 3) ^ (5 : Int).toNat) (show p ≠ 0 by omega)
    have n1 := Int.emod_lt_of_pos ((y + 6007 * (z + 1) + 3) ^ (5 : Int).toNat) (show 0 < p by omega)
    walk_at "D"
    generalize (y + 6007 * (z + 1) + 3) ^ (5 : Int).toNat % p = n at *
    refine wr_Ii ⟨by decide, by decide⟩ ?_
    walk_at "D"
    refine wr_Ii (.inl ⟨by omega, by omega⟩) ?_
    walk_at "D"
    refine wr_Ii (by decide) ?_
    have m0 := Int.emod_nonneg ((n + (z + 1)) * (n / 1013 + 69623)) (show (2147483549 : Int) ≠ 0 by decide)
    have m1 := Int.emod_lt_of_pos ((n + (z + 1)) * (n / 1013 + 69623)) (show (0 : Int) < 2147483549 by decide)
    walk_at "D"
    generalize (n + (z + 1)) * (n / 1013 + 69623) % 2147483549 = f at *
    refine wr_Ii ⟨by decide, by decide⟩ ?_
    walk_at "D"
    refine wr_Ii b0 ?_
    exact fin_dat rfl (q _ _ (Int.emod_nonneg _ (by omega)) (Int.emod_lt_of_pos _ b0) ⟨_, _, _, rfl, y0, y1, by omega, by omega⟩)
theorem wsp_drawV {F : Fx} {ρ : En} {k : AV → En → Prop} {E : L2.St → XK} {j : Nat} {m : Nat} {s : List D} {b : Int} (hj : ρ.ce[j]? = some (.lst s)) (hs : IsV m s) (hm : m ≤ 100000) (b0 : 0 < b) (b1 : b ≤ 10 ^ 60) (h : ∀ d s', 0 ≤ d → d < b → IsV (m + 1) s' → k (.dat (.int d)) (ρ.cell j (.lst s'))) : WpSp K F (spG K wDrawV) E [.cel j, .dat (.int b)] ρ k :=
  wsp1 hj rfl (by show (decide (j = j) && true) = true; rw [decide_eq_true rfl]; rfl) ⟨m, s, b, rfl, rfl, hs, hm, b0, b1, fun d s' d0 d1 hs' => ⟨.lst s', rfl, rfl, h d s' d0 d1 hs'⟩⟩
def wOneV : PW0 := fun xs cs post _ => ∃ (m : Nat) (s ds : List D), xs = [.cel 0, .dat (.lst ds)] ∧ cs = [.lst s] ∧ IsV m s ∧ m ≤ 100000 ∧ 0 < ds.length ∧ ds.length ≤ 1000 ∧ ∀ d s', d ∈ ds → IsV (m + 1) s' → post (.dat d) [.lst s']
theorem ok_l_one (T : Txt K mg) : FnOk P w K mg base CX0 2 T.a_l_one T.d_l_one ["_law_well_here", "_law_some"] (spG K wOneV) := by
  refine T.F_l_one.ok sc_l_one (fun vs H Q E h => spG_len h fun xs cs post exc ⟨a, b, c, e, _⟩ => by rw [e]; rfl) (fun cdv A outer s H vs Q E hr h => ⟨_, (pss_one (ps_ret (pe_ix ix_list (pv 1) (pe_call (ok_l_draw T) (hr.mono (by decide)) (by rfl) T.g_l_draw T.F_l_draw.kp T.b_l_draw .nil pass0 (pa_cons (pv 0) (pa_cons (pe_callB call_len_seq (by rfl) T.m_len (by decide +kernel) (pa_cons (pv 1) pa_nil)) pa_nil))) (fun _ _ => rfl)))), enter h fun F xs cs post hE hw => ?_⟩)
  obtain ⟨m, st, ds, rfl, rfl, hs, hm, l0, l1, q⟩ := hw
  walk_at "D"
  refine wsp_drawV rfl hs hm (by omega) (by have : (10 : Int) ^ 60 ≥ 1000 := by decide +kernel
                                            omega) fun d s' d0 d1 hs' => ?_
  refine wr_ixA (.dat _) d0 d1 fun x hx => ?_
  exact fin_dat rfl (q x s' hx hs')
theorem wsp_oneV {F : Fx} {ρ : En} {k : AV → En → Prop} {E : L2.St → XK} {j : Nat} {m : Nat} {s ds : List D} (hj : ρ.ce[j]? = some (.lst s)) (hs : IsV m s) (hm : m ≤ 100000) (l0 : 0 < ds.length) (l1 : ds.length ≤ 1000) (h : ∀ d s', d ∈ ds → IsV (m + 1) s' → k (.dat d) (ρ.cell j (.lst s'))) : WpSp K F (spG K wOneV) E [.cel j, .dat (.lst ds)] ρ k :=
  wsp1 hj rfl (by show (decide (j = j) && true) = true; rw [decide_eq_true rfl]; rfl) ⟨m, s, ds, rfl, rfl, hs, hm, l0, l1, fun d s' hd hs' => ⟨.lst s', rfl, rfl, h d s' hd hs'⟩⟩
def wLowN : PW0 := fun xs cs post _ => ∃ t b : Nat, xs = [.dat (.int t), .dat (.int b)] ∧ cs = [] ∧ 0 < b ∧ b < 10 ^ 60 ∧ post (.dat (.tup [.int ((t / Nat.gcd t b : Nat) : Int), .int ((b / Nat.gcd t b : Nat) : Int)])) []
theorem ok_l_low (T : Txt K mg) : FnOk P w K mg base CX0 1 T.a_l_low T.d_l_low ["_law_top", "_law_bottom"] (spG K wLowN) := by
  refine T.F_l_low.ok sc_l_low (fun vs H Q E h => spG_len h fun xs cs post exc ⟨a, b, e, _⟩ => by rw [e]; rfl) (fun cdv A outer s H vs Q E hr h => ⟨_, (pss_cons (ps_par (i := 2) (j := 3) (by rfl) sc_l_low.nd rfl rfl (by decide) rfl rfl (pa_cons (pv 0) (pa_cons (pv 1) pa_nil)) (by rfl))
      (pss_cons (ps_while PassesOwn.never (pt_cmpR op_gt (pv 3) pe_int (nomark _)) (pss_one (ps_par (i := 2) (j := 3) (by rfl) sc_l_low.nd rfl rfl (by decide) rfl rfl (pa_cons (pv 3) (pa_cons (pe_op op_mod (pv 2) (pv 3)) pa_nil)) (by rfl))))
      (pss_one (ps_ret (pe_tup (pa_cons (pe_op op_fdivW (pv 0) (pv 2)) (pa_cons (pe_op op_fdivW (pv 1) (pv 2)) pa_nil))))))), enter h fun F xs cs post hE hw => ?_⟩)
  obtain ⟨t, b, rfl, rfl, b0, b1, q⟩ := hw
  have g0 : 0 < Nat.gcd t b := Nat.gcd_pos_of_pos_right _ b0
  have g1 : Nat.gcd t b ≤ b := Nat.le_of_dvd b0 (Nat.gcd_dvd_right _ _)
  have cd : CDivW 0 ((Nat.gcd t b : Nat) : Int) := ⟨by omega, lg_60 (by omega) (by
    have e : ((10 ^ 60 : Nat) : Int) = 10 ^ 60 := by decide +kernel
    rw [← e]
    exact Int.ofNat_le.mpr (by omega))⟩
  refine ws_seq ?_
  walk_at "T"
  walk_at "nr4"
  refine ws_seq ?_
  refine ws_while (fun m ρ1 => ∃ x y : Nat, ρ1 = ⟨[some (.dat (.int t)), some (.dat (.int b)), some (.dat (.int x)), some (.dat (.int y))], []⟩ ∧ Nat.gcd x y = Nat.gcd t b ∧ m = y) b ⟨t, b, rfl, rfl, rfl⟩ ?_
  rintro m ρ1 ⟨x, y, rfl, e, rfl⟩
  walk_at "D"
  refine ifC (fun c => ?_) (fun c => ?_)
  · have c := of_decide_eq_true c
    walk_at "D"
    refine wr_Ii c ?_
    walk_at "D"
    exact ⟨_, Nat.mod_lt x (by omega), m, x % m, rfl, by rw [Nat.gcd_comm m, ← Nat.gcd_rec, Nat.gcd_comm]; exact e, rfl⟩
  · have c := of_decide_eq_false c
    have y1 : m = 0 := by omega
    subst y1
    rw [Nat.gcd_zero_right] at e
    subst e
    walk_at "D"
    refine wr_Ii cd ?_
    walk_at "D"
    refine wr_Ii cd ?_
    walk_at "D"
    exact fin_dat rfl q
def wSizeV : PW0 := fun xs cs post _ => ∃ (m : Nat) (s : List D), xs = [.cel 0] ∧ cs = [.lst s] ∧ IsV m s ∧ m ≤ 99999 ∧ ∀ (v : Int) s', 3 ≤ v → v ≤ 10 ^ 60 → IsV (m + 1) s' → post (.dat (.int v)) [.lst s']
theorem ok_l_size (T : Txt K mg) : FnOk P w K mg base CX0 2 T.a_l_size T.d_l_size ["_law_well_here"] (spG K wSizeV) := by
  refine T.F_l_size.ok sc_l_size (fun vs H Q E h => spG_len h fun xs cs post exc ⟨a, b, e, _⟩ => by rw [e]; rfl) (fun cdv A outer s H vs Q E hr h => ⟨_, (pss_one (ps_ret (pe_ix ix_list (pe_lst (pa_cons pe_int (pa_cons pe_int (pa_cons pe_int (pa_cons (pe_op op_pow pe_int pe_int) (pa_cons (pe_op op_pow pe_int pe_int) pa_nil)))))) (pe_call (ok_l_draw T) (hr.mono (by decide)) (by rfl) T.g_l_draw T.F_l_draw.kp T.b_l_draw .nil pass0 (pa_cons (pv 0) (pa_cons pe_int pa_nil))) (fun _ _ => rfl)))), enter h fun F xs cs post hE hw => ?_⟩)
  obtain ⟨m, st, rfl, rfl, hs, hm, q⟩ := hw
  walk_at "D"
  refine wr_Ii ⟨by decide, by decide, by decide⟩ ?_
  walk_at "D"
  refine wr_Ii ⟨by decide, by decide, by decide⟩ ?_
  walk_at "D"
  refine wsp_drawV rfl hs (by omega) (by decide) (by decide) fun d s' d0 d1 hs' => ?_
  refine wr_ixA (.cel rfl) d0 d1 fun x hx => ?_
  obtain ⟨v, rfl, v0, v1⟩ : ∃ v : Int, x = .int v ∧ 3 ≤ v ∧ v ≤ 10 ^ 60 := by
    simp only [List.mem_cons, List.not_mem_nil, or_false] at hx
    rcases hx with rfl | rfl | rfl | rfl | rfl <;> exact ⟨_, rfl, by decide, by decide⟩
  exact fin_dat rfl (q v s' v0 v1 hs')
theorem wsp_sizeV {F : Fx} {ρ : En} {k : AV → En → Prop} {E : L2.St → XK} {j : Nat} {m : Nat} {s : List D} (hj : ρ.ce[j]? = some (.lst s)) (hs : IsV m s) (hm : m ≤ 99999) (h : ∀ (v : Int) s', 3 ≤ v → v ≤ 10 ^ 60 → IsV (m + 1) s' → k (.dat (.int v)) (ρ.cell j (.lst s'))) : WpSp K F (spG K wSizeV) E [.cel j] ρ k :=
  wsp1 hj rfl (by show (decide (j = j) && true) = true; rw [decide_eq_true rfl]; rfl) ⟨m, s, rfl, rfl, hs, hm, fun v s' d0 d1 hs' => ⟨.lst s', rfl, rfl, h v s' d0 d1 hs'⟩⟩
/-! ### a text with one sign otherwise -/
theorem cut_len (z : Str) (lo hi : Option Int) : (cutS z lo hi).length = min (HT.sIx z.length z.length hi - HT.sIx z.length 0 lo) (z.length - HT.sIx z.length 0 lo) := by
  rw [TL.len_tl]
  show ((z.cps.toList.drop _).take _).length = _
  rw [List.length_take, List.length_drop, Array.length_toList]
  rfl
theorem cutl1 (z : Str) {a : Int} (h0 : 0 ≤ a) (h1 : a < z.length + 1) : (cutS z none (some a)).length = a.toNat := by
  rw [cut_len]
  show min ((if a < 0 then (a + z.length).toNat else min a.toNat z.length) - 0) (z.length - 0) = _
  rw [if_neg (by omega)]
  omega
theorem cutl2 (z : Str) {a : Int} (h0 : 0 ≤ a) : (cutS z (some a) none).length = z.length - a.toNat := by
  rw [cut_len]
  show min (z.length - (if a < 0 then (a + z.length).toNat else min a.toNat z.length)) (z.length - (if a < 0 then (a + z.length).toNat else min a.toNat z.length)) = _
  rw [if_neg (by omega)]
  omega
theorem cutl3 (z : Str) {a : Int} (h0 : 0 ≤ a) : (cutS z (some a) (some (a + 1))).length ≤ 1 := by
  rw [cut_len]
  show min ((if a + 1 < 0 then (a + 1 + z.length).toNat else min (a + 1).toNat z.length) - (if a < 0 then (a + z.length).toNat else min a.toNat z.length)) (z.length - (if a < 0 then (a + z.length).toNat else min a.toNat z.length)) ≤ 1
  rw [if_neg (by omega), if_neg (by omega)]
  omega
/-- signs that there are -/
def okS (z : Str) : Prop := ∀ c ∈ TL.tl z, c < 1114112
theorem okS.cut {z : Str} (h : okS z) (lo hi : Option Int) : okS (cutS z lo hi) := fun c hc => h c (List.mem_of_mem_drop (List.mem_of_mem_take hc))
theorem okS.app {x y : Str} (h : okS x) (k : okS y) : okS (x ++ y) := fun c hc => by
  rw [TL.tl_append] at hc
  rcases List.mem_append.mp hc with hc | hc
  · exact h c hc
  · exact k c hc
theorem okS.sg {c : Nat} (h : c < 1114112) : okS (sg1 c) := fun d hd => by
  have hd : d ∈ [c] := hd
  rw [List.mem_singleton.mp hd]; exact h
def okSb (z : Str) : Bool := (TL.tl z).all fun c => decide (c < 1114112)
theorem okS_of {z : Str} (h : okSb z = true) : okS z := fun c hc => of_decide_eq_true (List.all_eq_true.mp h c hc)
def wEdited : PW0 := fun xs cs post _ => ∃ (m : Nat) (s : List D) (z : Str), xs = [.cel 0, .dat (.str z)] ∧ cs = [.lst s] ∧ IsV m s ∧ m ≤ 90000 ∧ z.length ≤ 1000 ∧ okS z ∧ ∀ (z' : Str) s', z'.length ≤ z.length + 1 → okS z' → IsV (m + 4) s' → post (.dat (.str z')) [.lst s']
theorem ok_l_edited (T : Txt K mg) : FnOk P w K mg base CX0 2 T.a_l_edited T.d_l_edited ["_law_well_here", "_law_text"] (spG K wEdited) := by
  refine T.F_l_edited.ok sc_l_edited (fun vs H Q E h => spG_len h fun xs cs post exc ⟨a, b, c, e, _⟩ => by rw [e]; rfl) (fun cdv A outer s H vs Q E hr h => ⟨_, (pss_cons (ps_set (i := 2) sc_l_edited.nd rfl (Or.inl rfl) pe_str)
      (pss_cons (ps_set (i := 3) sc_l_edited.nd rfl (Or.inl rfl) (pe_call (ok_l_draw T) (hr.mono (by decide)) (by rfl) T.g_l_draw T.F_l_draw.kp T.b_l_draw .nil pass0 (pa_cons (pv 0) (pa_cons pe_int pa_nil))))
      (pss_cons (ps_set (i := 4) sc_l_edited.nd rfl (Or.inl rfl) (pe_call (ok_l_draw T) (hr.mono (by decide)) (by rfl) T.g_l_draw T.F_l_draw.kp T.b_l_draw .nil pass0 (pa_cons (pv 0) (pa_cons (pe_op op_add (pe_callB call_len_str (by rfl) T.m_len (by decide +kernel) (pa_cons (pv 1) pa_nil)) pe_int) pa_nil))))
      (pss_cons (ps_set (i := 5) sc_l_edited.nd rfl (Or.inl rfl) (pe_ix ix_list (pe_lst (pa_cons (pv 2) (pa_cons pe_str (pa_cons pe_str pa_nil)))) (pe_call (ok_l_draw T) (hr.mono (by decide)) (by rfl) T.g_l_draw T.F_l_draw.kp T.b_l_draw .nil pass0 (pa_cons (pv 0) (pa_cons pe_int pa_nil))) (fun _ _ => rfl)))
      (pss_cons (ps_set (i := 6) sc_l_edited.nd rfl (Or.inl rfl) (pe_ix ix_str (pv 5) (pe_call (ok_l_draw T) (hr.mono (by decide)) (by rfl) T.g_l_draw T.F_l_draw.kp T.b_l_draw .nil pass0 (pa_cons (pv 0) (pa_cons (pe_callB call_len_str (by rfl) T.m_len (by decide +kernel) (pa_cons (pv 5) pa_nil)) pa_nil))) (fun _ _ => rfl)))
      (pss_cons (ps_if (pt_cmpR op_eq (pv 3) pe_int (nomark _)) (pss_one (ps_ret (pe_op op_add_str (pe_slice sl_str (pv 1) po_none (po_some (pv 4))) (pe_slice sl_str (pv 1) (po_some (pe_op op_add (pv 4) pe_int)) po_none)))) pss_nil)
      (pss_cons (ps_if (pt_cmpR op_eq (pv 3) pe_int (nomark _)) (pss_one (ps_ret (pe_op op_add_str (pe_op op_add_str (pe_slice sl_str (pv 1) po_none (po_some (pv 4))) (pe_slice sl_str (pv 1) (po_some (pv 4)) (po_some (pe_op op_add (pv 4) pe_int)))) (pe_slice sl_str (pv 1) (po_some (pv 4)) po_none)))) pss_nil)
      (pss_cons (ps_if (pt_cmpR op_eq (pv 3) pe_int (nomark _)) (pss_one (ps_ret (pe_op op_add_str (pe_op op_add_str (pe_slice sl_str (pv 1) po_none (po_some (pv 4))) (pv 6)) (pe_slice sl_str (pv 1) (po_some (pv 4)) po_none)))) pss_nil)
      (pss_one (ps_ret (pe_op op_add_str (pe_op op_add_str (pe_slice sl_str (pv 1) po_none (po_some (pv 4))) (pv 6)) (pe_slice sl_str (pv 1) (po_some (pe_op op_add (pv 4) pe_int)) po_none)))))))))))), enter h fun F xs cs post hE hw => ?_⟩)
  obtain ⟨m, st, z, rfl, rfl, hs, hm, hl, oz, q⟩ := hw
  have hsl := sizeLine_eq
  have big : (10 : Int) ^ 60 ≥ 100000 := by decide +kernel
  walk_at "S"
  refine wsp_drawV rfl hs (by omega) (by decide) (by decide) fun w s1 w0 w1 hs1 => ?_
  walk_at "S"
  refine wc_lenS (by omega) ?_
  walk_at "S"
  refine wsp_drawV rfl hs1 (by omega) (by omega) (by omega) fun a s2 a0 a1 hs2 => ?_
  walk_at "S"
  refine wsp_drawV rfl hs2 (by omega) (by decide) (by decide) fun r s3 r0 r1 hs3 => ?_
  refine wr_ixA (.cel rfl) r0 r1 fun x hx => ?_
  obtain ⟨y, rfl, y0, y1, oy⟩ : ∃ y : Str, x = .str y ∧ 0 < y.length ∧ y.length ≤ 1000 ∧ okS y := by
    simp only [List.mem_cons, List.not_mem_nil, or_false] at hx
    rcases hx with rfl | rfl | rfl <;> exact ⟨_, rfl, by decide +kernel, by decide +kernel, okS_of (by decide +kernel)⟩
  walk_at "S"
  refine wc_lenS (by omega) ?_
  walk_at "S"
  refine wsp_drawV rfl hs3 (by omega) (by omega) (by omega) fun v s4 v0 v1 hs4 => ?_
  obtain ⟨c, hc, oc⟩ : ∃ c, atI (TL.tl y) v = some c ∧ c < 1114112 := by
    have hv : v.toNat < (TL.tl y).length := by rw [← TL.len_tl]; omega
    have e : ((v.toNat : Nat) : Int) = v := by omega
    have := atI_nat (xs := TL.tl y) (j := v.toNat) (List.getElem?_eq_getElem hv)
    rw [e] at this
    exact ⟨_, this, oy _ (List.getElem_mem hv)⟩
  refine wr_ixS (by omega) hc ?_
  have oc := okS.sg oc
  have l1 := cutl1 z a0 a1
  have l2 := cutl2 z a0
  have l2' := cutl2 z (a := a + 1) (by omega)
  have l3 := cutl3 z a0
  have lg : (sg1 c).length = 1 := rfl
  have fin : ∀ z' : Str, z'.length ≤ z.length + 1 → okS z' → post (.dat (.str z')) [.lst s4] := fun z' h o => q z' s4 h o hs4
  walk_at "S"
  refine ifC (fun cc => ?_) (fun cc => ?_)
  · walk_at "S"
    refine ⟨by omega, ?_⟩
    walk_at "S"
    refine ⟨by omega, ?_⟩
    refine wr_addS (by omega) ?_
    exact fin_dat rfl (fin _ (by rw [app_len]; omega) (.app (oz.cut _ _) (oz.cut _ _)))
  walk_at "S"
  refine ifC (fun cc => ?_) (fun cc => ?_)
  · walk_at "S"
    refine ⟨by omega, ?_⟩
    walk_at "S"
    refine ⟨by omega, ?_⟩
    refine wr_addS (by omega) ?_
    walk_at "S"
    refine ⟨by omega, ?_⟩
    refine wr_addS (by rw [app_len]; omega) ?_
    exact fin_dat rfl (fin _ (by rw [app_len, app_len]; omega) (.app (.app (oz.cut _ _) (oz.cut _ _)) (oz.cut _ _)))
  walk_at "S"
  refine ifC (fun cc => ?_) (fun cc => ?_)
  · walk_at "S"
    refine ⟨by omega, ?_⟩
    walk_at "S"
    refine wr_addS (by omega) ?_
    walk_at "S"
    refine ⟨by omega, ?_⟩
    refine wr_addS (by rw [app_len]; omega) ?_
    exact fin_dat rfl (fin _ (by rw [app_len, app_len]; omega) (.app (.app (oz.cut _ _) oc) (oz.cut _ _)))
  walk_at "S"
  refine ⟨by omega, ?_⟩
  walk_at "S"
  refine wr_addS (by omega) ?_
  walk_at "S"
  refine ⟨by omega, ?_⟩
  refine wr_addS (by rw [app_len]; omega) ?_
  exact fin_dat rfl (fin _ (by rw [app_len, app_len]; omega) (.app (.app (oz.cut _ _) oc) (oz.cut _ _)))
theorem wsp_edited {F : Fx} {ρ : En} {k : AV → En → Prop} {E : L2.St → XK} {j : Nat} {m : Nat} {s : List D} {z : Str} (hj : ρ.ce[j]? = some (.lst s)) (hs : IsV m s) (hm : m ≤ 90000) (hl : z.length ≤ 1000) (oz : okS z) (h : ∀ (z' : Str) s', z'.length ≤ z.length + 1 → okS z' → IsV (m + 4) s' → k (.dat (.str z')) (ρ.cell j (.lst s'))) : WpSp K F (spG K wEdited) E [.cel j, .dat (.str z)] ρ k :=
  wsp1 hj rfl (by show (decide (j = j) && true) = true; rw [decide_eq_true rfl]; rfl) ⟨m, s, z, rfl, rfl, hs, hm, hl, oz, fun z' s' h1 h2 hs' => ⟨.lst s', rfl, rfl, h z' s' h1 h2 hs'⟩⟩
end


section
variable {P : Program} {w : World} {K : PySem.W.Frag} {mg : Str → Option Value} {base : Heap}
/-! ### what the law reads of a word, a text -/
def numI (l : List Nat) : Int := match numO l with
  | some n => (n : Int)
  | none => -1
theorem fl_dg (l : List Nat) : (l.filter fun c => !dg c) = [] ↔ l.all dg = true := by
  rw [List.filter_eq_nil_iff, List.all_eq_true]
  exact ⟨fun h c hc => by have := h c hc; cases e : dg c with
    | true => rfl
    | false => rw [e] at this; exact absurd rfl this, fun h c hc => by rw [h c hc]; exact Bool.false_ne_true⟩
theorem fine_sg : ∀ (l : List Nat) (n : Nat), (∀ c ∈ l, c < 1114112) → fines n (l.map sgD) = true
  | [], n, _ => by cases n <;> rfl
  | x :: l, n, h => by
    have e : fine n (sgD x) = true := by
      have e0 : PyData.strOk (sg1 x) = true := by
        show (#[x] : Array Nat).all _ = true
        rw [← Array.all_toList]
        show (decide (x < 1114112) && true) = true
        rw [decide_eq_true (h x List.mem_cons_self)]; rfl
      cases n <;> exact e0
    show (fine n (sgD x) && fines n (l.map sgD)) = true
    rw [e, fine_sg l n fun c hc => h c (List.mem_cons_of_mem _ hc)]; rfl
theorem fine_fl {z : Str} (h : okS z) (p : Nat → Bool) (n : Nat) : fines n (((TL.tl z).filter p).map sgD) = true := fine_sg _ _ fun c hc => h c (List.mem_filter.mp hc).1
theorem noB_sg (l : List Nat) : noBs (l.map sgD) = true := by
  induction l with
  | nil => rfl
  | cons x l ih => exact ih
theorem ne_nil_sg (l : List Nat) : (!eqD (.lst (l.map sgD)) (.lst [])) = !l.isEmpty := by
  cases l with
  | nil => rfl
  | cons x l => rfl
/-- a comprehension that keeps the signs of which something holds -/
def wLNum : PW0 := fun xs cs post _ => ∃ z : Str, xs = [.dat (.str z)] ∧ cs = [] ∧ z.length ≤ 10000 ∧ okS z ∧ post (.dat (.int (numI (TL.tl z)))) []
theorem numI_no {l : List Nat} (h : isNW l = false) : numI l = -1 := by unfold numI numO; rw [if_neg (by rw [h]; exact Bool.false_ne_true)]
theorem numI_yes {l : List Nat} (h : isNW l = true) : numI l = ((NumText.digitsVal l : Nat) : Int) := by unfold numI numO; rw [if_pos h]
theorem isNW_no {l : List Nat} (h : ¬ (Canon l ∧ l.length ≤ 60)) : isNW l = false := by
  cases e : isNW l with
  | false => rfl
  | true => exact absurd (isNW_iff.mp e) h
theorem ok_l_number_of (T : Txt K mg) : FnOk P w K mg base CX0 1 T.a_l_number_of T.d_l_number_of ["_law_word"] (spG K wLNum) := by
  refine T.F_l_number_of.ok sc_l_number_of (fun vs H Q E h => spG_len h fun xs cs post exc ⟨a, e, _⟩ => by rw [e]; rfl) (fun cdv A outer s H vs Q E hr h => ⟨_, (pss_cons (ps_if (PW.pt (pw_or (pt_not (pt_chain op_le op_le pe_int (pe_callB call_len_str (by rfl) T.m_len (by decide +kernel) (pa_cons (pv 0) pa_nil)) pe_int)) (pw_or1 (pt_cmpR (op_neD hr.units) (pe_lc (own := [("_law_sign", 1)]) (g := gName 1) (by rfl) sc_l_number_of.nd (pi_str (pv 0)) (blkOk_by (own := [("_law_sign", 1)]) (N := N_l_number_of) (sc := defScope s_l_number_of) (by decide +kernel)) (fun _ _ _ _ _ => (pg_name (i := 1) sc_l_number_of.nd rfl (Or.inl rfl))) (fun _ _ _ _ _ => (pts_one (pt_cmpR op_notIn_sign (pv 1) pe_str rfl))) (fun _ _ _ _ _ => (pv 1))) (pe_lst pa_nil) (nomark _))))) (pss_one (ps_ret (pe_un un_neg pe_int))) pss_nil)
      (pss_cons (ps_if (PW.pt (pw_and (pt_cmpR op_eq (pe_ix ix_str (pv 0) pe_int (fun _ _ => rfl)) pe_str (nomark _)) (pw_and1 (pt_cmpR op_gt (pe_callB call_len_str (by rfl) T.m_len (by decide +kernel) (pa_cons (pv 0) pa_nil)) pe_int (nomark _))))) (pss_one (ps_ret (pe_un un_neg pe_int))) pss_nil)
      (pss_one (ps_ret (pe_callTy call_int_str (by rfl) T.m_int (by decide +kernel) (pa_cons (pv 0) pa_nil)))))), enter h fun F xs cs post hE hw => ?_⟩)
  obtain ⟨z, rfl, rfl, hl, oz, q⟩ := hw
  have hsl := sizeLine_eq
  have ln := TL.len_tl z
  walk_at "S"
  refine we_chain ?_
  walk_at "S"
  refine wc_lenS (by omega) ?_
  walk_at "S"
  refine ifC (fun c1 => ?_) (fun c1 => ?_)
  rotate_left
  · have c1 := of_decide_eq_false c1
    walk_at "S"
    rw [numI_no (isNW_no fun h => h.1.ne (List.length_eq_zero_iff.mp (by omega)))] at q
    exact fin_dat rfl q
  have c1 := of_decide_eq_true c1
  walk_at "S"
  refine ifC (fun c2 => ?_) (fun c2 => ?_)
  · have c2 : ¬ (z.length : Int) ≤ 60 := by simpa using c2
    walk_at "S"
    rw [numI_no (isNW_no fun h => by have := h.2; omega)] at q
    exact fin_dat rfl q
  have c2 : (z.length : Int) ≤ 60 := by simpa using c2
  walk_at "S"
  refine loopC_by (fun es ρ => ∃ done rest : List Nat, TL.tl z = done ++ rest ∧ es = rest.map sgD ∧ ρ = ⟨[some (.dat (.str z)), none], [.lst ((done.filter fun c => !dg c).map sgD)]⟩) ⟨[], TL.tl z, rfl, rfl, rfl⟩ ?_ ?_
  · rintro ρ ⟨done, rest, hr, he, rfl⟩
    have r0 : rest = [] := by cases rest with | nil => rfl | cons x r => cases he
    subst r0
    rw [List.append_nil] at hr
    rw [← hr]
    refine ⟨trivial, ?_⟩
    walk_at "S"
    refine wr_neD 2 (by walk_at "od") (by walk_at "od") (by rw [fine]; exact fine_fl oz _ _) rfl (by decide) ?_
    rw [ne_nil_sg]
    walk_at "S"
    cases ha : (TL.tl z).all dg with
    | false =>
      have hf : ((TL.tl z).filter fun c => !dg c).isEmpty = false := by
        rw [List.isEmpty_eq_false_iff]
        intro e
        rw [(fl_dg _).mp e] at ha
        cases ha
      rw [hf]
      walk_at "S"
      rw [numI_no (isNW_no fun h => by
        have : (TL.tl z).all dg = true := List.all_eq_true.mpr fun c hc => dg_iff.mpr (h.1.dg c hc)
        rw [this] at ha; cases ha)] at q
      exact fin_dat rfl q
    | true =>
      rw [(fl_dg _).mpr ha]
      have hd : NumText.AllDigits (TL.tl z) := fun c hc => dg_iff.mp (List.all_eq_true.mp ha c hc)
      walk_at "S"
      obtain ⟨c0, r0, hz⟩ : ∃ c r, TL.tl z = c :: r := by
        cases e : TL.tl z with
        | nil => rw [e] at ln; have ln : z.length = 0 := ln; omega
        | cons c r => exact ⟨c, r, rfl⟩
      refine wr_ixS (by omega) (c := c0) (by rw [hz]; exact atI_nat (j := 0) rfl) ?_
      walk_at "S"
      have e0 : eqS (.str (sg1 c0)) (.str "0") = decide (c0 = 48) := by
        show decide (sg1 c0 = "0") = _
        refine decide_eq_decide.mpr ?_
        rw [eq_tl, tl_zero]
        exact ⟨fun h => by injection h, fun h => by rw [h]; rfl⟩
      refine ifC (fun c3 => ?_) (fun c3 => ?_)
      · have c3 : eqS (.str (sg1 c0)) (.str "0") = true := c3
        rw [e0] at c3
        have c3 := of_decide_eq_true c3
        walk_at "S"
        refine wc_lenS (by omega) ?_
        walk_at "S"
        refine ifC (fun c4 => ?_) (fun c4 => ?_)
        · have c4 := of_decide_eq_true c4
          walk_at "S"
          rw [numI_no (isNW_no fun h => by
            rcases h.1.hd with e | e
            · rw [e] at ln; have ln : z.length = 1 := ln; omega
            · exact e (by rw [hz, c3]; rfl))] at q
          exact fin_dat rfl q
        · have c4 := of_decide_eq_false c4
          have hr0 : r0 = [] := List.length_eq_zero_iff.mp (by rw [hz] at ln; have ln : z.length = r0.length + 1 := ln; omega)
          have hw : isNW (TL.tl z) = true := isNW_iff.mpr ⟨⟨(by rw [hz]; exact fun h => nomatch h), hd, .inl (by rw [hz, c3, hr0])⟩, by omega⟩
          walk_at "S"
          refine wc_intS (isNW_int hw) (by omega) ?_
          rw [numI_yes hw] at q
          exact fin_dat rfl q
      · have c3 : eqS (.str (sg1 c0)) (.str "0") = false := c3
        rw [e0] at c3
        have c3 := of_decide_eq_false c3
        have hw : isNW (TL.tl z) = true := isNW_iff.mpr ⟨⟨(by rw [hz]; exact fun h => nomatch h), hd, .inr (by rw [hz]; exact fun h => c3 (by injection h))⟩, by omega⟩
        walk_at "S"
        refine wc_intS (isNW_int hw) (by omega) ?_
        rw [numI_yes hw] at q
        exact fin_dat rfl q
  · rintro e es ρ ⟨done, rest, hr, he, rfl⟩
    cases rest with
    | nil => cases he
    | cons b rest =>
      injection he with he1 he2
      subst he1 he2
      refine ⟨trivial, ?_⟩
      walk_at "S"
      rw [in_dec]
      refine ifC (fun c => ?_) (fun c => ?_)
      · walk_at "S"
        · rw [List.length_map]
          have := congrArg List.length hr
          rw [List.length_append, ← ln] at this
          have := List.length_filter_le (fun c => !dg c) done
          omega
        refine now ⟨done ++ [b], rest, by rw [hr, List.append_assoc]; rfl, rfl, ?_⟩
        rw [List.filter_append, List.map_append]
        have : [b].filter (fun c => !dg c) = [b] := by rw [List.filter_cons, if_pos c]; rfl
        rw [this]
        rfl
      · refine now ⟨done ++ [b], rest, by rw [hr, List.append_assoc]; rfl, rfl, ?_⟩
        rw [List.filter_append]
        have : [b].filter (fun c => !dg c) = [] := by rw [List.filter_cons, if_neg (by rw [c]; exact Bool.false_ne_true)]; rfl
        rw [this, List.append_nil]
        rfl
def momD (l : List Nat) : D := match momO l with
  | some (t, b) => .tup [.int (t : Int), .int (b : Int)]
  | none => .non
def wLMom : PW0 := fun xs cs post _ => ∃ z : Str, xs = [.dat (.str z)] ∧ cs = [] ∧ z.length ≤ 10000 ∧ okS z ∧ post (.dat (momD (TL.tl z))) []
theorem numI_neg {l : List Nat} : numI l < 0 ↔ numO l = none := by
  unfold numI
  cases numO l with
  | none => simp
  | some n => simp
theorem numI_some {l : List Nat} {n : Nat} (h : numO l = some n) : numI l = n := by unfold numI; rw [h]
theorem numO_lt {l : List Nat} {n : Nat} (h : numO l = some n) : n < 10 ^ 60 := by
  unfold numO at h
  by_cases c : isNW l = true
  · rw [if_pos c] at h; cases h; exact isNW_lt c
  · rw [if_neg c] at h; cases h
theorem low_ne (t b : Nat) (b0 : 0 < b) : (!eqD (.tup [.int ((t / Nat.gcd t b : Nat) : Int), .int ((b / Nat.gcd t b : Nat) : Int)]) (.tup [.int (t : Int), .int (b : Int)])) = !decide (Nat.gcd t b = 1) := by
  congr 1
  rw [Bool.eq_iff_iff, decide_eq_true_eq, eqD_iff _ _ rfl rfl]
  constructor
  · intro h
    injection h with h
    injection h with h1 h2
    injection h2 with h2 _
    injection h2 with h2
    have h2 : b / Nat.gcd t b = b := by omega
    have g := Nat.gcd_pos_of_pos_right t b0
    rcases Nat.lt_or_ge 1 (Nat.gcd t b) with w | w
    · have := Nat.div_lt_self b0 w; omega
    · omega
  · intro h
    rw [h, Nat.div_one, Nat.div_one]
theorem ok_l_moment_of (T : Txt K mg) : FnOk P w K mg base CX0 2 T.a_l_moment_of T.d_l_moment_of ["_law_word"] (spG K wLMom) := by
  refine T.F_l_moment_of.ok sc_l_moment_of (fun vs H Q E h => spG_len h fun xs cs post exc ⟨a, e, _⟩ => by rw [e]; rfl) (fun cdv A outer s H vs Q E hr h => ⟨_, (pss_cons (ps_if (pt_cmpR op_notIn_sign pe_str (pv 0) rfl) (pss_cons (ps_set (i := 1) sc_l_moment_of.nd rfl (Or.inl rfl) (pe_call (ok_l_number_of T) (hr.mono (by decide)) (by rfl) T.g_l_number_of T.F_l_number_of.kp T.b_l_number_of .nil pass0 (pa_cons (pv 0) pa_nil)))
      (pss_one (ps_ret (pe_ifExp (pt_cmpR op_lt (pv 1) pe_int (nomark _)) pe_non (pe_tup (pa_cons (pv 1) (pa_cons pe_int pa_nil))))))) pss_nil)
      (pss_cons (ps_set (i := 2) sc_l_moment_of.nd rfl (Or.inl rfl) (pe_bm PySem.F.plainAttrs_str PySem.F.slot_str_index PySem.F.type_str_index mt_idx0 (pv 0) (pa_cons pe_str pa_nil)))
      (pss_cons (ps_set (i := 3) sc_l_moment_of.nd rfl (Or.inl rfl) (pe_call (ok_l_number_of T) (hr.mono (by decide)) (by rfl) T.g_l_number_of T.F_l_number_of.kp T.b_l_number_of .nil pass0 (pa_cons (pe_slice sl_str (pv 0) po_none (po_some (pv 2))) pa_nil)))
      (pss_cons (ps_set (i := 4) sc_l_moment_of.nd rfl (Or.inl rfl) (pe_call (ok_l_number_of T) (hr.mono (by decide)) (by rfl) T.g_l_number_of T.F_l_number_of.kp T.b_l_number_of .nil pass0 (pa_cons (pe_slice sl_str (pv 0) (po_some (pe_op op_add (pv 2) pe_int)) po_none) pa_nil)))
      (pss_cons (ps_if (PW.pt (pw_or (pt_cmpR op_lt (pv 3) pe_int (nomark _)) (pw_or (pt_cmpR op_lt (pv 4) pe_int (nomark _)) (pw_or1 (pt_cmpR (op_neD hr.units) (pe_call (ok_l_low T) (hr.mono (by decide)) (by rfl) T.g_l_low T.F_l_low.kp T.b_l_low .nil pass0 (pa_cons (pv 3) (pa_cons (pv 4) pa_nil))) (pe_tup (pa_cons (pv 3) (pa_cons (pv 4) pa_nil))) (nomark _)))))) (pss_one (ps_ret pe_non)) pss_nil)
      (pss_one (ps_ret (pe_tup (pa_cons (pv 3) (pa_cons (pv 4) pa_nil)))))))))), enter h fun F xs cs post hE hw => ?_⟩)
  obtain ⟨z, rfl, rfl, hl, oz, q⟩ := hw
  have hsl := sizeLine_eq
  have ln := TL.len_tl z
  walk_at "S"
  rw [show (UInt8.ofNat '/'.val.toNat).toNat = 47 from rfl]
  by_cases h47 : 47 ∈ TL.tl z
  · rw [decide_eq_true h47]
    have hm : momO (TL.tl z) = (match numO (pre47 (TL.tl z)), numO (post47 (TL.tl z)) with
        | some t, some b => if 2 ≤ b ∧ Nat.gcd t b = 1 then some (t, b) else none
        | _, _ => none) := by unfold momO; rw [if_pos h47] <;> rfl
    walk_at "S"
    refine wm_idx0 (index_in h47) ?_
    have pl := pre_le h47
    walk_at "S"
    refine ⟨by omega, ?_⟩
    walk_at "S"
    walk_at "c"
    refine ⟨_, rfl, rfl, by have := cutS_length z none (some (((pre47 (TL.tl z)).length : Nat) : Int)); omega, oz.cut _ _, rfl, ?_⟩
    rw [cut_pre h47]
    walk_at "S"
    refine ⟨by omega, ?_⟩
    walk_at "S"
    walk_at "c"
    refine ⟨_, rfl, rfl, by have := cutS_length z (some (((pre47 (TL.tl z)).length : Nat) + 1 : Int)) none; omega, oz.cut _ _, rfl, ?_⟩
    rw [cut_post h47]
    walk_at "S"
    cases ht : numO (pre47 (TL.tl z)) with
    | none =>
      have e1 : numI (pre47 (TL.tl z)) = -1 := by unfold numI; rw [ht]
      have e2 : momD (TL.tl z) = .non := by unfold momD; rw [hm, ht]
      rw [e1]
      rw [e2] at q
      walk_at "S"
      exact fin_dat rfl q
    | some t =>
      rw [numI_some ht]
      refine ifC (fun c => ?_) (fun c => ?_)
      · have c := of_decide_eq_true c
        omega
      walk_at "S"
      cases hb : numO (post47 (TL.tl z)) with
      | none =>
        have e1 : numI (post47 (TL.tl z)) = -1 := by unfold numI; rw [hb]
        have e2 : momD (TL.tl z) = .non := by unfold momD; rw [hm, ht, hb]
        rw [e1]
        rw [e2] at q
        walk_at "S"
        exact fin_dat rfl q
      | some b =>
        have hm2 : momO (TL.tl z) = if 2 ≤ b ∧ Nat.gcd t b = 1 then some (t, b) else none := by rw [hm, ht, hb]
        rw [numI_some hb]
        refine ifC (fun c => ?_) (fun c => ?_)
        · have c := of_decide_eq_true c
          have e2 : momD (TL.tl z) = .non := by unfold momD; rw [hm2, if_neg (by omega)]
          rw [e2] at q
          walk_at "S"
          exact fin_dat rfl q
        · have c := of_decide_eq_false c
          walk_at "S"
          walk_at "c"
          refine ⟨t, b, rfl, rfl, by omega, numO_lt hb, rfl, ?_⟩
          walk_at "S"
          refine wr_neD 2 (by walk_at "od") (by walk_at "od") rfl rfl (by decide) ?_
          rw [low_ne t b (by omega)]
          by_cases hg : Nat.gcd t b = 1
          · have e2 : momD (TL.tl z) = .tup [.int (t : Int), .int (b : Int)] := by unfold momD; rw [hm2, if_pos ⟨by omega, hg⟩]
            rw [e2] at q
            rw [decide_eq_true hg]
            walk_at "S"
            exact fin_dat rfl q
          · have e2 : momD (TL.tl z) = .non := by unfold momD; rw [hm2, if_neg fun x => hg x.2]
            rw [e2] at q
            rw [decide_eq_false hg]
            walk_at "S"
            exact fin_dat rfl q
  · rw [decide_eq_false h47]
    have hm : momO (TL.tl z) = (numO (TL.tl z)).map fun t => (t, 1) := by unfold momO; rw [if_neg h47]
    walk_at "S"
    walk_at "c"
    refine ⟨_, rfl, rfl, hl, oz, rfl, ?_⟩
    walk_at "S"
    cases ht : numO (TL.tl z) with
    | none =>
      have e1 : numI (TL.tl z) = -1 := by unfold numI; rw [ht]
      have e2 : momD (TL.tl z) = .non := by unfold momD; rw [hm, ht]; rfl
      rw [e1]
      rw [e2] at q
      walk_at "S"
      exact fin_dat rfl q
    | some t =>
      have e2 : momD (TL.tl z) = .tup [.int (t : Int), .int 1] := by unfold momD; rw [hm, ht]; rfl
      rw [e2] at q
      rw [numI_some ht]
      refine ifC (fun c => ?_) (fun c => ?_)
      · have c := of_decide_eq_true c
        omega
      walk_at "S"
      exact fin_dat rfl q
def rowD2 (l : List Nat) : RV := match rowO l with
  | some row => .new (row.map D.int)
  | none => .dat .non
def wLRow : PW0 := fun xs cs post _ => ∃ z : Str, xs = [.dat (.str z)] ∧ cs = [] ∧ z.length ≤ 10000 ∧ okS z ∧ post (rowD2 (TL.tl z)) []
theorem fl_hx (l : List Nat) : (l.filter fun c => !isHx c) = [] ↔ l.all isHx = true := by
  rw [List.filter_eq_nil_iff, List.all_eq_true]
  exact ⟨fun h c hc => by have := h c hc; cases e : isHx c with
    | true => rfl
    | false => rw [e] at this; exact absurd rfl this, fun h c hc => by rw [h c hc]; exact Bool.false_ne_true⟩
theorem cut_two {z : Str} {i : Nat} {a b : Nat} (h0 : (TL.tl z)[2 * i]? = some a) (h1 : (TL.tl z)[2 * i + 1]? = some b) : cutS z (some (2 * (i : Int))) (some (2 * (i : Int) + 2)) = SX.S [a, b] := by
  have l1 := (List.getElem?_eq_some_iff.mp h1).1
  rw [← TL.len_tl] at l1
  refine TL.ext_tl ?_
  show ((TL.tl z).drop (if (2 * (i : Int)) < 0 then ((2 * (i : Int)) + z.length).toNat else min (2 * (i : Int)).toNat z.length)).take ((if (2 * (i : Int) + 2) < 0 then ((2 * (i : Int) + 2) + z.length).toNat else min (2 * (i : Int) + 2).toNat z.length) - (if (2 * (i : Int)) < 0 then ((2 * (i : Int)) + z.length).toNat else min (2 * (i : Int)).toNat z.length)) = [a, b]
  rw [if_neg (by omega), if_neg (by omega)]
  rw [show min (2 * (i : Int)).toNat z.length = 2 * i by omega, show min (2 * (i : Int) + 2).toNat z.length - 2 * i = 2 by omega]
  have g0 := (List.getElem?_eq_some_iff.mp h0)
  have g1 := (List.getElem?_eq_some_iff.mp h1)
  obtain ⟨w0, e0⟩ := g0
  obtain ⟨w1, e1⟩ := g1
  rw [List.drop_eq_getElem_cons w0, List.drop_eq_getElem_cons w1, e0, e1]
  rfl
theorem ok_l_row_of (T : Txt K mg) : FnOk P w K mg base CX0 1 T.a_l_row_of T.d_l_row_of ["_law_text"] (spG K wLRow) := by
  refine T.F_l_row_of.ok sc_l_row_of (fun vs H Q E h => spG_len h fun xs cs post exc ⟨a, e, _⟩ => by rw [e]; rfl) (fun cdv A outer s H vs Q E hr h => ⟨_, (pss_cons (ps_if (PW.pt (pw_or (pt_cmpR op_eq (pe_op op_mod (pe_callB call_len_str (by rfl) T.m_len (by decide +kernel) (pa_cons (pv 0) pa_nil)) pe_int) pe_int (nomark _)) (pw_or1 (pt_cmpR (op_neD hr.units) (pe_lc (own := [("_law_sign", 3)]) (g := gName 3) (by rfl) sc_l_row_of.nd (pi_str (pv 0)) (blkOk_by (own := [("_law_sign", 3)]) (N := N_l_row_of) (sc := defScope s_l_row_of) (by decide +kernel)) (fun _ _ _ _ _ => (pg_name (i := 3) sc_l_row_of.nd rfl (Or.inl rfl))) (fun _ _ _ _ _ => (pts_one (pt_cmpR op_notIn_sign (pv 3) pe_str rfl))) (fun _ _ _ _ _ => (pv 3))) (pe_lst pa_nil) (nomark _))))) (pss_one (ps_ret pe_non)) pss_nil)
      (pss_cons (ps_set (i := 1) sc_l_row_of.nd rfl (Or.inl rfl) (pe_lst pa_nil))
      (pss_cons (ps_for PassesOwn.never rfl (pi_range1 (by rfl) T.m_range (pa_cons (pe_op op_fdivW (pe_callB call_len_str (by rfl) T.m_len (by decide +kernel) (pa_cons (pv 0) pa_nil)) pe_int) pa_nil)) (pg_name (i := 2) sc_l_row_of.nd rfl (Or.inl rfl))
        (pss_one (ps_expr (pe_bm PySem.F.plainAttrs_list PySem.F.slot_list_append PySem.F.type_list_append mt_append (pv 1) (pa_cons (pe_callTy call_int_hex (by rfl) T.m_int (by decide +kernel) (pa_cons (pe_slice sl_str (pv 0) (po_some (pe_op op_mulW pe_int (pv 2))) (po_some (pe_op op_add (pe_op op_mulW pe_int (pv 2)) pe_int))) (pa_cons pe_int pa_nil))) pa_nil)))))
      (pss_one (ps_ret (pv 1)))))), enter h fun F xs cs post hE hw => ?_⟩)
  obtain ⟨z, rfl, rfl, hl, oz, q⟩ := hw
  have hsl := sizeLine_eq
  have ln := TL.len_tl z
  unfold rowD2 rowO at q
  walk_at "S"
  refine wc_lenS (by omega) ?_
  walk_at "S"
  refine wr_Ii (by decide) ?_
  walk_at "S"
  refine ifC (fun c => ?_) (fun c => ?_)
  · have c : decide ((z.length : Int) % 2 = 1) = true := c
    have c := of_decide_eq_true c
    rw [if_pos (.inl (by omega))] at q
    walk_at "S"
    exact fin_dat rfl q
  have c : decide ((z.length : Int) % 2 = 1) = false := c
  have c := of_decide_eq_false c
  have hl2 : (TL.tl z).length % 2 = 0 := by omega
  walk_at "S"
  refine loopC_by (fun es ρ => ∃ done rest : List Nat, TL.tl z = done ++ rest ∧ es = rest.map sgD ∧ ρ = ⟨[some (.dat (.str z)), none, none, none], [.lst ((done.filter fun c => !isHx c).map sgD)]⟩) ⟨[], TL.tl z, rfl, rfl, rfl⟩ ?_ ?_
  · rintro ρ ⟨done, rest, hr, he, rfl⟩
    have r0 : rest = [] := by cases rest with | nil => rfl | cons x r => cases he
    subst r0
    rw [List.append_nil] at hr
    rw [← hr]
    refine ⟨trivial, ?_⟩
    walk_at "S"
    refine wr_neD 2 (by walk_at "od") (by walk_at "od") (by rw [fine]; exact fine_fl oz _ _) rfl (by decide) ?_
    rw [ne_nil_sg]
    walk_at "S"
    cases ha : (TL.tl z).all isHx with
    | false =>
      have hf : ((TL.tl z).filter fun c => !isHx c).isEmpty = false := by
        rw [List.isEmpty_eq_false_iff]
        intro e
        rw [(fl_hx _).mp e] at ha
        cases ha
      rw [hf]
      rw [if_pos (.inr ha)] at q
      walk_at "S"
      exact fin_dat rfl q
    | true =>
      rw [(fl_hx _).mpr ha]
      rw [if_neg (by rw [ha, hl2]; rintro (x | x) <;> cases x)] at q
      have hpl : (pairsB (TL.tl z)).length = z.length / 2 := by rw [pairs_len _ _ (Nat.le_refl _), ← ln]
      walk_at "S"
      refine wc_lenS (by omega) ?_
      walk_at "S"
      refine wr_Ii ⟨by decide, by decide⟩ ?_
      walk_at "S"
      refine ⟨by omega, ?_⟩
      walk_at "nr4"
      have hn : ((z.length : Int) / 2).toNat = z.length / 2 := by omega
      rw [hn]
      refine loop_rng (fun i ρ => ∃ x : Option D, ρ = ⟨[some (.dat (.str z)), some (.cel 2), x.map .dat, none], [.lst [], .lst [], .lst (((pairsB (TL.tl z)).take i).map D.int)]⟩) ⟨none, rfl⟩ ?_ ?_
      · rintro ρ ⟨x, rfl⟩
        refine ⟨trivial, ?_⟩
        walk_at "S"
        rw [List.take_of_length_le (by omega)]
        exact ⟨_, .cel (by decide) rfl, rfl, q⟩
      · rintro i ρ hi ⟨x, rfl⟩
        have g0 : 2 * i < (TL.tl z).length := by rw [← ln]; omega
        have g1 : 2 * i + 1 < (TL.tl z).length := by rw [← ln]; omega
        have hx0 : isHx ((TL.tl z)[2 * i]) = true := List.all_eq_true.mp ha _ (List.getElem_mem _)
        have hx1 : isHx ((TL.tl z)[2 * i + 1]) = true := List.all_eq_true.mp ha _ (List.getElem_mem _)
        have e0 := List.getElem?_eq_getElem g0
        have e1 := List.getElem?_eq_getElem g1
        have hg := pairs_get i (TL.tl z) _ _ e0 e1
        generalize (TL.tl z)[2 * i] = p at *
        generalize (TL.tl z)[2 * i + 1] = r at *
        refine ⟨trivial, ?_⟩
        walk_at "S"
        have mo : CMulW 2 (0 + (i : Int)) := by
          show (2 : Int).natAbs.log2 + (0 + (i : Int)).natAbs.log2 < 1000000
          have : (0 + (i : Int)).natAbs.log2 ≤ (0 + (i : Int)).natAbs := Nat.log2_le_self _
          have : (2 : Int).natAbs.log2 = 1 := by decide
          omega
        refine wr_Ii mo ?_
        walk_at "S"
        refine wr_Ii mo ?_
        walk_at "S"
        refine ⟨by omega, ?_⟩
        walk_at "S"
        rw [Int.zero_add, cut_two e0 e1]
        refine wc_intHex (fun h => nomatch h) (Nat.le_of_ble_eq_true rfl) (fun c hc => ?_) ?_
        · simp only [List.mem_cons, List.not_mem_nil, or_false] at hc
          rcases hc with rfl | rfl
          · exact isHex_of hx0
          · exact isHex_of hx1
        walk_at "S"
        · rw [List.length_map, List.length_take]; omega
        refine now ⟨some (.int i), ?_⟩
        have e5 : ((Hx.hexNum [p, r] : Nat) : Int) = ((Hx.hv p : Nat) : Int) * 16 + ((Hx.hv r : Nat) : Int) := by
          show ((((0 * 16 + Hx.hv p) * 16 + Hx.hv r : Nat)) : Int) = _
          omega
        rw [e5, List.take_add_one, hg, List.map_append]
        rfl
  · rintro e es ρ ⟨done, rest, hr, he, rfl⟩
    cases rest with
    | nil => cases he
    | cons b rest =>
      injection he with he1 he2
      subst he1 he2
      refine ⟨trivial, ?_⟩
      walk_at "S"
      rw [show decide (b ∈ TL.tl ("0123456789abcdef" : Str)) = isHx b from in_hex b]
      refine ifC (fun c => ?_) (fun c => ?_)
      · walk_at "S"
        · rw [List.length_map]
          have := congrArg List.length hr
          rw [List.length_append, ← ln] at this
          have := List.length_filter_le (fun c => !isHx c) done
          omega
        refine now ⟨done ++ [b], rest, by rw [hr, List.append_assoc]; rfl, rfl, ?_⟩
        rw [List.filter_append, List.map_append]
        have : [b].filter (fun c => !isHx c) = [b] := by rw [List.filter_cons, if_pos c]; rfl
        rw [this]
        rfl
      · refine now ⟨done ++ [b], rest, by rw [hr, List.append_assoc]; rfl, rfl, ?_⟩
        rw [List.filter_append]
        have : [b].filter (fun c => !isHx c) = [] := by rw [List.filter_cons, if_neg (by rw [c]; exact Bool.false_ne_true)]; rfl
        rw [this, List.append_nil]
        rfl
end


theorem we_callLS {K : PySem.W.Frag} {F : Fx} {ρ : En} {k : AV → En → Prop} {W : WX} {i : Nat} {f : Addr} {sp : Sp} {t : TA} (hs : ρ.sl[i]? = some (some (.dat (.cls f)))) (h : WpA K F t ρ fun xs ρ1 => WpSp K F sp (L2.WE W) xs ρ1 k) : WpE K F (tCallLS W i f sp t) ρ k := fun as σ H G e Q q => by
  obtain ⟨v, hv, r⟩ := e.sl i _ hs
  cases (show Rep K G (.cls f) v from r)
  exact ⟨hv, h as σ H G e _ fun xs ρ1 vs as1 H1 G1 h1 e1 g1 r1 => h1 as1 σ H1 G1 vs e1 r1 Q (q.imp g1 fun _ _ z => z)⟩
section
variable {P : Program} {w : World} {K : PySem.W.Frag} {mg : Str → Option Value} {base : Heap}
/-! ### what is told, or the refusal's word -/
def txD : D := .tup [.str "text", .bl true]
def saidM (l : List Nat) : D := match momO l with
  | some (t, b) => .tup [.str "told", .tup [.int (t : Int), .int (b : Int)]]
  | none => txD
def saidB (l : List Nat) : D := match rowO l with
  | some row => .tup [.str "told", .lst (row.map D.int)]
  | none => txD
def wSaid (fm fh fr fb : Addr) : PW0 := fun xs cs post _ => ∃ (f : Addr) (d : D), xs = [.dat (.cls f), .dat d] ∧ cs = [] ∧ pl d = true ∧
  ((f = fm ∧ isMo d = false ∧ post (.dat (.tup [.str "moment", .bl true])) []) ∨
   (f = fh ∧ isRw d = false ∧ post (.dat (.tup [.str "bytes", .bl true])) []) ∨
   (f = fr ∧ isStr d = false ∧ post (.dat txD) []) ∨
   (f = fb ∧ isStr d = false ∧ post (.dat txD) []) ∨
   (f = fr ∧ ∃ z, d = .str z ∧ z.length ≤ 10000 ∧ post (.dat (saidM (TL.tl z))) []) ∨
   (f = fb ∧ ∃ z, d = .str z ∧ z.length ≤ 10000 ∧ post (.dat (saidB (TL.tl z))) []))
theorem ok_l_said (T : Txt K mg) : FnOk P w K mg base CX0 6 T.a_l_said T.d_l_said ["_law_ask", "_law_thing"] (spG K (wSaid T.a_moment_word T.a_hex_of T.a_read_moment T.a_bytes_of)) := by
  refine T.F_l_said.ok sc_l_said (fun vs H Q E h => spG_len h fun xs cs post exc ⟨a, b, e, _⟩ => by rw [e]; rfl) (fun cdv A outer s H vs Q E hr h => ⟨_, (pss_one (ps_tryT rfl rfl takes0
        (fun W pn xe tk po => (pss_one (ps_ret (pe_tup (pa_cons pe_str (pa_cons (pe_either (pe_callLS (i := 0) (ok_moment_word T) (hr.mono (by decide)) rfl (Or.inl rfl) T.F_moment_word.kp T.b_moment_word (fun σ => passAt tk σ) (pa_cons (pv 1) pa_nil)) (pe_either (pe_callLS (i := 0) (ok_hex_of T) (hr.mono (by decide)) rfl (Or.inl rfl) T.F_hex_of.kp T.b_hex_of (fun σ => passAt tk σ) (pa_cons (pv 1) pa_nil)) (pe_either (pe_callLS (i := 0) (ok_read_moment T) (hr.mono (by decide)) rfl (Or.inl rfl) T.F_read_moment.kp T.b_read_moment (fun σ => passAt tk σ) (pa_cons (pv 1) pa_nil)) (pe_callLS (i := 0) (ok_bytes_of T) (hr.mono (by decide)) rfl (Or.inl rfl) T.F_bytes_of.kp T.b_bytes_of (fun σ => passAt tk σ) (pa_cons (pv 1) pa_nil))))) pa_nil))))))
        (.named (i := 2) sc_l_said.nd rfl rfl ⟨rfl, by decide, .inl T.g_ScrollError⟩ (fun a oe cls d pn hz hf => (pss_cons (ps_set (i := 3) sc_l_said.nd rfl (Or.inl rfl) (pe_lst (pa_cons (pe_callB (call_isE2 (K := K) rfl hz hf) (by rfl) T.m_isinstance (by decide +kernel) (pa_cons (pv 2) (pa_cons (pe_glob (v := .ref T.c_NoMoment) (by rfl) T.g_NoMoment rfl) pa_nil))) (pa_cons (pe_callB (call_isE2 (K := K) rfl hz hf) (by rfl) T.m_isinstance (by decide +kernel) (pa_cons (pv 2) (pa_cons (pe_glob (v := .ref T.c_NoBytes) (by rfl) T.g_NoBytes rfl) pa_nil))) (pa_cons (pe_callB (call_isE2 (K := K) rfl hz hf) (by rfl) T.m_isinstance (by decide +kernel) (pa_cons (pv 2) (pa_cons (pe_glob (v := .ref T.c_NoText) (by rfl) T.g_NoText rfl) pa_nil))) pa_nil)))))
      (pss_cons (ps_if (pt_cmpR op_ne (pe_bmK (K := K) rfl PySem.F.plainAttrs_list PySem.F.slot_list_count PySem.F.type_list_count (mt_lcountBK (K := K) rfl) (pv 3) (pa_cons pe_bl pa_nil)) pe_int (nomark _)) (pss_one (ps_ret (pe_tup (pa_cons pe_str (pa_cons (pe_callB (call_isE2 (K := K) rfl hz hf) (by rfl) T.m_isinstance (by decide +kernel) (pa_cons (pv 2) (pa_cons (pe_bltn (v := .ty "ValueError") (by rfl) T.m_ValueError (by decide +kernel) rfl) pa_nil))) pa_nil))))) pss_nil)
      (pss_one (ps_ret (pe_tup (pa_cons (pe_ix (ix_listK (K := K) rfl) (pe_lst (pa_cons pe_str (pa_cons pe_str (pa_cons pe_str pa_nil)))) (pe_bmK (K := K) rfl PySem.F.plainAttrs_list PySem.F.slot_list_index PySem.F.type_list_index (mt_indexK (K := K) rfl) (pv 3) (pa_cons pe_bl pa_nil)) (fun _ _ => rfl)) (pa_cons (pe_callB (call_isE2 (K := K) rfl hz hf) (by rfl) T.m_isinstance (by decide +kernel) (pa_cons (pv 2) (pa_cons (pe_bltn (v := .ty "ValueError") (by rfl) T.m_ValueError (by decide +kernel) rfl) pa_nil))) pa_nil)))))))) .nil))), enter h fun F xs cs post hE hw => ?_⟩)
  obtain ⟨f, d, rfl, rfl, hp, hq⟩ := hw
  walk_at "nr2"
  refine ws_tryT (fun C ρ' => ∃ kd : Str, ((C = T.c_NoMoment ∧ kd = "moment") ∨ (C = T.c_NoBytes ∧ kd = "bytes") ∨ (C = T.c_NoText ∧ kd = "text")) ∧ post (.dat (.tup [.str kd, .bl true])) [] ∧ ρ' = ⟨[some (.dat (.cls f)), some (.dat d), none, none], []⟩) (fun F1 W _ hW => ?_) (fun C ρ' hx => ?_)
  · refine ws_ret ?_
    refine we_tup ?_
    refine wa_cons ?_
    refine we_cs ?_
    refine wa_cons ?_
    rcases hq with ⟨rfl, hd, q⟩ | ⟨rfl, hd, q⟩ | ⟨rfl, hd, q⟩ | ⟨rfl, hd, q⟩ | ⟨rfl, z, rfl, hl, q⟩ | ⟨rfl, z, rfl, hl, q⟩
    · refine we_or1 ?_
      refine we_callLS rfl ?_
      walk_at "D"
      exact wspT hW (by walk_at "as") ⟨_, rfl, rfl, hp, fun _ => ⟨"moment", .inl ⟨rfl, rfl⟩, q, rfl⟩, fun x => absurd x (by rw [hd]; exact Bool.false_ne_true)⟩
    · refine we_or2 (we_or1 ?_)
      refine we_callLS rfl ?_
      walk_at "D"
      exact wspT hW (by walk_at "as") ⟨_, rfl, rfl, hp, fun _ => ⟨"bytes", .inr (.inl ⟨rfl, rfl⟩), q, rfl⟩, fun row e hb => by
        subst e
        have : isRw (.lst (row.map D.int)) = true := by
          show (row.map D.int).all (inR 0 255) = true
          rw [List.all_map, List.all_eq_true]
          exact fun x hx => inR_int (hb x hx).1 (hb x hx).2
        rw [this] at hd; cases hd⟩
    · refine we_or2 (we_or2 (we_or1 ?_))
      refine we_callLS rfl ?_
      walk_at "D"
      exact wspT hW (by walk_at "as") ⟨_, rfl, rfl, hp, fun _ => ⟨"text", .inr (.inr ⟨rfl, rfl⟩), q, rfl⟩, fun z e => by subst e; cases hd⟩
    · refine we_or2 (we_or2 (we_or2 ?_))
      refine we_callLS rfl ?_
      walk_at "D"
      exact wspT hW (by walk_at "as") ⟨_, rfl, rfl, hp, fun _ => ⟨"text", .inr (.inr ⟨rfl, rfl⟩), q, rfl⟩, fun z e => by subst e; cases hd⟩
    · refine we_or2 (we_or2 (we_or1 ?_))
      refine we_callLS rfl ?_
      walk_at "D"
      refine wspT hW (by walk_at "as") ⟨_, rfl, rfl, hp, (fun x => by cases x), fun z2 e => ?_⟩
      injection e with e
      subst e
      unfold saidM at q
      refine ⟨by omega, fun hn => ⟨"text", .inr (.inr ⟨rfl, rfl⟩), by rw [hn] at q; exact q, rfl⟩, fun t b hs => ⟨rfl, ?_⟩⟩
      rw [hs] at q
      walk_at "D"
      exact fin_dat rfl q
    · refine we_or2 (we_or2 (we_or2 ?_))
      refine we_callLS rfl ?_
      walk_at "D"
      refine wspT hW (by walk_at "as") ⟨_, rfl, rfl, hp, (fun x => by cases x), fun z2 e => ?_⟩
      injection e with e
      subst e
      unfold saidB at q
      refine ⟨by omega, fun hn => ⟨"text", .inr (.inr ⟨rfl, rfl⟩), by rw [hn] at q; exact q, rfl⟩, fun row hs => ⟨rfl, ?_⟩⟩
      rw [hs] at q
      walk_at "D"
      exact fin_dat rfl q
  · obtain ⟨kd, hk, q, rfl⟩ := hx
    rcases hk with ⟨rfl, rfl⟩ | ⟨rfl, rfl⟩ | ⟨rfl, rfl⟩
    · refine ⟨true, T.em_NoMoment_ScrollError, fun e => ?_⟩
      walk_at "D"
      refine we_cr (fun _ => Rep.cls _) ?_
      walk_at "D"
      refine wc_isE T.xc_NoMoment T.io_NoMoment_NoMoment ?_
      walk_at "D"
      refine we_cr (fun _ => Rep.cls _) ?_
      walk_at "D"
      refine wc_isE T.xc_NoMoment T.io_NoMoment_NoBytes ?_
      walk_at "D"
      refine we_cr (fun _ => Rep.cls _) ?_
      walk_at "D"
      refine wc_isE T.xc_NoMoment T.io_NoMoment_NoText ?_
      walk_at "D"
      refine wm_cnt rfl rfl rfl ?_
      walk_at "D"
      refine wm_idx (m := 0) rfl rfl rfl rfl rfl (fun i y hi => absurd hi (by omega)) ?_
      walk_at "D"
      refine wc_isEB T.xc_NoMoment T.io_NoMoment_ValueError ?_
      walk_at "D"
      exact fin_dat rfl q
    · refine ⟨true, T.em_NoBytes_ScrollError, fun e => ?_⟩
      walk_at "D"
      refine we_cr (fun _ => Rep.cls _) ?_
      walk_at "D"
      refine wc_isE T.xc_NoBytes T.io_NoBytes_NoMoment ?_
      walk_at "D"
      refine we_cr (fun _ => Rep.cls _) ?_
      walk_at "D"
      refine wc_isE T.xc_NoBytes T.io_NoBytes_NoBytes ?_
      walk_at "D"
      refine we_cr (fun _ => Rep.cls _) ?_
      walk_at "D"
      refine wc_isE T.xc_NoBytes T.io_NoBytes_NoText ?_
      walk_at "D"
      refine wm_cnt rfl rfl rfl ?_
      walk_at "D"
      refine wm_idx (m := 1) rfl rfl rfl rfl rfl (fun i y hi hy => by
        obtain rfl : i = 0 := by omega
        cases hy; rfl) ?_
      walk_at "D"
      refine wc_isEB T.xc_NoBytes T.io_NoBytes_ValueError ?_
      walk_at "D"
      exact fin_dat rfl q
    · refine ⟨true, T.em_NoText_ScrollError, fun e => ?_⟩
      walk_at "D"
      refine we_cr (fun _ => Rep.cls _) ?_
      walk_at "D"
      refine wc_isE T.xc_NoText T.io_NoText_NoMoment ?_
      walk_at "D"
      refine we_cr (fun _ => Rep.cls _) ?_
      walk_at "D"
      refine wc_isE T.xc_NoText T.io_NoText_NoBytes ?_
      walk_at "D"
      refine we_cr (fun _ => Rep.cls _) ?_
      walk_at "D"
      refine wc_isE T.xc_NoText T.io_NoText_NoText ?_
      walk_at "D"
      refine wm_cnt rfl rfl rfl ?_
      walk_at "D"
      refine wm_idx (m := 2) rfl rfl rfl rfl rfl (fun i y hi hy => by
        rcases (show i = 0 ∨ i = 1 by omega) with rfl | rfl <;> (cases hy; rfl)) ?_
      walk_at "D"
      refine wc_isEB T.xc_NoText T.io_NoText_ValueError ?_
      walk_at "D"
      exact fin_dat rfl q
/-! ### whether what is told is due -/
def wAlike : PW0 := fun xs cs post _ => ∃ f d : D, xs = [.dat f, .dat d] ∧ cs = [] ∧ ((d = .non ∧ f = txD) ∨ (∃ t b : Int, d = .tup [.int t, .int b] ∧ f = .tup [.str "told", d]) ∨ ∃ row : List Int, d = .lst (row.map D.int) ∧ f = .tup [.str "told", d]) ∧ post (.dat (.bl true)) []
theorem fine_ints (l : List Int) (n : Nat) : fines n (l.map D.int) = true := by
  induction l with
  | nil => cases n <;> rfl
  | cons x l ih => cases n <;> exact ih
theorem noB_ints (l : List Int) : noBs (l.map D.int) = true := by
  induction l with
  | nil => rfl
  | cons x l ih => exact ih
theorem eq_self {d : D} (h : noB d = true) : eqD d d = true := (eqD_iff d d h h).mpr rfl
theorem ok_l_alike (T : Txt K mg) : FnOk P w K mg base CX0 1 T.a_l_alike T.d_l_alike ["_law_found", "_law_due"] (spG K wAlike) := by
  refine T.F_l_alike.ok sc_l_alike (fun vs H Q E h => spG_len h fun xs cs post exc ⟨a, b, e, _⟩ => by rw [e]; rfl) (fun cdv A outer s H vs Q E hr h => ⟨_, (pss_cons (ps_if (pt_cmpR op_isN (pv 1) pe_non (nomark _)) (pss_one (ps_ret (pe_cmpR (op_eqD hr.units) (pv 0) (pe_tup (pa_cons pe_str (pa_cons pe_bl pa_nil))) (nomark _)))) pss_nil)
      (pss_cons (ps_if (PW.pt (pw_or (pt_cmpR op_ne (pe_ix ix_tup (pv 0) pe_int (fun _ _ => rfl)) pe_str (nomark _)) (pw_or1 (pt_cmpR op_ne (pe_callB call_isi (by rfl) T.m_isinstance (by decide +kernel) (pa_cons (pe_ix ix_tup (pv 0) pe_int (fun _ _ => rfl)) (pa_cons (pe_bltn (v := .ty "tuple") (by rfl) T.m_tuple (by decide +kernel) rfl) pa_nil))) (pe_callB call_isi (by rfl) T.m_isinstance (by decide +kernel) (pa_cons (pv 1) (pa_cons (pe_bltn (v := .ty "tuple") (by rfl) T.m_tuple (by decide +kernel) rfl) pa_nil))) (nomark _))))) (pss_one (ps_ret pe_bl)) pss_nil)
      (pss_one (ps_ret (pe_and (pe_cmpR (op_eqD hr.units) (pe_ix ix_tup (pv 0) pe_int (fun _ _ => rfl)) (pv 1) (nomark _)) (pe_one (pe_cmpR (op_eqD hr.units) (pe_lc (own := [("_law_one_here", 2)]) (g := gName 2) (by rfl) sc_l_alike.nd (pi_either (pi_list (pe_ix ix_tup (pv 0) pe_int (fun _ _ => rfl))) (pi_tup (pe_ix ix_tup (pv 0) pe_int (fun _ _ => rfl)))) (blkOk_by (own := [("_law_one_here", 2)]) (N := N_l_alike) (sc := defScope s_l_alike) (by decide +kernel)) (fun _ _ _ _ _ => (pg_name (i := 2) sc_l_alike.nd rfl (Or.inl rfl))) (fun _ _ _ _ _ => (pts_one (pt_val (pe_callB (call_isiB (K := K) rfl) (by rfl) T.m_isinstance (by decide +kernel) (pa_cons (pv 2) (pa_cons (pe_bltn (v := .ty "bool") (by rfl) T.m_bool (by decide +kernel) rfl) pa_nil)))))) (fun _ _ _ _ _ => (pv 2))) (pe_lst pa_nil) (nomark _)))))))), enter h fun F xs cs post hE hw => ?_⟩)
  obtain ⟨f, d, rfl, rfl, hq, q⟩ := hw
  rcases hq with ⟨rfl, rfl⟩ | ⟨t, b, rfl, rfl⟩ | ⟨row, rfl, rfl⟩
  · walk_at "S"
    refine wr_eqD 3 (by walk_at "od") (by walk_at "od") (by decide +kernel) (by decide +kernel) (by decide) ?_
    rw [show eqD txD (.tup [.str "text", .bl true]) = true from by decide +kernel]
    exact fin_dat rfl q
  · walk_at "S"
    refine wr_eqD 3 (by walk_at "od") (by walk_at "od") rfl rfl (by decide) ?_
    rw [eq_self rfl]
    walk_at "S"
    refine wi_ei2 ?_
    walk_at "S"
    refine loopC_by (fun es ρ => ∃ x, ρ = ⟨[some (.dat (.tup [.str "told", .tup [.int t, .int b]])), some (.dat (.tup [.int t, .int b])), x], [.lst []]⟩ ∧ ∀ e ∈ es, ∃ i : Int, e = .int i) ⟨none, rfl, fun e he => by
      simp only [List.mem_cons, List.not_mem_nil, or_false] at he
      rcases he with rfl | rfl <;> exact ⟨_, rfl⟩⟩ ?_ ?_
    · rintro ρ ⟨x, rfl, _⟩
      refine ⟨trivial, ?_⟩
      walk_at "S"
      refine wr_eqD 3 (by walk_at "od") (by walk_at "od") rfl rfl (by decide) ?_
      exact fin_dat rfl q
    · rintro e es ρ ⟨x, rfl, he⟩
      obtain ⟨i, rfl⟩ := he e List.mem_cons_self
      refine ⟨trivial, ?_⟩
      walk_at "S"
      exact now ⟨_, rfl, fun e h => he e (List.mem_cons_of_mem _ h)⟩
  · walk_at "S"
    refine wr_eqD 3 (by walk_at "od") (by walk_at "od") (by rw [fine]; exact fine_ints _ _) (by rw [fine]; exact fine_ints _ _) (by decide) ?_
    rw [eq_self (by rw [noB]; exact noB_ints _)]
    walk_at "S"
    refine wi_ei1 ?_
    walk_at "S"
    refine loopC_by (fun es ρ => ∃ x, ρ = ⟨[some (.dat (.tup [.str "told", .lst (row.map D.int)])), some (.dat (.lst (row.map D.int))), x], [.lst []]⟩ ∧ ∀ e ∈ es, ∃ i : Int, e = .int i) ⟨none, rfl, fun e he => by
      obtain ⟨i, _, rfl⟩ := List.mem_map.mp he
      exact ⟨_, rfl⟩⟩ ?_ ?_
    · rintro ρ ⟨x, rfl, _⟩
      refine ⟨.dat _, ?_⟩
      walk_at "S"
      refine wr_eqD 3 (by walk_at "od") (by walk_at "od") rfl rfl (by decide) ?_
      exact fin_dat rfl q
    · rintro e es ρ ⟨x, rfl, he⟩
      obtain ⟨i, rfl⟩ := he e List.mem_cons_self
      refine ⟨.dat _, ?_⟩
      walk_at "S"
      exact now ⟨_, rfl, fun e h => he e (List.mem_cons_of_mem _ h)⟩
end


/-- slots forgotten -/
theorem ws_wipe {K : PySem.W.Frag} {F : Fx} {ρ : En} {t : TS} {ks : KS} (vs : List Nat) (h : WpS K F t (ρ.wipe vs) ks) : WpS K F t ρ ks := fun as σ H G e D q => h as σ H G (e.wipe rfl) D q
/-! ### what is asked of the law -/
def spLaw (K : PySem.W.Frag) : Sp := fun vs H Q _ => ∃ (a : Addr) (ns : List Int), vs = [.ref a] ∧ SqL K H a (ns.map V.int) ∧ ns.length ≤ 63 ∧ ∀ H', Q (.bl true) H'
/-! ### a call with keywords; a law's promise -/
theorem we_callN {K : PySem.W.Frag} {F : Fx} {ρ : En} {k : AV → En → Prop} {n m : Nat} {sp : Sp} {gV : List V → List V → List V} {E : XK} {t tk : TA} (h : WpA K F t ρ fun xs ρ1 => WpA K F tk ρ1 fun ys ρ2 => ∃ zs, xs.length = n ∧ ys.length = m ∧ (∀ G as vs ws, RepAs K G as xs vs → RepAs K G as ys ws → RepAs K G as zs (gV vs ws)) ∧ WpSp K F sp (fun _ => E) zs ρ2 k) : WpE K F (L2.tCallN n m sp gV E t tk) ρ k := fun as σ H G e Q q =>
  h as σ H G e _ fun xs ρ1 vs as1 H1 G1 h1 e1 g1 r1 => h1 as1 σ H1 G1 e1 _ fun ys ρ2 ws as2 H2 G2 ⟨zs, l1, l2, hg, h2⟩ e2 g2 r2 => ⟨by rw [r1.length]; exact l1, by rw [r2.length]; exact l2, h2 as2 σ H2 G2 _ e2 (hg _ _ _ _ (r1.mono g2) r2) Q (q.imp (g1.trans g2) fun _ _ z => z)⟩
def wLaw : PW0 := fun xs cs post _ => ∃ ns : List Int, xs = [.dat (.scr (ns.map D.int))] ∧ cs = [] ∧ ns.length ≤ 63 ∧ post (.dat (.bl true)) []
theorem law_of {K : PySem.W.Frag} {vs : List V} {H : Hp} {Q : VK} {E : XK} (h : spLaw K vs H Q E) : spG K wLaw vs H Q E := by
  obtain ⟨a, ns, rfl, hs, hl, q⟩ := h
  let G : Hp := fun b => match H b with | some (.ins _ _ _) => none | r => r
  have ge : ∀ b o, G b = some o → H b = some o ∧ ∀ C d f, o ≠ .ins C d f := fun b o e => by
    have e : (match H b with | some (.ins _ _ _) => none | r => r) = some o := e
    cases w : H b with
    | none => rw [w] at e; cases e
    | some u =>
      rw [w] at e
      cases u <;> first | (cases e; exact ⟨rfl, fun _ _ _ z => by cases z⟩) | cases e
  have gk : ∀ b o, H b = some o → (∀ C d f, o ≠ .ins C d f) → G b = some o := fun b o e n => by
    show (match H b with | some (.ins _ _ _) => none | r => r) = some o
    rw [e]
    cases o <;> first | rfl | exact absurd rfl (n _ _ _)
  have gs : Same (er G) (er H) := fun b o e => by
    obtain ⟨u, hu, e2⟩ := er_some e
    rw [er_of (ge b u hu).1, e2]
  have hs' : SqL K G a (ns.map V.int) := by
    rcases hs with (h | ⟨o, h⟩) | h
    · exact .inl (.inl (gk _ _ h fun _ _ _ z => by cases z))
    · exact .inl (.inr ⟨o, gk _ _ h fun _ _ _ z => by cases z⟩)
    · exact .inr h
  refine ⟨G, [], fun _ _ => none, [.dat (.scr (ns.map D.int))], [], fun r _ => r = .dat (.bl true), fun _ => False, gs, ⟨rfl, List.nodup_nil, fun j c a hc => by simp at hc⟩, RegsAt.no (fun j t X z => by simp at z), .cons (Rep.scr hs' Reps.ofV) .nil, ⟨ns, rfl, rfl, hl, rfl⟩, fun _ => none, ⟨fun b C dx fs n g hb => absurd rfl ((ge b _ hb).2 C dx fs), fun b o z => by cases z⟩, ?_, fun _ _ _ z => z.elim⟩
  intro r cs v H' G' Ts' hp _ _ _ _ _ _ _ rr _
  subst hp
  rw [Rep.blE rr]
  exact q H'
theorem cut_ints (ns : List Int) (lo hi : Option Int) : ∃ ms : List Int, cutD (ns.map D.int) lo hi = ms.map D.int ∧ ms.length ≤ ns.length := by
  refine ⟨(ns.drop (HT.sIx ns.length 0 lo)).take (HT.sIx ns.length ns.length hi - HT.sIx ns.length 0 lo), ?_, ?_⟩
  · unfold cutD
    rw [List.length_map, List.map_take, List.map_drop]
  · rw [List.length_take, List.length_drop]
    omega
section
variable {P : Program} {w : World} {K : PySem.W.Frag} {mg : Str → Option Value} {base : Heap}
/-! ### what is none is refused -/
def wNoneR : PW0 := fun xs cs post _ => ∃ (m : Nat) (s : List D), xs = [.cel 0] ∧ cs = [.lst s] ∧ IsV m s ∧ m ≤ 90000 ∧ ∀ s', IsV (m + 3) s' → post (.dat (.bl true)) [.lst s']
theorem moD : (!eqD (.tup [.str "moment", .bl true]) (.tup [.str "moment", .bl true])) = false := by decide +kernel
theorem byD : (!eqD (.tup [.str "bytes", .bl true]) (.tup [.str "bytes", .bl true])) = false := by decide +kernel
theorem txE : eqD txD (.tup [.str "text", .bl true]) = true := by decide +kernel
theorem ok_l_none_right (T : Txt K mg) : FnOk P w K mg base CX0 7 T.a_l_none_right T.d_l_none_right ["_law_well_here"] (spG K wNoneR) := by
  refine T.F_l_none_right.ok sc_l_none_right (fun vs H Q E h => spG_len h fun xs cs post exc ⟨a, b, e, _⟩ => by rw [e]; rfl) (fun cdv A outer s H vs Q E hr h => ⟨_, (pss_cons (ps_set (i := 1) sc_l_none_right.nd rfl (Or.inl rfl) (pe_call (ok_l_one T) (hr.mono (by decide)) (by rfl) T.g_l_one T.F_l_one.kp T.b_l_one .nil pass0 (pa_cons (pv 0) (pa_cons (pe_lst (pa_cons pe_non (pa_cons (pe_tup (pa_cons pe_int (pa_cons pe_int pa_nil))) (pa_cons (pe_tup (pa_cons pe_int (pa_cons pe_int pa_nil))) (pa_cons (pe_tup (pa_cons (pe_un un_neg pe_int) (pa_cons pe_int pa_nil))) (pa_cons pe_int (pa_cons pe_str (pa_cons (pe_tup (pa_cons pe_bl (pa_cons pe_int pa_nil))) (pa_cons (pe_lst (pa_cons pe_int (pa_cons pe_int pa_nil))) (pa_cons (pe_tup (pa_cons pe_int (pa_cons pe_int (pa_cons pe_int pa_nil)))) (pa_cons (pe_tup (pa_cons pe_int pa_nil)) (pa_cons (pe_tup (pa_cons pe_int (pa_cons pe_int pa_nil))) (pa_cons (pe_tup (pa_cons pe_int (pa_cons (pe_un un_neg pe_int) pa_nil))) pa_nil))))))))))))) pa_nil))))
      (pss_cons (ps_set (i := 2) sc_l_none_right.nd rfl (Or.inl rfl) (pe_lst (pa_cons pe_non (pa_cons pe_str (pa_cons (pe_lst (pa_cons pe_int pa_nil)) (pa_cons (pe_lst (pa_cons (pe_un un_neg pe_int) pa_nil)) (pa_cons (pe_lst (pa_cons pe_bl pa_nil)) (pa_cons (pe_tup (pa_cons pe_int (pa_cons pe_int pa_nil))) (pa_cons pe_dnewK (pa_cons (pe_lst (pa_cons pe_int (pa_cons pe_non (pa_cons pe_int pa_nil)))) (pa_cons pe_int (pa_cons (pe_lst (pa_cons pe_int (pa_cons (pe_lst (pa_cons pe_int pa_nil)) pa_nil))) (pa_cons (pe_lst (pa_cons pe_str pa_nil)) (pa_cons (pe_lst (pa_cons pe_int (pa_cons pe_int pa_nil))) pa_nil))))))))))))))
      (pss_cons (ps_set (i := 3) sc_l_none_right.nd rfl (Or.inl rfl) (pe_call (ok_l_one T) (hr.mono (by decide)) (by rfl) T.g_l_one T.F_l_one.kp T.b_l_one .nil pass0 (pa_cons (pv 0) (pa_cons (pe_lst (pa_cons pe_non (pa_cons pe_int (pa_cons (pe_lst (pa_cons pe_int pa_nil)) (pa_cons (pe_tup (pa_cons pe_str pa_nil)) (pa_cons pe_bl (pa_cons pe_dnewK (pa_cons (pe_tup (pa_cons pe_int (pa_cons pe_int pa_nil))) pa_nil)))))))) pa_nil))))
      (pss_cons (ps_if (pt_cmpR (op_neD hr.units) (pe_call (ok_l_said T) (hr.mono (by decide)) (by rfl) T.g_l_said T.F_l_said.kp T.b_l_said .nil pass0 (pa_cons (pe_glob (v := .ref T.a_moment_word) (by rfl) T.g_moment_word rfl) (pa_cons (pv 1) pa_nil))) (pe_tup (pa_cons pe_str (pa_cons pe_bl pa_nil))) (nomark _)) (pss_one (ps_ret pe_bl)) pss_nil)
      (pss_cons (ps_if (pt_cmpR (op_neD hr.units) (pe_call (ok_l_said T) (hr.mono (by decide)) (by rfl) T.g_l_said T.F_l_said.kp T.b_l_said .nil pass0 (pa_cons (pe_glob (v := .ref T.a_hex_of) (by rfl) T.g_hex_of rfl) (pa_cons (pe_call (ok_l_one T) (hr.mono (by decide)) (by rfl) T.g_l_one T.F_l_one.kp T.b_l_one .nil pass0 (pa_cons (pv 0) (pa_cons (pv 2) pa_nil))) pa_nil))) (pe_tup (pa_cons pe_str (pa_cons pe_bl pa_nil))) (nomark _)) (pss_one (ps_ret pe_bl)) pss_nil)
      (pss_one (ps_ret (pe_and (pe_cmpR (op_eqD hr.units) (pe_call (ok_l_said T) (hr.mono (by decide)) (by rfl) T.g_l_said T.F_l_said.kp T.b_l_said .nil pass0 (pa_cons (pe_glob (v := .ref T.a_read_moment) (by rfl) T.g_read_moment rfl) (pa_cons (pv 3) pa_nil))) (pe_tup (pa_cons pe_str (pa_cons pe_bl pa_nil))) (nomark _)) (pe_one (pe_cmpR (op_eqD hr.units) (pe_call (ok_l_said T) (hr.mono (by decide)) (by rfl) T.g_l_said T.F_l_said.kp T.b_l_said .nil pass0 (pa_cons (pe_glob (v := .ref T.a_bytes_of) (by rfl) T.g_bytes_of rfl) (pa_cons (pv 3) pa_nil))) (pe_tup (pa_cons pe_str (pa_cons pe_bl pa_nil))) (nomark _))))))))))), enter h fun F xs cs post hE hw => ?_⟩)
  obtain ⟨m, st, rfl, rfl, hs, hm, q⟩ := hw
  refine ws_seq ?_
  walk_at "T"
  refine wsp_frz (j := 2) rfl ?_
  walk_at "nr4"
  refine wsp_oneV rfl hs (by omega) (by decide) (by decide) fun d s1 hd hs1 => ?_
  have hd : pl d = true ∧ isMo d = false := by
    simp only [List.mem_cons, List.not_mem_nil, or_false] at hd
    rcases hd with rfl | rfl | rfl | rfl | rfl | rfl | rfl | rfl | rfl | rfl | rfl | rfl <;> exact ⟨by decide +kernel, by decide +kernel⟩
  walk_at "T"
  walk_at "N"
  walk_at "N"
  refine wsp_frz (j := 13) rfl ?_
  walk_at "nr4"
  refine wsp_oneV rfl hs1 (by omega) (by decide) (by decide) fun d2 s2 hd2 hs2 => ?_
  have hd2 : pl d2 = true ∧ isStr d2 = false := by
    simp only [List.mem_cons, List.not_mem_nil, or_false] at hd2
    rcases hd2 with rfl | rfl | rfl | rfl | rfl | rfl | rfl <;> exact ⟨by decide +kernel, by decide +kernel⟩
  walk_at "T"
  walk_at "N"
  refine we_cr (fun _ => Rep.cls _) ?_
  walk_at "T"
  walk_at "c"
  refine ⟨_, _, rfl, rfl, hd.1, .inl ⟨rfl, hd.2, rfl, ?_⟩⟩
  walk_at "T"
  refine wr_neD 3 (by walk_at "od") (by walk_at "od") (by decide +kernel) (by decide +kernel) (by decide) ?_
  rw [moD]
  walk_at "T"
  walk_at "N"
  refine we_cr (fun _ => Rep.cls _) ?_
  walk_at "T"
  refine wsp_frz (j := 11) rfl ?_
  walk_at "nr4"
  refine wsp_oneV rfl hs2 (by omega) (by decide) (by decide) fun d3 s3 hd3 hs3 => ?_
  have hd3 : pl d3 = true ∧ isRw d3 = false := by
    simp only [List.mem_cons, List.not_mem_nil, or_false] at hd3
    rcases hd3 with rfl | rfl | rfl | rfl | rfl | rfl | rfl | rfl | rfl | rfl | rfl | rfl <;> exact ⟨by decide +kernel, by decide +kernel⟩
  walk_at "T"
  walk_at "c"
  refine ⟨_, _, rfl, rfl, hd3.1, .inr (.inl ⟨rfl, hd3.2, rfl, ?_⟩)⟩
  walk_at "T"
  refine wr_neD 3 (by walk_at "od") (by walk_at "od") (by decide +kernel) (by decide +kernel) (by decide) ?_
  rw [byD]
  walk_at "T"
  walk_at "nr4"
  refine we_cr (fun _ => Rep.cls _) ?_
  walk_at "T"
  walk_at "c"
  refine ⟨_, _, rfl, rfl, hd2.1, .inr (.inr (.inl ⟨rfl, hd2.2, rfl, ?_⟩))⟩
  walk_at "T"
  refine wr_eqD 3 (by walk_at "od") (by walk_at "od") (by decide +kernel) (by decide +kernel) (by decide) ?_
  rw [txE]
  walk_at "T"
  refine we_cr (fun _ => Rep.cls _) ?_
  walk_at "T"
  walk_at "c"
  refine ⟨_, _, rfl, rfl, hd2.1, .inr (.inr (.inr (.inl ⟨rfl, hd2.2, rfl, ?_⟩)))⟩
  walk_at "T"
  refine wr_eqD 3 (by walk_at "od") (by walk_at "od") (by decide +kernel) (by decide +kernel) (by decide) ?_
  rw [txE]
  exact fin_dat rfl (q _ hs3)
theorem wsp_noneR {F : Fx} {ρ : En} {k : AV → En → Prop} {E : L2.St → XK} {j : Nat} {m : Nat} {s : List D} (hj : ρ.ce[j]? = some (.lst s)) (hs : IsV m s) (hm : m ≤ 90000) (h : ∀ s', IsV (m + 3) s' → k (.dat (.bl true)) (ρ.cell j (.lst s'))) : WpSp K F (spG K wNoneR) E [.cel j] ρ k :=
  wsp1 hj rfl (by show (decide (j = j) && true) = true; rw [decide_eq_true rfl]; rfl) ⟨m, s, rfl, rfl, hs, hm, fun s' hs' => ⟨.lst s', rfl, rfl, h s' hs'⟩⟩
/-! ### the law -/
theorem one_rep (z : Str) : repS z 1 = z := TL.ext_tl (by rw [repS_tl]; simp)
theorem no_rep (z : Str) : repS z 0 = Str.empty := TL.ext_tl rfl
theorem wordL (t b : Nat) : numS (t : Int) ++ repS ("/" ++ numS (b : Int)) (if b = 1 then 0 else 1) = fracW t b := by
  refine TL.ext_tl ?_
  rw [tl_fracW, TL.tl_append, tl_numS]
  unfold momW
  by_cases h : b = 1
  · rw [if_pos h, if_pos h, no_rep]
    exact List.append_nil _
  · rw [if_neg h, if_neg h, one_rep, TL.tl_append, tl_numS, tl_slash]
    rfl
theorem fracW_len {t b : Nat} (ht : t < 10 ^ 60) (hb : b < 10 ^ 60) : (fracW t b).length ≤ 121 := by
  rw [TL.len_tl, tl_fracW]
  have l1 := TL.numL_len (k := 60) (by decide) ht
  have l2 := TL.numL_len (k := 60) (by decide) hb
  unfold momW
  by_cases h : b = 1
  · rw [if_pos h]; omega
  · rw [if_neg h, List.length_append, List.length_cons]; omega
/-- a moment of the law's -/
structure LM (t b : Nat) : Prop where
  ht : t < 10 ^ 60
  hb : b < 10 ^ 60
  b1 : 1 ≤ b
  g : Nat.gcd t b = 1
theorem LM.of {t b : Nat} (b0 : 0 < b) (ht : t < 10 ^ 60) (hb : b < 10 ^ 60) : LM (t / Nat.gcd t b) (b / Nat.gcd t b) := by
  have g0 := Nat.gcd_pos_of_pos_right t b0
  exact ⟨Nat.lt_of_le_of_lt (Nat.div_le_self _ _) ht, Nat.lt_of_le_of_lt (Nat.div_le_self _ _) hb, Nat.div_pos (Nat.le_of_dvd b0 (Nat.gcd_dvd_right _ _)) g0, Nat.coprime_div_gcd_div_gcd g0⟩
theorem LM.mo {t b : Nat} (h : LM t b) : isMo (.tup [.int (t : Int), .int (b : Int)]) = true := by
  rw [isMo_tup, decide_eq_true h.b1, decide_eq_true h.g]
  rfl
theorem LM.said {t b : Nat} (h : LM t b) : saidM (TL.tl (fracW t b)) = .tup [.str "told", .tup [.int (t : Int), .int (b : Int)]] := by
  unfold saidM
  rw [tl_fracW, mom_word h.ht h.hb h.b1 h.g]
theorem Bys.said {row : List Int} (h : Bys row) : saidB (TL.tl (hexT row)) = .tup [.str "told", .lst (row.map D.int)] := by
  unfold saidB
  rw [row_hex h]
theorem pls_ints (l : List Int) : pls (l.map D.int) = true := by
  induction l with
  | nil => rfl
  | cons x l ih => show (true && pls (l.map D.int)) = true; rw [ih]; rfl
theorem lt60 {n : Nat} (h : (n : Int) < 10 ^ 60) : n < 10 ^ 60 := by
  have e : ((10 ^ 60 : Nat) : Int) = 10 ^ 60 := by decide +kernel
  rw [← e] at h
  exact Int.ofNat_lt.mp h
theorem ints_inj : ∀ {xs ys : List Int}, xs.map D.int = ys.map D.int → xs = ys
  | [], [], _ => rfl
  | [], _ :: _, h => nomatch h
  | _ :: _, [], h => nomatch h
  | x :: xs, y :: ys, h => by
    rw [List.map_cons, List.map_cons] at h
    injection h with h1 h2
    injection h1 with h1
    rw [h1, ints_inj h2]
theorem isRw_bys {row : List Int} (hb : Bys row) : isRw (.lst (row.map D.int)) = true := by
  show (row.map D.int).all (inR 0 255) = true
  rw [List.all_map, List.all_eq_true]
  exact fun x hx => inR_int (hb x hx).1 (hb x hx).2
theorem okS_numL (n : Nat) : ∀ c ∈ TL.numL n, c < 1114112 := fun c hc => by have := TL.numL_digits n c hc; omega
theorem okS_frac (t b : Nat) : okS (fracW (t : Int) (b : Int)) := fun c hc => by
  rw [tl_fracW] at hc
  unfold momW at hc
  split at hc
  · exact okS_numL t c hc
  · rcases List.mem_append.mp hc with hc | hc
    · exact okS_numL t c hc
    · rcases List.mem_cons.mp hc with rfl | hc
      · decide
      · exact okS_numL b c hc
theorem isHx_lt {c : Nat} (h : isHx c = true) : c < 1114112 := by
  unfold isHx at h
  rw [Bool.or_eq_true, dg_iff, Bool.and_eq_true, decide_eq_true_eq, decide_eq_true_eq] at h
  omega
theorem okS_hex {row : List Int} (h : Bys row) : okS (hexT row) := fun c hc => by
  rw [tl_hexT] at hc
  exact isHx_lt (List.all_eq_true.mp (row_back h).2.1 c hc)
theorem alikeM (l : List Nat) : (momD l = .non ∧ saidM l = txD) ∨ (∃ t b : Int, momD l = .tup [.int t, .int b] ∧ saidM l = .tup [.str "told", momD l]) ∨ ∃ row : List Int, momD l = .lst (row.map D.int) ∧ saidM l = .tup [.str "told", momD l] := by
  unfold momD saidM
  cases momO l with
  | none => exact .inl ⟨rfl, rfl⟩
  | some p => exact .inr (.inl ⟨_, _, rfl, rfl⟩)
theorem IsV.up {m n : Nat} {s : List D} (h : IsV m s) (l : m ≤ n) : IsV n s := by
  obtain ⟨x, y, z, e, a, b, c, d⟩ := h
  exact ⟨x, y, z, e, a, b, c, by omega⟩
theorem ne_selfS (z : Str) : (!eqS (.str z) (.str z)) = false := by
  show (!decide (z = z)) = false
  rw [decide_eq_true rfl]; rfl
theorem long_is : (("1" : Str) ++ repS "0" 59) = numS ((10 ^ 59 : Nat) : Int) := by decide +kernel
theorem longw : (("1" : Str) ++ repS "0" 59) ++ "/7" = fracW ((10 ^ 59 : Nat) : Int) ((7 : Nat) : Int) := by
  rw [long_is]; rfl
theorem long_len : (("1" : Str) ++ repS "0" 59).length = 60 := by rw [app_len, repS_len]; rfl
theorem lm_long : LM (10 ^ 59) 7 := ⟨by decide +kernel, by decide +kernel, by decide, by decide +kernel⟩
theorem long_no : saidM (TL.tl ((("1" : Str) ++ repS "0" 59) ++ "0")) = txD := by
  unfold saidM
  rw [show momO (TL.tl ((("1" : Str) ++ repS "0" 59) ++ "0")) = none by decide +kernel]
theorem emp_no : saidM (TL.tl ("" : Str)) = txD := by
  unfold saidM
  rw [show momO (TL.tl ("" : Str)) = none by decide +kernel]
def greatW : Str := (("7" : Str) ++ repS "0" 89) ++ "1/7"
theorem great_is : greatW = fracW ((7 * 10 ^ 90 + 1 : Nat) : Int) ((7 : Nat) : Int) := by decide +kernel
theorem great_no : saidM (TL.tl greatW) = txD := by
  unfold saidM
  rw [show momO (TL.tl greatW) = none by decide +kernel]
theorem great_len : greatW.length = 93 := by
  unfold greatW
  rw [app_len, app_len, repS_len]; rfl
theorem great_fD : fD ((((10 ^ 45 : Int)) : Rat) * (((10 ^ 45 : Int)) : Rat) + 1 / 7) = .tup [.int ((7 * 10 ^ 90 + 1 : Nat) : Int), .int ((7 : Nat) : Int)] := by
  unfold fD
  rw [show ((((10 ^ 45 : Int)) : Rat) * (((10 ^ 45 : Int)) : Rat) + 1 / 7).num = ((7 * 10 ^ 90 + 1 : Nat) : Int) by decide +kernel, show ((((10 ^ 45 : Int)) : Rat) * (((10 ^ 45 : Int)) : Rat) + 1 / 7).den = 7 by decide +kernel]
theorem fD7 : D.tup [.int 1, .int 7] = fD (1 / 7) := by
  unfold fD
  rw [show (1 / 7 : Rat).num = 1 by decide +kernel, show (1 / 7 : Rat).den = 7 by decide +kernel]
  rfl
theorem great_mo : isMo (.tup [.int ((7 * 10 ^ 90 + 1 : Nat) : Int), .int ((7 : Nat) : Int)]) = true := by
  rw [isMo_tup]
  decide +kernel
theorem sm_dec {n : Nat} {x : Int} (h : decide (x.natAbs < 2 ^ n) = true) : Sm n x := (of_decide_eq_true h : x.natAbs < 2 ^ n)
theorem sz_great : Sz 4000 (((10 ^ 45 : Int)) : Rat) ∧ Sz 4000 ((((10 ^ 45 : Int)) : Rat) * (((10 ^ 45 : Int)) : Rat)) ∧ Sz 4000 (1 / 7) := ⟨⟨sm_dec (by decide +kernel), sm_dec (by decide +kernel)⟩, ⟨sm_dec (by decide +kernel), sm_dec (by decide +kernel)⟩, ⟨sm_dec (by decide +kernel), sm_dec (by decide +kernel)⟩⟩
theorem ok_law (T : Txt K mg) : FnOk P w K mg base CX0 8 T.a_law T.d_law ["_law_script"] (spLaw K) := by
  refine FnOk.imp (sp := spG K wLaw) ?_ (fun vs H Q E h => law_of h)
  refine T.F_law.ok sc_law (fun vs H Q E h => spG_len h fun xs cs post exc ⟨a, e, _⟩ => by rw [e]; rfl) (fun cdv A outer s H vs Q E hr h => ⟨_, (pss_cons (ps_for PassesOwn.never rfl (pi_list (pe_op op_catF (pe_lst (pa_cons (pe_call (ok_l_cell_at T) (hr.mono (by decide)) (by rfl) T.g_l_cell_at T.F_l_cell_at.kp T.b_l_cell_at .nil pass0 (pa_cons (pv 0) (pa_cons pe_int pa_nil))) pa_nil)) (pe_slice sl_list (pv 0) (po_some pe_int) (po_some pe_int)))) (pg_name (i := 1) sc_law.nd rfl (Or.inl rfl))
        (pss_cons (ps_set (i := 2) sc_law.nd rfl (Or.inr rfl) (pe_call (ok_l_well T) (hr.mono (by decide)) (by rfl) T.g_l_well T.F_l_well.kp T.b_l_well .nil pass0 (pa_cons (pv 1) pa_nil)))
      (pss_cons (ps_set (i := 3) sc_law.nd rfl (Or.inl rfl) (pe_op op_add pe_int (pe_call (ok_l_draw T) (hr.mono (by decide)) (by rfl) T.g_l_draw T.F_l_draw.kp T.b_l_draw .nil pass0 (pa_cons (pv 2) (pa_cons pe_int pa_nil)))))
      (pss_cons (ps_set (i := 4) sc_law.nd rfl (Or.inl rfl) (pe_call (ok_l_low T) (hr.mono (by decide)) (by rfl) T.g_l_low T.F_l_low.kp T.b_l_low .nil pass0 (pa_cons (pe_call (ok_l_draw T) (hr.mono (by decide)) (by rfl) T.g_l_draw T.F_l_draw.kp T.b_l_draw .nil pass0 (pa_cons (pv 2) (pa_cons (pe_call (ok_l_size T) (hr.mono (by decide)) (by rfl) T.g_l_size T.F_l_size.kp T.b_l_size .nil pass0 (pa_cons (pv 2) pa_nil)) pa_nil))) (pa_cons (pe_op op_add pe_int (pe_call (ok_l_draw T) (hr.mono (by decide)) (by rfl) T.g_l_draw T.F_l_draw.kp T.b_l_draw .nil pass0 (pa_cons (pv 2) (pa_cons (pe_op op_sub (pe_call (ok_l_size T) (hr.mono (by decide)) (by rfl) T.g_l_size T.F_l_size.kp T.b_l_size .nil pass0 (pa_cons (pv 2) pa_nil)) pe_int) pa_nil)))) pa_nil))))
      (pss_cons (ps_setLc (i := 6) (own := [("_law_k", 5)]) (g := gName 5) (tt := tYes) (by rfl) sc_law.nd rfl rfl (sw_true rfl rfl rfl (by decide +kernel)) (pi_range1 (by rfl) T.m_range (pa_cons (pe_call (ok_l_one T) (hr.mono (by decide)) (by rfl) T.g_l_one T.F_l_one.kp T.b_l_one .nil pass0 (pa_cons (pv 2) (pa_cons (pe_lst (pa_cons pe_int (pa_cons pe_int (pa_cons pe_int (pa_cons (pe_call (ok_l_draw T) (hr.mono (by decide)) (by rfl) T.g_l_draw T.F_l_draw.kp T.b_l_draw .nil pass0 (pa_cons (pv 2) (pa_cons pe_int pa_nil))) pa_nil))))) pa_nil))) pa_nil)) (blkOk_by (own := [("_law_k", 5)]) (N := N_law) (sc := defScope s_law) (by decide +kernel)) (fun _ _ _ _ _ => (pg_name (i := 5) sc_law.nd rfl (Or.inl rfl))) (fun _ _ _ _ _ => pts_nil) (fun _ _ _ _ _ => (pe_call (ok_l_draw T) (hr.mono (by decide)) (by rfl) T.g_l_draw T.F_l_draw.kp T.b_l_draw .nil pass0 (pa_cons (pv 2) (pa_cons pe_int pa_nil)))))
      (pss_cons (ps_set (i := 7) sc_law.nd rfl (Or.inl rfl) (pe_op op_add_str (pe_callTy call_str_int (by rfl) T.m_str (by decide +kernel) (pa_cons (pe_ix ix_tup (pv 4) pe_int (fun _ _ => rfl)) pa_nil)) (pe_op op_mulS (pe_op op_add_str pe_str (pe_callTy call_str_int (by rfl) T.m_str (by decide +kernel) (pa_cons (pe_ix ix_tup (pv 4) pe_int (fun _ _ => rfl)) pa_nil))) (pe_callTy call_int1 (by rfl) T.m_int (by decide +kernel) (pa_cons (pe_cmpR op_gt (pe_ix ix_tup (pv 4) pe_int (fun _ _ => rfl)) pe_int (nomark _)) pa_nil)))))
      (pss_cons (ps_set (i := 8) sc_law.nd rfl (Or.inl rfl) (pe_bm PySem.F.plainAttrs_str PySem.F.slot_str_join PySem.F.type_str_join mt_join pe_str (pa_cons (pe_lc (own := [("_law_byte", 13)]) (g := gName 13) (tt := tYes) (by rfl) sc_law.nd (pi_list (pv 6)) (blkOk_by (own := [("_law_byte", 13)]) (N := N_law) (sc := defScope s_law) (by decide +kernel)) (fun _ _ _ _ _ => (pg_name (i := 13) sc_law.nd rfl (Or.inl rfl))) (fun _ _ _ _ _ => pts_nil) (fun _ _ _ _ _ => (pe_op op_add_str (pe_ix ix_str pe_str (pe_op op_fdivW (pv 13) pe_int) (fun _ _ => rfl)) (pe_ix ix_str pe_str (pe_op op_mod (pv 13) pe_int) (fun _ _ => rfl))))) pa_nil)))
      (pss_cons (ps_set (i := 9) sc_law.nd rfl (Or.inl rfl) (pe_callTy call_list_of (by rfl) T.m_list (by decide +kernel) (pa_cons (pv 6) pa_nil)))
      (pss_cons (ps_for PassesOwn.never rfl (pi_range1 (by rfl) T.m_range (pa_cons pe_int pa_nil)) (pg_name (i := 10) sc_law.nd rfl (Or.inl rfl))
        (pss_cons (ps_if (PW.pt (pw_or (pt_cmpR op_ne (pe_call (ok_moment_word T) (hr.mono (by decide)) (by rfl) T.g_moment_word T.F_moment_word.kp T.b_moment_word .nil passL (pa_cons (pv 4) pa_nil)) (pv 7) (nomark _)) (pw_or1 (pt_not (pt_val (pe_call (ok_l_alike T) (hr.mono (by decide)) (by rfl) T.g_l_alike T.F_l_alike.kp T.b_l_alike .nil pass0 (pa_cons (pe_call (ok_l_said T) (hr.mono (by decide)) (by rfl) T.g_l_said T.F_l_said.kp T.b_l_said .nil pass0 (pa_cons (pe_glob (v := .ref T.a_read_moment) (by rfl) T.g_read_moment rfl) (pa_cons (pv 7) pa_nil))) (pa_cons (pv 4) pa_nil)))))))) (pss_one (ps_ret pe_bl)) pss_nil)
      (pss_cons (ps_if (PW.pt (pw_or (pt_cmpR op_ne (pe_call (ok_hex_of T) (hr.mono (by decide)) (by rfl) T.g_hex_of T.F_hex_of.kp T.b_hex_of .nil passL (pa_cons (pv 9) pa_nil)) (pv 8) (nomark _)) (pw_or (pt_cmpR (op_neD hr.units) (pv 9) (pv 6) (nomark _)) (pw_or1 (pt_not (pt_val (pe_call (ok_l_alike T) (hr.mono (by decide)) (by rfl) T.g_l_alike T.F_l_alike.kp T.b_l_alike .nil pass0 (pa_cons (pe_call (ok_l_said T) (hr.mono (by decide)) (by rfl) T.g_l_said T.F_l_said.kp T.b_l_said .nil pass0 (pa_cons (pe_glob (v := .ref T.a_bytes_of) (by rfl) T.g_bytes_of rfl) (pa_cons (pv 8) pa_nil))) (pa_cons (pv 6) pa_nil))))))))) (pss_one (ps_ret pe_bl)) pss_nil)
      (pss_one (ps_if (pt_not (pt_val (pe_call (ok_l_none_right T) (hr.mono (by decide)) (by rfl) T.g_l_none_right T.F_l_none_right.kp T.b_l_none_right .nil pass0 (pa_cons (pv 2) pa_nil)))) (pss_one (ps_ret pe_bl)) pss_nil)))))
      (pss_cons (ps_for PassesOwn.never rfl (pi_range1 (by rfl) T.m_range (pa_cons (pv 3) pa_nil)) (pg_name (i := 5) sc_law.nd rfl (Or.inl rfl))
        (pss_cons (ps_set (i := 7) sc_law.nd rfl (Or.inl rfl) (pe_call (ok_l_edited T) (hr.mono (by decide)) (by rfl) T.g_l_edited T.F_l_edited.kp T.b_l_edited .nil pass0 (pa_cons (pv 2) (pa_cons (pv 7) pa_nil))))
      (pss_one (ps_set (i := 8) sc_law.nd rfl (Or.inl rfl) (pe_call (ok_l_edited T) (hr.mono (by decide)) (by rfl) T.g_l_edited T.F_l_edited.kp T.b_l_edited .nil pass0 (pa_cons (pv 2) (pa_cons (pv 8) pa_nil)))))))
      (pss_cons (ps_if (pt_not (pt_val (pe_call (ok_l_alike T) (hr.mono (by decide)) (by rfl) T.g_l_alike T.F_l_alike.kp T.b_l_alike .nil pass0 (pa_cons (pe_call (ok_l_said T) (hr.mono (by decide)) (by rfl) T.g_l_said T.F_l_said.kp T.b_l_said .nil pass0 (pa_cons (pe_glob (v := .ref T.a_read_moment) (by rfl) T.g_read_moment rfl) (pa_cons (pv 7) pa_nil))) (pa_cons (pe_call (ok_l_moment_of T) (hr.mono (by decide)) (by rfl) T.g_l_moment_of T.F_l_moment_of.kp T.b_l_moment_of .nil pass0 (pa_cons (pv 7) pa_nil)) pa_nil))))) (pss_one (ps_ret pe_bl)) pss_nil)
      (pss_one (ps_if (pt_not (pt_val (pe_call (ok_l_alike T) (hr.mono (by decide)) (by rfl) T.g_l_alike T.F_l_alike.kp T.b_l_alike .nil pass0 (pa_cons (pe_call (ok_l_said T) (hr.mono (by decide)) (by rfl) T.g_l_said T.F_l_said.kp T.b_l_said .nil pass0 (pa_cons (pe_glob (v := .ref T.a_bytes_of) (by rfl) T.g_bytes_of rfl) (pa_cons (pv 8) pa_nil))) (pa_cons (pe_call (ok_l_row_of T) (hr.mono (by decide)) (by rfl) T.g_l_row_of T.F_l_row_of.kp T.b_l_row_of .nil pass0 (pa_cons (pv 8) pa_nil)) pa_nil))))) (pss_one (ps_ret pe_bl)) pss_nil)))))))))))))
      (pss_cons (ps_set (i := 11) sc_law.nd rfl (Or.inl rfl) (pe_op op_add_str pe_str (pe_op op_mulS pe_str pe_int)))
      (pss_cons (ps_if (pt_not (pt_val (pe_call (ok_l_alike T) (hr.mono (by decide)) (by rfl) T.g_l_alike T.F_l_alike.kp T.b_l_alike .nil pass0 (pa_cons (pe_call (ok_l_said T) (hr.mono (by decide)) (by rfl) T.g_l_said T.F_l_said.kp T.b_l_said .nil pass0 (pa_cons (pe_glob (v := .ref T.a_read_moment) (by rfl) T.g_read_moment rfl) (pa_cons (pe_op op_add_str (pv 11) pe_str) pa_nil))) (pa_cons (pe_tup (pa_cons (pe_op op_pow pe_int pe_int) (pa_cons pe_int pa_nil))) pa_nil))))) (pss_one (ps_ret pe_bl)) pss_nil)
      (pss_cons (ps_set (i := 12) sc_law.nd rfl (Or.inl rfl) (pe_call (ok_plus T) (hr.mono (by decide)) (by rfl) T.g_plus T.F_plus.kp T.b_plus .nil pass0 (pa_cons (pe_call (ok_times T) (hr.mono (by decide)) (by rfl) T.g_times T.F_times.kp T.b_times .nil pass0 (pa_cons (pe_tup (pa_cons (pe_op op_pow pe_int pe_int) (pa_cons pe_int pa_nil))) (pa_cons (pe_tup (pa_cons (pe_op op_pow pe_int pe_int) (pa_cons pe_int pa_nil))) pa_nil))) (pa_cons (pe_tup (pa_cons pe_int (pa_cons pe_int pa_nil))) pa_nil))))
      (pss_cons (ps_set (i := 7) sc_law.nd rfl (Or.inl rfl) (pe_op op_add_str (pe_op op_add_str pe_str (pe_op op_mulS pe_str pe_int)) pe_str))
      (pss_cons (ps_if (PW.pt (pw_or (pt_cmpR op_ne (pe_call (ok_moment_word T) (hr.mono (by decide)) (by rfl) T.g_moment_word T.F_moment_word.kp T.b_moment_word .nil passL (pa_cons (pv 12) pa_nil)) (pv 7) (nomark _)) (pw_or1 (pt_cmpR (op_neD hr.units) (pe_call (ok_l_said T) (hr.mono (by decide)) (by rfl) T.g_l_said T.F_l_said.kp T.b_l_said .nil pass0 (pa_cons (pe_glob (v := .ref T.a_read_moment) (by rfl) T.g_read_moment rfl) (pa_cons (pv 7) pa_nil))) (pe_tup (pa_cons pe_str (pa_cons pe_bl pa_nil))) (nomark _))))) (pss_one (ps_ret pe_bl)) pss_nil)
      (pss_one (ps_ret (pe_and (pe_cmpR (op_eqD hr.units) (pe_call (ok_l_said T) (hr.mono (by decide)) (by rfl) T.g_l_said T.F_l_said.kp T.b_l_said .nil pass0 (pa_cons (pe_glob (v := .ref T.a_read_moment) (by rfl) T.g_read_moment rfl) (pa_cons (pe_op op_add_str (pv 11) pe_str) pa_nil))) (pe_tup (pa_cons pe_str (pa_cons pe_bl pa_nil))) (nomark _)) (pe_one (pe_cmpR (op_eqD hr.units) (pe_call (ok_l_said T) (hr.mono (by decide)) (by rfl) T.g_l_said T.F_l_said.kp T.b_l_said .nil pass0 (pa_cons (pe_glob (v := .ref T.a_read_moment) (by rfl) T.g_read_moment rfl) (pa_cons pe_str pa_nil))) (pe_tup (pa_cons pe_str (pa_cons pe_bl pa_nil))) (nomark _)))))))))))), enter h fun F xs cs post hE hw => ?_⟩)
  obtain ⟨ns, rfl, rfl, hn, q⟩ := hw
  have hsl := sizeLine_eq
  have e60 : (10 : Int) ^ 60 ≥ 1000000 := by decide +kernel
  refine ws_seq ?_
  walk_at "T"
  walk_at "c"
  refine ⟨ns, rfl, rfl, fun n0 => ⟨rfl, ?_⟩⟩
  walk_at "T"
  obtain ⟨ms, hms, lms⟩ := cut_ints ns (some 1) (some 12)
  rw [hms]
  refine wr_cat (.cel rfl) (.cel rfl) (by rw [List.length_map]; show 1 + _ ≤ _; omega) ?_
  walk_at "T"
  walk_at "nr4"
  refine loop_cut (fun es ρ => (∀ e ∈ es, ∃ n : Int, e = .int n) ∧ ∃ (x1 x3 x4 x5 x6 x7 x8 x9 x10 : Option D), ρ = ⟨[some (.dat (.scr (ns.map D.int))), x1.map .dat, none, x3.map .dat, x4.map .dat, x5.map .dat, x6.map .dat, x7.map .dat, x8.map .dat, x9.map .dat, x10.map .dat, none, none, none], [.lst [.int n0], .lst (ms.map D.int), .lst ([.int n0] ++ ms.map D.int)]⟩) ⟨?_, none, none, none, none, none, none, none, none, none, rfl⟩ ?_ ?_
  · intro e he
    rcases List.mem_cons.mp he with he | he
    · exact ⟨n0, he⟩
    · obtain ⟨i, _, rfl⟩ := List.mem_map.mp he
      exact ⟨i, rfl⟩
  · rintro ρ ⟨_, x1, x3, x4, x5, x6, x7, x8, x9, x10, rfl⟩
    refine ⟨.cel rfl, ?_⟩
    refine ws_wipe [1, 3, 4, 5, 6, 7, 8, 9, 10] ?_
    show WpS K F _ ⟨[some (.dat (.scr (ns.map D.int))), none, none, none, none, none, none, none, none, none, none, none, none, none], [.lst [.int n0], .lst (ms.map D.int), .lst ([.int n0] ++ ms.map D.int)]⟩ _
    refine ws_seq ?_
    walk_at "T"
    refine wr_mulS (n := 59) (by decide) (by decide +kernel) ?_
    refine wr_addS (by rw [repS_len]; show 1 + 59 * 1 ≤ _; omega) ?_
    walk_at "T"
    walk_at "N"
    refine we_cr (fun _ => Rep.cls _) ?_
    walk_at "T"
    refine wr_addS (by rw [long_len]; show 60 + 2 ≤ _; omega) ?_
    walk_at "T"
    walk_at "c"
    refine ⟨_, _, rfl, rfl, rfl, .inr (.inr (.inr (.inr (.inl ⟨rfl, _, rfl, by rw [app_len, long_len]; decide, rfl, ?_⟩))))⟩
    rw [longw, lm_long.said]
    walk_at "T"
    refine wr_Ii ⟨by decide, by decide, by decide⟩ ?_
    walk_at "T"
    rw [show (10 : Int) ^ Int.toNat 59 = ((10 ^ 59 : Nat) : Int) by decide +kernel]
    walk_at "c"
    refine ⟨_, _, rfl, rfl, .inr (.inl ⟨_, _, rfl, rfl⟩), rfl, ?_⟩
    walk_at "T"
    walk_at "N"
    refine wr_Ii ⟨by decide, by decide, by decide⟩ ?_
    walk_at "T"
    refine wr_Ii ⟨by decide, by decide, by decide⟩ ?_
    walk_at "T"
    rw [show (10 : Int) ^ Int.toNat 45 = 10 ^ 45 from rfl]
    walk_at "c"
    refine ⟨(((10 ^ 45 : Int)) : Rat), (((10 ^ 45 : Int)) : Rat), rfl, rfl, ?_, ?_, rfl, ?_⟩
    · exact sz_great.1
    · exact sz_great.1
    walk_at "T"
    rw [fD7]
    walk_at "c"
    refine ⟨_, _, rfl, rfl, sz_great.2.1, sz_great.2.2, rfl, ?_⟩
    rw [great_fD]
    walk_at "T"
    walk_at "N"
    refine wr_mulS (n := 89) (by decide) (by decide +kernel) ?_
    refine wr_addS (by rw [repS_len]; show 1 + 89 * 1 ≤ _; omega) ?_
    walk_at "T"
    refine wr_addS (by rw [app_len, repS_len]; show 1 + 89 * 1 + 3 ≤ _; omega) ?_
    rw [show (("7" : Str) ++ repS "0" 89) ++ "1/7" = greatW from rfl]
    walk_at "T"
    walk_at "N"
    walk_at "c"
    refine ⟨_, rfl, rfl, rfl, (fun h => by rw [great_mo] at h; cases h), fun _ => ⟨_, _, rfl, ?_, ?_, rfl, ?_⟩⟩
    · exact ⟨by decide +kernel, by decide +kernel⟩
    · exact ⟨by decide +kernel, by decide +kernel⟩
    rw [← great_is]
    walk_at "T"
    refine we_cr (fun _ => Rep.cls _) ?_
    walk_at "T"
    walk_at "c"
    refine ⟨_, _, rfl, rfl, rfl, .inr (.inr (.inr (.inr (.inl ⟨rfl, _, rfl, by rw [great_len]; decide, rfl, ?_⟩))))⟩
    rw [great_no]
    walk_at "T"
    refine wr_neD 3 (by walk_at "od") (by walk_at "od") (by decide +kernel) (by decide +kernel) (by decide) ?_
    rw [txE]
    walk_at "T"
    walk_at "nr4"
    walk_at "T"
    refine we_cr (fun _ => Rep.cls _) ?_
    walk_at "T"
    refine wr_addS (by rw [long_len]; show 60 + 1 ≤ _; omega) ?_
    walk_at "T"
    walk_at "c"
    refine ⟨_, _, rfl, rfl, rfl, .inr (.inr (.inr (.inr (.inl ⟨rfl, _, rfl, by rw [app_len, long_len]; decide, rfl, ?_⟩))))⟩
    rw [long_no]
    walk_at "T"
    refine wr_eqD 3 (by walk_at "od") (by walk_at "od") (by decide +kernel) (by decide +kernel) (by decide) ?_
    rw [txE]
    walk_at "T"
    refine we_cr (fun _ => Rep.cls _) ?_
    walk_at "T"
    walk_at "c"
    refine ⟨_, _, rfl, rfl, rfl, .inr (.inr (.inr (.inr (.inl ⟨rfl, _, rfl, by decide, rfl, ?_⟩))))⟩
    rw [emp_no]
    walk_at "T"
    refine wr_eqD 3 (by walk_at "od") (by walk_at "od") (by decide +kernel) (by decide +kernel) (by decide) ?_
    rw [txE]
    exact fin_dat rfl q
  · rintro e es ρ ⟨he, x1, x3, x4, x5, x6, x7, x8, x9, x10, rfl⟩
    --<<
    obtain ⟨n, rfl⟩ := he e List.mem_cons_self
    refine ⟨.cel rfl, ?_⟩
    refine wg_name ?_
    refine ws_wipe [3, 4, 5, 6, 7, 8, 9, 10] ?_
    show WpS K F _ ⟨[some (.dat (.scr (ns.map D.int))), some (.dat (.int n)), none, none, none, none, none, none, none, none, none, none, none, none], [.lst [.int n0], .lst (ms.map D.int), .lst ([.int n0] ++ ms.map D.int)]⟩ _
    walk_at "T"
    walk_at "N"
    walk_at "c"
    refine ⟨n, rfl, rfl, fun s0 hs0 => ⟨rfl, ?_⟩⟩
    walk_at "T"
    walk_at "N"
    refine wsp_drawV (j := 3) rfl hs0 (by decide) (by decide) (by decide) fun ed s1 ed0 ed1 hs1 => ?_
    walk_at "T"
    walk_at "N"
    refine wsp_sizeV (j := 3) rfl hs1 (by decide) fun v1 s2 v10 v11 hs2 => ?_
    walk_at "T"
    refine wsp_drawV (j := 3) rfl hs2 (by decide) (by omega) v11 fun t s3 t0 t1 hs3 => ?_
    walk_at "T"
    refine wsp_sizeV (j := 3) rfl hs3 (by decide) fun v2 s4 v20 v21 hs4 => ?_
    walk_at "T"
    refine wsp_drawV (j := 3) rfl hs4 (by decide) (by omega) (by omega) fun b s5 b0 b1 hs5 => ?_
    walk_at "T"
    obtain ⟨tn, rfl⟩ := Int.eq_ofNat_of_zero_le t0
    obtain ⟨bn, hbn⟩ : ∃ bn : Nat, 1 + b = bn := ⟨(1 + b).toNat, by omega⟩
    rw [hbn]
    walk_at "c"
    refine ⟨tn, bn, rfl, rfl, by omega, lt60 (by omega), rfl, ?_⟩
    have lm := LM.of (t := tn) (b := bn) (by omega) (lt60 (by omega)) (lt60 (by omega))
    generalize tn / Nat.gcd tn bn = mt at *
    generalize bn / Nat.gcd tn bn = mb at *
    clear hbn b0 b1 t1 v10 v11 v20 v21
    walk_at "T"
    walk_at "nr4"
    refine ws_seq ?_
    refine ws_asg ?_
    refine we_frz ?_
    walk_at "T"
    refine wsp_drawV (j := 3) rfl hs5 (by decide) (by decide) (by decide) fun r0 s6 r00 r01 hs6 => ?_
    walk_at "T"
    refine wsp_frz (j := 4) rfl ?_
    walk_at "nr4"
    refine wsp_oneV (j := 3) rfl hs6 (by decide) (Nat.le_of_ble_eq_true rfl) (Nat.le_of_ble_eq_true rfl) fun rd s7 hrd hs7 => ?_
    obtain ⟨r, rfl, rr0, rr1⟩ : ∃ r : Int, rd = .int r ∧ 0 ≤ r ∧ r ≤ 60 := by
      simp only [List.mem_cons, List.not_mem_nil, or_false] at hrd
      rcases hrd with rfl | rfl | rfl | rfl
      · exact ⟨0, rfl, by decide, by decide⟩
      · exact ⟨1, rfl, by decide, by decide⟩
      · exact ⟨2, rfl, by decide, by decide⟩
      · exact ⟨r0, rfl, by omega, by omega⟩
    clear hrd r00 r01
    walk_at "T"
    refine ⟨⟨by omega, by omega⟩, ?_⟩
    walk_at "nr4"
    refine loopC_rng (fun i ρ => ∃ (row : List Int) (s : List D), row.length = i ∧ Bys row ∧ IsV (7 + i) s ∧ ρ = ⟨[some (.dat (.scr (ns.map D.int))), some (.dat (.int n)), some (.cel 3), some (.dat (.int (1 + ed))), some (.dat (.tup [.int (mt : Int), .int (mb : Int)])), none, none, none, none, none, none, none, none, none], [.lst [.int n0], .lst (ms.map D.int), .lst ([.int n0] ++ ms.map D.int), .lst s, .gone, .lst (row.map D.int)]⟩) ⟨[], s7, rfl, (fun b hb => nomatch hb), hs7, rfl⟩ ?_ ?_
    rotate_left
    · rintro i ρ hi ⟨row, s8, hl, hb, hs8, rfl⟩
      --<<
      refine ⟨trivial, ?_⟩
      walk_at "T"
      refine wsp_drawV (j := 3) rfl hs8 (by omega) (by decide) (by decide) fun v s9 v0 v1 hs9 => ?_
      walk_at "T"
      · rw [List.length_map]; omega
      refine now ⟨row ++ [v], s9, by rw [List.length_append, hl]; rfl, fun b hb2 => ?_, hs9, by rw [List.map_append]; rfl⟩
      rcases List.mem_append.mp hb2 with m | m
      · exact hb b m
      · rw [List.mem_singleton.mp m]; omega
      -->>
    rintro ρ ⟨row, s8, hl, hb, hs8, rfl⟩
    refine ⟨trivial, ?_⟩
    refine ⟨5, _, rfl, rfl, ?_⟩
    walk_at "nr4"
    refine wg_name ?_
    walk_at "nr4"
    have hl2 : row.length ≤ 60 := by omega
    refine ws_seq ?_
    walk_at "T"
    have smt : SmN (mt : Int) := smN_lt lm.ht
    have smb : SmN (mb : Int) := smN_lt lm.hb
    have l1 := smt.len
    have l2 := smb.len
    refine wc_strI smt.log ?_
    walk_at "T"
    refine wc_strI smb.log ?_
    refine wr_addS (by show 1 + _ ≤ _; omega) ?_
    walk_at "T"
    refine wc_intB ?_
    rw [show (if decide ((1 : Int) < (mb : Int)) = true then (1 : Int) else 0) = ((if mb = 1 then 0 else 1 : Nat) : Int) from by
      have := lm.b1
      by_cases h : mb = 1
      · rw [if_pos h, decide_eq_false (by omega)]; rfl
      · rw [if_neg h, decide_eq_true (by omega)]; rfl]
    have l3 : ((("/" : Str) ++ numS (mb : Int))).length ≤ 201 := by rw [app_len]; show 1 + _ ≤ _; omega
    have l4 : (if mb = 1 then 0 else 1 : Nat) ≤ 1 := by split <;> omega
    refine wr_mulS (by omega) (by omega) ?_
    refine wr_addS (by rw [repS_len]; have := Nat.mul_le_mul l4 l3; omega) ?_
    rw [wordL]
    walk_at "T"
    walk_at "N"
    walk_at "nr4"
    refine loopC_by (fun es ρ => ∃ done rest : List Int, row = done ++ rest ∧ es = rest.map D.int ∧ ρ = ⟨[some (.dat (.scr (ns.map D.int))), some (.dat (.int n)), some (.cel 3), some (.dat (.int (1 + ed))), some (.dat (.tup [.int (mt : Int), .int (mb : Int)])), none, some (.dat (.lst (row.map D.int))), some (.dat (.str (fracW mt mb))), none, none, none, none, none, none], [.lst [.int n0], .lst (ms.map D.int), .lst (.int n0 :: ms.map D.int), .lst s8, .gone, .gone, .lst ((done.map hx2).map D.str)]⟩) ⟨[], row, rfl, rfl, rfl⟩ ?_ ?_
    rotate_left
    · rintro e es ρ ⟨done, rest, hr, he, rfl⟩
      --<<
      cases rest with
      | nil => cases he
      | cons b rest =>
        injection he with he1 he2
        subst he1 he2
        have hb1 := hb b (by rw [hr]; exact List.mem_append_right _ List.mem_cons_self)
        refine ⟨.dat _, ?_⟩
        walk_at "T"
        refine wr_Ii ⟨by decide, by decide⟩ ?_
        walk_at "T"
        refine wr_ixS (by show 16 ≤ _; omega) (hexI (by omega) (by omega)) ?_
        walk_at "T"
        refine wr_Ii (by decide) ?_
        walk_at "T"
        refine wr_ixS (by show 16 ≤ _; omega) (hexI (by omega) (by omega)) ?_
        refine wr_addS (by show 1 + 1 ≤ _; omega) ?_
        walk_at "T"
        · rw [List.length_map, List.length_map]
          have := congrArg List.length hr
          rw [List.length_append] at this
          omega
        exact now ⟨done ++ [b], rest, by rw [hr, List.append_assoc]; rfl, rfl, by rw [List.map_append, List.map_append]; rfl⟩
      -->>
    rintro ρ ⟨done, rest, hr, hes, rfl⟩
    have r0 : rest = [] := by cases rest with | nil => rfl | cons x r => cases hes
    subst r0
    rw [List.append_nil] at hr
    subst hr
    refine ⟨.dat _, ?_⟩
    walk_at "T"
    refine wm_join (.cel rfl) ?_ ?_
    · rw [sum_hx2, List.length_map]
      show _ + _ * 0 ≤ _
      omega
    rw [show Txt.join "" (row.map hx2) = hexT row from rfl]
    refine wg_name ?_
    walk_at "nr4"
    refine ws_seq ?_
    refine ws_asg ?_
    refine we_frz ?_
    walk_at "T"
    refine ⟨_, _, rfl, rfl, ?_⟩
    refine wg_name ?_
    walk_at "nr4"
    refine ws_seq ?_
    walk_at "T"
    refine ⟨⟨by decide, by decide⟩, ?_⟩
    walk_at "nr4"
    have fl : (fracW (mt : Int) (mb : Int)).length ≤ 121 := fracW_len lm.ht lm.hb
    have hxl := hexT_len hb
    refine loop_rng (fun i ρ => ∃ (s : List D) (x : Option D), IsV (67 + 3 * i) s ∧ ρ = ⟨[some (.dat (.scr (ns.map D.int))), some (.dat (.int n)), some (.cel 3), some (.dat (.int (1 + ed))), some (.dat (.tup [.int (mt : Int), .int (mb : Int)])), none, some (.dat (.lst (row.map D.int))), some (.dat (.str (fracW mt mb))), some (.dat (.str (hexT row))), some (.dat (.lst (row.map D.int))), x.map .dat, none, none, none], [.lst [.int n0], .lst (ms.map D.int), .lst (.int n0 :: ms.map D.int), .lst s, .gone, .gone, .lst ((row.map hx2).map D.str), .gone]⟩) ⟨s8, none, hs8.up (by omega), rfl⟩ ?_ ?_
    rotate_left
    · rintro i ρ hi ⟨s9, x, hs9, rfl⟩
      --<<
      have hi : i < 2 := hi
      refine ⟨trivial, ?_⟩
      refine wg_name ?_
      refine ws_wipe [10] ?_
      show WpS K F _ ⟨[some (.dat (.scr (ns.map D.int))), some (.dat (.int n)), some (.cel 3), some (.dat (.int (1 + ed))), some (.dat (.tup [.int (mt : Int), .int (mb : Int)])), none, some (.dat (.lst (row.map D.int))), some (.dat (.str (fracW mt mb))), some (.dat (.str (hexT row))), some (.dat (.lst (row.map D.int))), none, none, none, none], [.lst [.int n0], .lst (ms.map D.int), .lst (.int n0 :: ms.map D.int), .lst s9, .gone, .gone, .lst ((row.map hx2).map D.str), .gone]⟩ _
      refine ws_seq ?_
      walk_at "T"
      walk_at "c"
      refine ⟨_, rfl, rfl, rfl, (fun h => by rw [lm.mo] at h; cases h), fun _ => ⟨mt, mb, rfl, smt, smb, rfl, ?_⟩⟩
      walk_at "T"
      rw [ne_selfS]
      walk_at "T"
      refine we_cr (fun _ => Rep.cls _) ?_
      walk_at "T"
      walk_at "c"
      refine ⟨_, _, rfl, rfl, rfl, .inr (.inr (.inr (.inr (.inl ⟨rfl, _, rfl, by omega, rfl, ?_⟩))))⟩
      rw [lm.said]
      walk_at "T"
      walk_at "c"
      refine ⟨_, _, rfl, rfl, .inr (.inl ⟨_, _, rfl, rfl⟩), rfl, ?_⟩
      walk_at "T"
      walk_at "N"
      walk_at "c"
      refine ⟨_, rfl, rfl, by rw [pl]; exact pls_ints _, (fun h => by rw [isRw_bys hb] at h; cases h), fun row2 e hb2 => ?_⟩
      have e : row = row2 := ints_inj (by injection e)
      subst e
      refine ⟨by omega, rfl, ?_⟩
      walk_at "T"
      rw [ne_selfS]
      walk_at "T"
      refine wr_neD 2 (by walk_at "od") (by walk_at "od") (by rw [fine]; exact fine_ints _ _) (by rw [fine]; exact fine_ints _ _) (by decide) ?_
      rw [eq_self (by rw [noB]; exact noB_ints _)]
      walk_at "T"
      refine we_cr (fun _ => Rep.cls _) ?_
      walk_at "T"
      walk_at "c"
      refine ⟨_, _, rfl, rfl, rfl, .inr (.inr (.inr (.inr (.inr ⟨rfl, _, rfl, by omega, rfl, ?_⟩))))⟩
      rw [hb.said]
      walk_at "T"
      walk_at "c"
      refine ⟨_, _, rfl, rfl, .inr (.inr ⟨_, rfl, rfl⟩), rfl, ?_⟩
      walk_at "T"
      walk_at "nr4"
      walk_at "T"
      refine wsp_noneR (j := 3) rfl hs9 (by omega) fun s10 hs10 => ?_
      walk_at "T"
      exact now ⟨s10, none, hs10.up (by omega), rfl⟩
      -->>
    rintro ρ ⟨s9, x, hs9, rfl⟩
    have hs9 : IsV 73 s9 := hs9
    refine ⟨trivial, ?_⟩
    refine ws_wipe [10] ?_
    show WpS K F _ ⟨[some (.dat (.scr (ns.map D.int))), some (.dat (.int n)), some (.cel 3), some (.dat (.int (1 + ed))), some (.dat (.tup [.int (mt : Int), .int (mb : Int)])), none, some (.dat (.lst (row.map D.int))), some (.dat (.str (fracW mt mb))), some (.dat (.str (hexT row))), some (.dat (.lst (row.map D.int))), none, none, none, none], [.lst [.int n0], .lst (ms.map D.int), .lst (.int n0 :: ms.map D.int), .lst s9, .gone, .gone, .lst ((row.map hx2).map D.str), .gone]⟩ _
    refine ws_seq ?_
    walk_at "T"
    refine ⟨⟨by omega, by omega⟩, ?_⟩
    walk_at "nr4"
    refine loop_rng (fun i ρ => ∃ (wd tx : Str) (s : List D) (x : Option D), IsV (73 + 8 * i) s ∧ wd.length ≤ 121 + i ∧ tx.length ≤ 120 + i ∧ okS wd ∧ okS tx ∧ ρ = ⟨[some (.dat (.scr (ns.map D.int))), some (.dat (.int n)), some (.cel 3), some (.dat (.int (1 + ed))), some (.dat (.tup [.int (mt : Int), .int (mb : Int)])), x.map .dat, some (.dat (.lst (row.map D.int))), some (.dat (.str wd)), some (.dat (.str tx)), some (.dat (.lst (row.map D.int))), none, none, none, none], [.lst [.int n0], .lst (ms.map D.int), .lst (.int n0 :: ms.map D.int), .lst s, .gone, .gone, .lst ((row.map hx2).map D.str), .gone]⟩) ⟨_, _, s9, none, hs9, fl, by omega, okS_frac mt mb, okS_hex hb, rfl⟩ ?_ ?_
    rotate_left
    · rintro i ρ hi ⟨wd, tx, s10, x, hs10, hwl, htl, ow, ot, rfl⟩
      --<<
      have hi : i < 2 := by omega
      refine ⟨trivial, ?_⟩
      refine wg_name ?_
      refine ws_wipe [5] ?_
      show WpS K F _ ⟨[some (.dat (.scr (ns.map D.int))), some (.dat (.int n)), some (.cel 3), some (.dat (.int (1 + ed))), some (.dat (.tup [.int (mt : Int), .int (mb : Int)])), none, some (.dat (.lst (row.map D.int))), some (.dat (.str wd)), some (.dat (.str tx)), some (.dat (.lst (row.map D.int))), none, none, none, none], [.lst [.int n0], .lst (ms.map D.int), .lst (.int n0 :: ms.map D.int), .lst s10, .gone, .gone, .lst ((row.map hx2).map D.str), .gone]⟩ _
      refine ws_seq ?_
      walk_at "T"
      refine wsp_edited (j := 3) rfl hs10 (by omega) (by omega) ow fun wd2 s11 hwl2 ow2 hs11 => ?_
      walk_at "T"
      walk_at "nr4"
      walk_at "T"
      refine wsp_edited (j := 3) rfl hs11 (by omega) (by omega) ot fun tx2 s12 htl2 ot2 hs12 => ?_
      walk_at "T"
      exact now ⟨wd2, tx2, s12, none, hs12, by omega, by omega, ow2, ot2, rfl⟩
      -->>
    rintro ρ ⟨wd, tx, s10, x, hs10, hwl, htl, ow, ot, rfl⟩
    refine ⟨trivial, ?_⟩
    refine ws_wipe [5] ?_
    show WpS K F _ ⟨[some (.dat (.scr (ns.map D.int))), some (.dat (.int n)), some (.cel 3), some (.dat (.int (1 + ed))), some (.dat (.tup [.int (mt : Int), .int (mb : Int)])), none, some (.dat (.lst (row.map D.int))), some (.dat (.str wd)), some (.dat (.str tx)), some (.dat (.lst (row.map D.int))), none, none, none, none], [.lst [.int n0], .lst (ms.map D.int), .lst (.int n0 :: ms.map D.int), .lst s10, .gone, .gone, .lst ((row.map hx2).map D.str), .gone]⟩ _
    refine ws_seq ?_
    walk_at "T"
    refine we_cr (fun _ => Rep.cls _) ?_
    walk_at "T"
    walk_at "c"
    refine ⟨_, _, rfl, rfl, rfl, .inr (.inr (.inr (.inr (.inl ⟨rfl, _, rfl, by omega, rfl, ?_⟩))))⟩
    walk_at "T"
    walk_at "c"
    refine ⟨_, rfl, rfl, by omega, ow, rfl, ?_⟩
    walk_at "T"
    walk_at "c"
    refine ⟨_, _, rfl, rfl, alikeM _, rfl, ?_⟩
    walk_at "T"
    walk_at "nr4"
    walk_at "T"
    refine we_cr (fun _ => Rep.cls _) ?_
    walk_at "T"
    walk_at "c"
    refine ⟨_, _, rfl, rfl, rfl, .inr (.inr (.inr (.inr (.inr ⟨rfl, _, rfl, by omega, rfl, ?_⟩))))⟩
    walk_at "T"
    walk_at "c"
    refine ⟨_, rfl, rfl, by omega, ot, ?_⟩
    unfold rowD2 saidB
    cases hro : rowO (TL.tl tx) with
    | none =>
      refine ⟨rfl, ?_⟩
      walk_at "T"
      walk_at "c"
      refine ⟨_, _, rfl, rfl, .inl ⟨rfl, rfl⟩, rfl, ?_⟩
      walk_at "T"
      exact now ⟨fun e m => he e (List.mem_cons_of_mem _ m), some _, some _, some _, none, some _, some _, some _, some _, none, rfl⟩
    | some row2 =>
      refine ⟨rfl, ?_⟩
      walk_at "T"
      walk_at "c"
      refine ⟨_, _, rfl, rfl, .inr (.inr ⟨_, rfl, rfl⟩), rfl, ?_⟩
      walk_at "T"
      exact now ⟨fun e m => he e (List.mem_cons_of_mem _ m), some _, some _, some _, none, some _, some _, some _, some _, none, rfl⟩
    -->>
end
theorem all_mk {l : PySem.W.OpenLaw} {w : World} {K : PySem.W.Frag} {h : Heap} {mg : Str → Option Value} {fa : Addr} (X : K.In h) (G : h.Ns mainGlobals mg) (hfa : mg "law" = some (.ref fa))
    {f0 : Addr} {od0 an0 : Option Addr} {sl0 : Array (Option Value)} {oc0 kV0 dc0 pm0 cd0 ct0 : Value}
    (a0 : PySem.W.nsIn K mainGlobals "is_number" = some (some (.ref f0)))
    (l0 : K.lookup f0 = some ⟨oc0, od0, .func (PySem.W.fnOf "is_number" "is_number" (defArgs s_is_number) (defBody s_is_number) (defScope s_is_number) .none kV0 dc0 pm0 an0 cd0 ct0), sl0⟩) (c0 : PySem.W.codeIn K cd0 "is_number" = true) (k0 : PySem.W.keepIn K (.ref f0) = true)
    {f1 : Addr} {od1 an1 : Option Addr} {sl1 : Array (Option Value)} {oc1 kV1 dc1 pm1 cd1 ct1 : Value}
    (a1 : PySem.W.nsIn K mainGlobals "is_whole" = some (some (.ref f1)))
    (l1 : K.lookup f1 = some ⟨oc1, od1, .func (PySem.W.fnOf "is_whole" "is_whole" (defArgs s_is_whole) (defBody s_is_whole) (defScope s_is_whole) .none kV1 dc1 pm1 an1 cd1 ct1), sl1⟩) (c1 : PySem.W.codeIn K cd1 "is_whole" = true) (k1 : PySem.W.keepIn K (.ref f1) = true)
    {f2 : Addr} {od2 an2 : Option Addr} {sl2 : Array (Option Value)} {oc2 kV2 dc2 pm2 cd2 ct2 : Value}
    (a2 : PySem.W.nsIn K mainGlobals "is_bytes" = some (some (.ref f2)))
    (l2 : K.lookup f2 = some ⟨oc2, od2, .func (PySem.W.fnOf "is_bytes" "is_bytes" (defArgs s_is_bytes) (defBody s_is_bytes) (defScope s_is_bytes) .none kV2 dc2 pm2 an2 cd2 ct2), sl2⟩) (c2 : PySem.W.codeIn K cd2 "is_bytes" = true) (k2 : PySem.W.keepIn K (.ref f2) = true)
    {f3 : Addr} {od3 an3 : Option Addr} {sl3 : Array (Option Value)} {oc3 kV3 dc3 pm3 cd3 ct3 : Value}
    (a3 : PySem.W.nsIn K mainGlobals "common_divisor" = some (some (.ref f3)))
    (l3 : K.lookup f3 = some ⟨oc3, od3, .func (PySem.W.fnOf "common_divisor" "common_divisor" (defArgs s_common_divisor) (defBody s_common_divisor) (defScope s_common_divisor) .none kV3 dc3 pm3 an3 cd3 ct3), sl3⟩) (c3 : PySem.W.codeIn K cd3 "common_divisor" = true) (k3 : PySem.W.keepIn K (.ref f3) = true)
    {f4 : Addr} {od4 an4 : Option Addr} {sl4 : Array (Option Value)} {oc4 kV4 dc4 pm4 cd4 ct4 : Value}
    (a4 : PySem.W.nsIn K mainGlobals "is_fraction" = some (some (.ref f4)))
    (l4 : K.lookup f4 = some ⟨oc4, od4, .func (PySem.W.fnOf "is_fraction" "is_fraction" (defArgs s_is_fraction) (defBody s_is_fraction) (defScope s_is_fraction) .none kV4 dc4 pm4 an4 cd4 ct4), sl4⟩) (c4 : PySem.W.codeIn K cd4 "is_fraction" = true) (k4 : PySem.W.keepIn K (.ref f4) = true)
    {f5 : Addr} {od5 an5 : Option Addr} {sl5 : Array (Option Value)} {oc5 kV5 dc5 pm5 cd5 ct5 : Value}
    (a5 : PySem.W.nsIn K mainGlobals "is_moment" = some (some (.ref f5)))
    (l5 : K.lookup f5 = some ⟨oc5, od5, .func (PySem.W.fnOf "is_moment" "is_moment" (defArgs s_is_moment) (defBody s_is_moment) (defScope s_is_moment) .none kV5 dc5 pm5 an5 cd5 ct5), sl5⟩) (c5 : PySem.W.codeIn K cd5 "is_moment" = true) (k5 : PySem.W.keepIn K (.ref f5) = true)
    {f6 : Addr} {od6 an6 : Option Addr} {sl6 : Array (Option Value)} {oc6 kV6 dc6 pm6 cd6 ct6 : Value}
    (a6 : PySem.W.nsIn K mainGlobals "summed" = some (some (.ref f6)))
    (l6 : K.lookup f6 = some ⟨oc6, od6, .func (PySem.W.fnOf "summed" "summed" (defArgs s_summed) (defBody s_summed) (defScope s_summed) .none kV6 dc6 pm6 an6 cd6 ct6), sl6⟩) (c6 : PySem.W.codeIn K cd6 "summed" = true) (k6 : PySem.W.keepIn K (.ref f6) = true)
    {f7 : Addr} {od7 an7 : Option Addr} {sl7 : Array (Option Value)} {oc7 kV7 dc7 pm7 cd7 ct7 : Value}
    (a7 : PySem.W.nsIn K mainGlobals "plus" = some (some (.ref f7)))
    (l7 : K.lookup f7 = some ⟨oc7, od7, .func (PySem.W.fnOf "plus" "plus" (defArgs s_plus) (defBody s_plus) (defScope s_plus) .none kV7 dc7 pm7 an7 cd7 ct7), sl7⟩) (c7 : PySem.W.codeIn K cd7 "plus" = true) (k7 : PySem.W.keepIn K (.ref f7) = true)
    {f8 : Addr} {od8 an8 : Option Addr} {sl8 : Array (Option Value)} {oc8 kV8 dc8 pm8 cd8 ct8 : Value}
    (a8 : PySem.W.nsIn K mainGlobals "times" = some (some (.ref f8)))
    (l8 : K.lookup f8 = some ⟨oc8, od8, .func (PySem.W.fnOf "times" "times" (defArgs s_times) (defBody s_times) (defScope s_times) .none kV8 dc8 pm8 an8 cd8 ct8), sl8⟩) (c8 : PySem.W.codeIn K cd8 "times" = true) (k8 : PySem.W.keepIn K (.ref f8) = true)
    {f9 : Addr} {od9 an9 : Option Addr} {sl9 : Array (Option Value)} {oc9 kV9 dc9 pm9 cd9 ct9 : Value}
    (a9 : PySem.W.nsIn K mainGlobals "refuse_no_moment" = some (some (.ref f9)))
    (l9 : K.lookup f9 = some ⟨oc9, od9, .func (PySem.W.fnOf "refuse_no_moment" "refuse_no_moment" (defArgs s_refuse_no_moment) (defBody s_refuse_no_moment) (defScope s_refuse_no_moment) .none kV9 dc9 pm9 an9 cd9 ct9), sl9⟩) (c9 : PySem.W.codeIn K cd9 "refuse_no_moment" = true) (k9 : PySem.W.keepIn K (.ref f9) = true)
    {f10 : Addr} {od10 an10 : Option Addr} {sl10 : Array (Option Value)} {oc10 kV10 dc10 pm10 cd10 ct10 : Value}
    (a10 : PySem.W.nsIn K mainGlobals "refuse_no_bytes" = some (some (.ref f10)))
    (l10 : K.lookup f10 = some ⟨oc10, od10, .func (PySem.W.fnOf "refuse_no_bytes" "refuse_no_bytes" (defArgs s_refuse_no_bytes) (defBody s_refuse_no_bytes) (defScope s_refuse_no_bytes) .none kV10 dc10 pm10 an10 cd10 ct10), sl10⟩) (c10 : PySem.W.codeIn K cd10 "refuse_no_bytes" = true) (k10 : PySem.W.keepIn K (.ref f10) = true)
    {f11 : Addr} {od11 an11 : Option Addr} {sl11 : Array (Option Value)} {oc11 kV11 dc11 pm11 cd11 ct11 : Value}
    (a11 : PySem.W.nsIn K mainGlobals "is_number_word" = some (some (.ref f11)))
    (l11 : K.lookup f11 = some ⟨oc11, od11, .func (PySem.W.fnOf "is_number_word" "is_number_word" (defArgs s_is_number_word) (defBody s_is_number_word) (defScope s_is_number_word) .none kV11 dc11 pm11 an11 cd11 ct11), sl11⟩) (c11 : PySem.W.codeIn K cd11 "is_number_word" = true) (k11 : PySem.W.keepIn K (.ref f11) = true)
    {f12 : Addr} {od12 an12 : Option Addr} {sl12 : Array (Option Value)} {oc12 kV12 dc12 pm12 cd12 ct12 : Value}
    (a12 : PySem.W.nsIn K mainGlobals "number_of" = some (some (.ref f12)))
    (l12 : K.lookup f12 = some ⟨oc12, od12, .func (PySem.W.fnOf "number_of" "number_of" (defArgs s_number_of) (defBody s_number_of) (defScope s_number_of) .none kV12 dc12 pm12 an12 cd12 ct12), sl12⟩) (c12 : PySem.W.codeIn K cd12 "number_of" = true) (k12 : PySem.W.keepIn K (.ref f12) = true)
    {f13 : Addr} {od13 an13 : Option Addr} {sl13 : Array (Option Value)} {oc13 kV13 dc13 pm13 cd13 ct13 : Value}
    (a13 : PySem.W.nsIn K mainGlobals "fraction_word" = some (some (.ref f13)))
    (l13 : K.lookup f13 = some ⟨oc13, od13, .func (PySem.W.fnOf "fraction_word" "fraction_word" (defArgs s_fraction_word) (defBody s_fraction_word) (defScope s_fraction_word) .none kV13 dc13 pm13 an13 cd13 ct13), sl13⟩) (c13 : PySem.W.codeIn K cd13 "fraction_word" = true) (k13 : PySem.W.keepIn K (.ref f13) = true)
    {f14 : Addr} {od14 an14 : Option Addr} {sl14 : Array (Option Value)} {oc14 kV14 dc14 pm14 cd14 ct14 : Value}
    (a14 : PySem.W.nsIn K mainGlobals "moment_word" = some (some (.ref f14)))
    (l14 : K.lookup f14 = some ⟨oc14, od14, .func (PySem.W.fnOf "moment_word" "moment_word" (defArgs s_moment_word) (defBody s_moment_word) (defScope s_moment_word) .none kV14 dc14 pm14 an14 cd14 ct14), sl14⟩) (c14 : PySem.W.codeIn K cd14 "moment_word" = true) (k14 : PySem.W.keepIn K (.ref f14) = true)
    {f15 : Addr} {od15 an15 : Option Addr} {sl15 : Array (Option Value)} {oc15 kV15 dc15 pm15 cd15 ct15 : Value}
    (a15 : PySem.W.nsIn K mainGlobals "read_moment" = some (some (.ref f15)))
    (l15 : K.lookup f15 = some ⟨oc15, od15, .func (PySem.W.fnOf "read_moment" "read_moment" (defArgs s_read_moment) (defBody s_read_moment) (defScope s_read_moment) .none kV15 dc15 pm15 an15 cd15 ct15), sl15⟩) (c15 : PySem.W.codeIn K cd15 "read_moment" = true) (k15 : PySem.W.keepIn K (.ref f15) = true)
    {f16 : Addr} {od16 an16 : Option Addr} {sl16 : Array (Option Value)} {oc16 kV16 dc16 pm16 cd16 ct16 : Value}
    (a16 : PySem.W.nsIn K mainGlobals "hex_of" = some (some (.ref f16)))
    (l16 : K.lookup f16 = some ⟨oc16, od16, .func (PySem.W.fnOf "hex_of" "hex_of" (defArgs s_hex_of) (defBody s_hex_of) (defScope s_hex_of) .none kV16 dc16 pm16 an16 cd16 ct16), sl16⟩) (c16 : PySem.W.codeIn K cd16 "hex_of" = true) (k16 : PySem.W.keepIn K (.ref f16) = true)
    {f17 : Addr} {od17 an17 : Option Addr} {sl17 : Array (Option Value)} {oc17 kV17 dc17 pm17 cd17 ct17 : Value}
    (a17 : PySem.W.nsIn K mainGlobals "bytes_of" = some (some (.ref f17)))
    (l17 : K.lookup f17 = some ⟨oc17, od17, .func (PySem.W.fnOf "bytes_of" "bytes_of" (defArgs s_bytes_of) (defBody s_bytes_of) (defScope s_bytes_of) .none kV17 dc17 pm17 an17 cd17 ct17), sl17⟩) (c17 : PySem.W.codeIn K cd17 "bytes_of" = true) (k17 : PySem.W.keepIn K (.ref f17) = true)
    {f18 : Addr} {od18 an18 : Option Addr} {sl18 : Array (Option Value)} {oc18 kV18 dc18 pm18 cd18 ct18 : Value}
    (a18 : PySem.W.nsIn K mainGlobals "_law_cell_at" = some (some (.ref f18)))
    (l18 : K.lookup f18 = some ⟨oc18, od18, .func (PySem.W.fnOf "_law_cell_at" "_law_cell_at" (defArgs s_l_cell_at) (defBody s_l_cell_at) (defScope s_l_cell_at) .none kV18 dc18 pm18 an18 cd18 ct18), sl18⟩) (c18 : PySem.W.codeIn K cd18 "_law_cell_at" = true) (k18 : PySem.W.keepIn K (.ref f18) = true)
    {f19 : Addr} {od19 an19 : Option Addr} {sl19 : Array (Option Value)} {oc19 kV19 dc19 pm19 cd19 ct19 : Value}
    (a19 : PySem.W.nsIn K mainGlobals "_law_well" = some (some (.ref f19)))
    (l19 : K.lookup f19 = some ⟨oc19, od19, .func (PySem.W.fnOf "_law_well" "_law_well" (defArgs s_l_well) (defBody s_l_well) (defScope s_l_well) .none kV19 dc19 pm19 an19 cd19 ct19), sl19⟩) (c19 : PySem.W.codeIn K cd19 "_law_well" = true) (k19 : PySem.W.keepIn K (.ref f19) = true)
    {f20 : Addr} {od20 an20 : Option Addr} {sl20 : Array (Option Value)} {oc20 kV20 dc20 pm20 cd20 ct20 : Value}
    (a20 : PySem.W.nsIn K mainGlobals "_law_draw" = some (some (.ref f20)))
    (l20 : K.lookup f20 = some ⟨oc20, od20, .func (PySem.W.fnOf "_law_draw" "_law_draw" (defArgs s_l_draw) (defBody s_l_draw) (defScope s_l_draw) .none kV20 dc20 pm20 an20 cd20 ct20), sl20⟩) (c20 : PySem.W.codeIn K cd20 "_law_draw" = true) (k20 : PySem.W.keepIn K (.ref f20) = true)
    {f21 : Addr} {od21 an21 : Option Addr} {sl21 : Array (Option Value)} {oc21 kV21 dc21 pm21 cd21 ct21 : Value}
    (a21 : PySem.W.nsIn K mainGlobals "_law_one" = some (some (.ref f21)))
    (l21 : K.lookup f21 = some ⟨oc21, od21, .func (PySem.W.fnOf "_law_one" "_law_one" (defArgs s_l_one) (defBody s_l_one) (defScope s_l_one) .none kV21 dc21 pm21 an21 cd21 ct21), sl21⟩) (c21 : PySem.W.codeIn K cd21 "_law_one" = true) (k21 : PySem.W.keepIn K (.ref f21) = true)
    {f22 : Addr} {od22 an22 : Option Addr} {sl22 : Array (Option Value)} {oc22 kV22 dc22 pm22 cd22 ct22 : Value}
    (a22 : PySem.W.nsIn K mainGlobals "_law_low" = some (some (.ref f22)))
    (l22 : K.lookup f22 = some ⟨oc22, od22, .func (PySem.W.fnOf "_law_low" "_law_low" (defArgs s_l_low) (defBody s_l_low) (defScope s_l_low) .none kV22 dc22 pm22 an22 cd22 ct22), sl22⟩) (c22 : PySem.W.codeIn K cd22 "_law_low" = true) (k22 : PySem.W.keepIn K (.ref f22) = true)
    {f23 : Addr} {od23 an23 : Option Addr} {sl23 : Array (Option Value)} {oc23 kV23 dc23 pm23 cd23 ct23 : Value}
    (a23 : PySem.W.nsIn K mainGlobals "_law_size" = some (some (.ref f23)))
    (l23 : K.lookup f23 = some ⟨oc23, od23, .func (PySem.W.fnOf "_law_size" "_law_size" (defArgs s_l_size) (defBody s_l_size) (defScope s_l_size) .none kV23 dc23 pm23 an23 cd23 ct23), sl23⟩) (c23 : PySem.W.codeIn K cd23 "_law_size" = true) (k23 : PySem.W.keepIn K (.ref f23) = true)
    {f24 : Addr} {od24 an24 : Option Addr} {sl24 : Array (Option Value)} {oc24 kV24 dc24 pm24 cd24 ct24 : Value}
    (a24 : PySem.W.nsIn K mainGlobals "_law_edited" = some (some (.ref f24)))
    (l24 : K.lookup f24 = some ⟨oc24, od24, .func (PySem.W.fnOf "_law_edited" "_law_edited" (defArgs s_l_edited) (defBody s_l_edited) (defScope s_l_edited) .none kV24 dc24 pm24 an24 cd24 ct24), sl24⟩) (c24 : PySem.W.codeIn K cd24 "_law_edited" = true) (k24 : PySem.W.keepIn K (.ref f24) = true)
    {f25 : Addr} {od25 an25 : Option Addr} {sl25 : Array (Option Value)} {oc25 kV25 dc25 pm25 cd25 ct25 : Value}
    (a25 : PySem.W.nsIn K mainGlobals "_law_number_of" = some (some (.ref f25)))
    (l25 : K.lookup f25 = some ⟨oc25, od25, .func (PySem.W.fnOf "_law_number_of" "_law_number_of" (defArgs s_l_number_of) (defBody s_l_number_of) (defScope s_l_number_of) .none kV25 dc25 pm25 an25 cd25 ct25), sl25⟩) (c25 : PySem.W.codeIn K cd25 "_law_number_of" = true) (k25 : PySem.W.keepIn K (.ref f25) = true)
    {f26 : Addr} {od26 an26 : Option Addr} {sl26 : Array (Option Value)} {oc26 kV26 dc26 pm26 cd26 ct26 : Value}
    (a26 : PySem.W.nsIn K mainGlobals "_law_moment_of" = some (some (.ref f26)))
    (l26 : K.lookup f26 = some ⟨oc26, od26, .func (PySem.W.fnOf "_law_moment_of" "_law_moment_of" (defArgs s_l_moment_of) (defBody s_l_moment_of) (defScope s_l_moment_of) .none kV26 dc26 pm26 an26 cd26 ct26), sl26⟩) (c26 : PySem.W.codeIn K cd26 "_law_moment_of" = true) (k26 : PySem.W.keepIn K (.ref f26) = true)
    {f27 : Addr} {od27 an27 : Option Addr} {sl27 : Array (Option Value)} {oc27 kV27 dc27 pm27 cd27 ct27 : Value}
    (a27 : PySem.W.nsIn K mainGlobals "_law_row_of" = some (some (.ref f27)))
    (l27 : K.lookup f27 = some ⟨oc27, od27, .func (PySem.W.fnOf "_law_row_of" "_law_row_of" (defArgs s_l_row_of) (defBody s_l_row_of) (defScope s_l_row_of) .none kV27 dc27 pm27 an27 cd27 ct27), sl27⟩) (c27 : PySem.W.codeIn K cd27 "_law_row_of" = true) (k27 : PySem.W.keepIn K (.ref f27) = true)
    {f28 : Addr} {od28 an28 : Option Addr} {sl28 : Array (Option Value)} {oc28 kV28 dc28 pm28 cd28 ct28 : Value}
    (a28 : PySem.W.nsIn K mainGlobals "_law_said" = some (some (.ref f28)))
    (l28 : K.lookup f28 = some ⟨oc28, od28, .func (PySem.W.fnOf "_law_said" "_law_said" (defArgs s_l_said) (defBody s_l_said) (defScope s_l_said) .none kV28 dc28 pm28 an28 cd28 ct28), sl28⟩) (c28 : PySem.W.codeIn K cd28 "_law_said" = true) (k28 : PySem.W.keepIn K (.ref f28) = true)
    {f29 : Addr} {od29 an29 : Option Addr} {sl29 : Array (Option Value)} {oc29 kV29 dc29 pm29 cd29 ct29 : Value}
    (a29 : PySem.W.nsIn K mainGlobals "_law_alike" = some (some (.ref f29)))
    (l29 : K.lookup f29 = some ⟨oc29, od29, .func (PySem.W.fnOf "_law_alike" "_law_alike" (defArgs s_l_alike) (defBody s_l_alike) (defScope s_l_alike) .none kV29 dc29 pm29 an29 cd29 ct29), sl29⟩) (c29 : PySem.W.codeIn K cd29 "_law_alike" = true) (k29 : PySem.W.keepIn K (.ref f29) = true)
    {f30 : Addr} {od30 an30 : Option Addr} {sl30 : Array (Option Value)} {oc30 kV30 dc30 pm30 cd30 ct30 : Value}
    (a30 : PySem.W.nsIn K mainGlobals "_law_none_right" = some (some (.ref f30)))
    (l30 : K.lookup f30 = some ⟨oc30, od30, .func (PySem.W.fnOf "_law_none_right" "_law_none_right" (defArgs s_l_none_right) (defBody s_l_none_right) (defScope s_l_none_right) .none kV30 dc30 pm30 an30 cd30 ct30), sl30⟩) (c30 : PySem.W.codeIn K cd30 "_law_none_right" = true) (k30 : PySem.W.keepIn K (.ref f30) = true)
    {f31 : Addr} {od31 an31 : Option Addr} {sl31 : Array (Option Value)} {oc31 kV31 dc31 pm31 cd31 ct31 : Value}
    (a31 : PySem.W.nsIn K mainGlobals "law" = some (some (.ref f31)))
    (l31 : K.lookup f31 = some ⟨oc31, od31, .func (PySem.W.fnOf "law" "law" (defArgs s_law) (defBody s_law) (defScope s_law) .none kV31 dc31 pm31 an31 cd31 ct31), sl31⟩) (c31 : PySem.W.codeIn K cd31 "law" = true) (k31 : PySem.W.keepIn K (.ref f31) = true)
    (z_ValueError : PySem.W.nsIn K mainGlobals "ValueError" = some none)
    (z_abs : PySem.W.nsIn K mainGlobals "abs" = some none)
    (z_bool : PySem.W.nsIn K mainGlobals "bool" = some none)
    (z_int : PySem.W.nsIn K mainGlobals "int" = some none)
    (z_isinstance : PySem.W.nsIn K mainGlobals "isinstance" = some none)
    (z_len : PySem.W.nsIn K mainGlobals "len" = some none)
    (z_list : PySem.W.nsIn K mainGlobals "list" = some none)
    (z_range : PySem.W.nsIn K mainGlobals "range" = some none)
    (z_str : PySem.W.nsIn K mainGlobals "str" = some none)
    (z_tuple : PySem.W.nsIn K mainGlobals "tuple" = some none)
    {ct_HEX_FIGURES : Tok} (g_HEX_FIGURES : PySem.W.nsIn K mainGlobals "HEX_FIGURES" = some (some (.str "0123456789abcdef" ct_HEX_FIGURES)))
    {ct_MOST_FIGURES : Tok} (g_MOST_FIGURES : PySem.W.nsIn K mainGlobals "MOST_FIGURES" = some (some (.int 60 ct_MOST_FIGURES)))
    {C_ScrollError : Addr} (g_ScrollError : PySem.W.nsIn K mainGlobals "ScrollError" = some (some (.ref C_ScrollError)))
    {C_NoMoment : Addr} (g_NoMoment : PySem.W.nsIn K mainGlobals "NoMoment" = some (some (.ref C_NoMoment)))
    (x_NoMoment : PySem.W.excIn K C_NoMoment [.type "ValueError", .type "Exception", .type "BaseException", .type "object"] "ValueError.__new__" = true) (kc_NoMoment : PySem.W.keepIn K (.ref C_NoMoment) = true) (bb_NoMoment : PySem.W.subIn K (.ref C_NoMoment) (.type "BaseException") = some true) (t_NoMoment : PySem.W.typeIn K (.ref C_NoMoment) = some (.type "type"))
    (xa_NoMoment : PySem.W.findIn K (.ref C_NoMoment) "__getattribute__" = some (some (.builtin "BaseException.__getattribute__"))) (xb_NoMoment : PySem.W.findIn K (.ref C_NoMoment) "__getattr__" = some none) (xc_NoMoment : PySem.W.hasDictIn K C_NoMoment = true) (xd_NoMoment : PySem.W.findIn K (.ref C_NoMoment) "__class__" = some (some (.builtin "object.__class__")))
    (xe_NoMoment : PySem.W.specialIn K (.builtin "object.__class__") "__get__" = some (some (.builtin "getset_descriptor.__get__"))) (xf_NoMoment : PySem.W.takesIn K (.builtin "object.__class__") = some true) (xg_NoMoment : PySem.W.mroIn K C_NoMoment (.type "object") = some true)
    {C_NoBytes : Addr} (g_NoBytes : PySem.W.nsIn K mainGlobals "NoBytes" = some (some (.ref C_NoBytes)))
    (x_NoBytes : PySem.W.excIn K C_NoBytes [.type "ValueError", .type "Exception", .type "BaseException", .type "object"] "ValueError.__new__" = true) (kc_NoBytes : PySem.W.keepIn K (.ref C_NoBytes) = true) (bb_NoBytes : PySem.W.subIn K (.ref C_NoBytes) (.type "BaseException") = some true) (t_NoBytes : PySem.W.typeIn K (.ref C_NoBytes) = some (.type "type"))
    (xa_NoBytes : PySem.W.findIn K (.ref C_NoBytes) "__getattribute__" = some (some (.builtin "BaseException.__getattribute__"))) (xb_NoBytes : PySem.W.findIn K (.ref C_NoBytes) "__getattr__" = some none) (xc_NoBytes : PySem.W.hasDictIn K C_NoBytes = true) (xd_NoBytes : PySem.W.findIn K (.ref C_NoBytes) "__class__" = some (some (.builtin "object.__class__")))
    (xe_NoBytes : PySem.W.specialIn K (.builtin "object.__class__") "__get__" = some (some (.builtin "getset_descriptor.__get__"))) (xf_NoBytes : PySem.W.takesIn K (.builtin "object.__class__") = some true) (xg_NoBytes : PySem.W.mroIn K C_NoBytes (.type "object") = some true)
    {C_NoText : Addr} (g_NoText : PySem.W.nsIn K mainGlobals "NoText" = some (some (.ref C_NoText)))
    (x_NoText : PySem.W.excIn K C_NoText [.type "ValueError", .type "Exception", .type "BaseException", .type "object"] "ValueError.__new__" = true) (kc_NoText : PySem.W.keepIn K (.ref C_NoText) = true) (bb_NoText : PySem.W.subIn K (.ref C_NoText) (.type "BaseException") = some true) (t_NoText : PySem.W.typeIn K (.ref C_NoText) = some (.type "type"))
    (xa_NoText : PySem.W.findIn K (.ref C_NoText) "__getattribute__" = some (some (.builtin "BaseException.__getattribute__"))) (xb_NoText : PySem.W.findIn K (.ref C_NoText) "__getattr__" = some none) (xc_NoText : PySem.W.hasDictIn K C_NoText = true) (xd_NoText : PySem.W.findIn K (.ref C_NoText) "__class__" = some (some (.builtin "object.__class__")))
    (xe_NoText : PySem.W.specialIn K (.builtin "object.__class__") "__get__" = some (some (.builtin "getset_descriptor.__get__"))) (xf_NoText : PySem.W.takesIn K (.builtin "object.__class__") = some true) (xg_NoText : PySem.W.mroIn K C_NoText (.type "object") = some true)
    (sb_NoBytes_ScrollError : PySem.W.subIn K (.ref C_NoBytes) (.ref C_ScrollError) = some true) (bs_NoBytes_ScrollError : PySem.W.subIn K (.ref C_ScrollError) (.type "BaseException") = some true) (ts_NoBytes_ScrollError : PySem.W.typeIn K (.ref C_ScrollError) = some (.type "type")) (is_NoBytes_ScrollError : PySem.W.isClsIn K C_ScrollError = true)
    (sb_NoMoment_ScrollError : PySem.W.subIn K (.ref C_NoMoment) (.ref C_ScrollError) = some true) (bs_NoMoment_ScrollError : PySem.W.subIn K (.ref C_ScrollError) (.type "BaseException") = some true) (ts_NoMoment_ScrollError : PySem.W.typeIn K (.ref C_ScrollError) = some (.type "type")) (is_NoMoment_ScrollError : PySem.W.isClsIn K C_ScrollError = true)
    (sb_NoText_ScrollError : PySem.W.subIn K (.ref C_NoText) (.ref C_ScrollError) = some true) (bs_NoText_ScrollError : PySem.W.subIn K (.ref C_ScrollError) (.type "BaseException") = some true) (ts_NoText_ScrollError : PySem.W.typeIn K (.ref C_ScrollError) = some (.type "type")) (is_NoText_ScrollError : PySem.W.isClsIn K C_ScrollError = true)
    (io_NoBytes_NoMoment : PySem.W.kitOne K (.ref C_NoBytes) (.ref C_NoMoment) = some false)
    (io_NoMoment_NoMoment : PySem.W.kitOne K (.ref C_NoMoment) (.ref C_NoMoment) = some true)
    (io_NoText_NoMoment : PySem.W.kitOne K (.ref C_NoText) (.ref C_NoMoment) = some false)
    (io_NoBytes_NoBytes : PySem.W.kitOne K (.ref C_NoBytes) (.ref C_NoBytes) = some true)
    (io_NoMoment_NoBytes : PySem.W.kitOne K (.ref C_NoMoment) (.ref C_NoBytes) = some false)
    (io_NoText_NoBytes : PySem.W.kitOne K (.ref C_NoText) (.ref C_NoBytes) = some false)
    (io_NoBytes_NoText : PySem.W.kitOne K (.ref C_NoBytes) (.ref C_NoText) = some false)
    (io_NoMoment_NoText : PySem.W.kitOne K (.ref C_NoMoment) (.ref C_NoText) = some false)
    (io_NoText_NoText : PySem.W.kitOne K (.ref C_NoText) (.ref C_NoText) = some true)
    (io_NoBytes_ValueError : PySem.W.kitOne K (.ref C_NoBytes) (.type "ValueError") = some true)
    (io_NoMoment_ValueError : PySem.W.kitOne K (.ref C_NoMoment) (.type "ValueError") = some true)
    (io_NoText_ValueError : PySem.W.kitOne K (.ref C_NoText) (.type "ValueError") = some true)
    : ∃ fd : FuncData, (∀ (s : Shared) (v : Value), BindsTo s fd ⟨[v], []⟩ [("_law_script", v)]) ∧ ∀ base : Heap, K.In base → base.Ns mainGlobals mg → FnOk l.prog w K mg base CX0 8 fa fd ["_law_script"] (spLaw K) := by
  have e := hfa.symm.trans (PySem.W.mg_of X G a31)
  cases e
  have F0 := fun_mk (st := s_is_number) l0 c0 k0
  have F1 := fun_mk (st := s_is_whole) l1 c1 k1
  have F2 := fun_mk (st := s_is_bytes) l2 c2 k2
  have F3 := fun_mk (st := s_common_divisor) l3 c3 k3
  have F4 := fun_mk (st := s_is_fraction) l4 c4 k4
  have F5 := fun_mk (st := s_is_moment) l5 c5 k5
  have F6 := fun_mk (st := s_summed) l6 c6 k6
  have F7 := fun_mk (st := s_plus) l7 c7 k7
  have F8 := fun_mk (st := s_times) l8 c8 k8
  have F9 := fun_mk (st := s_refuse_no_moment) l9 c9 k9
  have F10 := fun_mk (st := s_refuse_no_bytes) l10 c10 k10
  have F11 := fun_mk (st := s_is_number_word) l11 c11 k11
  have F12 := fun_mk (st := s_number_of) l12 c12 k12
  have F13 := fun_mk (st := s_fraction_word) l13 c13 k13
  have F14 := fun_mk (st := s_moment_word) l14 c14 k14
  have F15 := fun_mk (st := s_read_moment) l15 c15 k15
  have F16 := fun_mk (st := s_hex_of) l16 c16 k16
  have F17 := fun_mk (st := s_bytes_of) l17 c17 k17
  have F18 := fun_mk (st := s_l_cell_at) l18 c18 k18
  have F19 := fun_mk (st := s_l_well) l19 c19 k19
  have F20 := fun_mk (st := s_l_draw) l20 c20 k20
  have F21 := fun_mk (st := s_l_one) l21 c21 k21
  have F22 := fun_mk (st := s_l_low) l22 c22 k22
  have F23 := fun_mk (st := s_l_size) l23 c23 k23
  have F24 := fun_mk (st := s_l_edited) l24 c24 k24
  have F25 := fun_mk (st := s_l_number_of) l25 c25 k25
  have F26 := fun_mk (st := s_l_moment_of) l26 c26 k26
  have F27 := fun_mk (st := s_l_row_of) l27 c27 k27
  have F28 := fun_mk (st := s_l_said) l28 c28 k28
  have F29 := fun_mk (st := s_l_alike) l29 c29 k29
  have F30 := fun_mk (st := s_l_none_right) l30 c30 k30
  have F31 := fun_mk (st := s_law) l31 c31 k31
  have b0 := F0.binds (ps := ["thing"]) fun _ _ _ _ _ _ us hl => match us, hl with | [_], _ => rfl
  have b1 := F1.binds (ps := ["thing", "low", "high"]) fun _ _ _ _ _ _ us hl => match us, hl with | [_, _, _], _ => rfl
  have b2 := F2.binds (ps := ["thing"]) fun _ _ _ _ _ _ us hl => match us, hl with | [_], _ => rfl
  have b3 := F3.binds (ps := ["one", "other"]) fun _ _ _ _ _ _ us hl => match us, hl with | [_, _], _ => rfl
  have b4 := F4.binds (ps := ["thing"]) fun _ _ _ _ _ _ us hl => match us, hl with | [_], _ => rfl
  have b5 := F5.binds (ps := ["thing"]) fun _ _ _ _ _ _ us hl => match us, hl with | [_], _ => rfl
  have b6 := F6.binds (ps := ["one", "top", "bottom"]) fun _ _ _ _ _ _ us hl => match us, hl with | [_, _, _], _ => rfl
  have b7 := F7.binds (ps := ["one", "other"]) fun _ _ _ _ _ _ us hl => match us, hl with | [_, _], _ => rfl
  have b8 := F8.binds (ps := ["one", "other"]) fun _ _ _ _ _ _ us hl => match us, hl with | [_, _], _ => rfl
  have b9 := F9.binds (ps := ["thing"]) fun _ _ _ _ _ _ us hl => match us, hl with | [_], _ => rfl
  have b10 := F10.binds (ps := ["row"]) fun _ _ _ _ _ _ us hl => match us, hl with | [_], _ => rfl
  have b11 := F11.binds (ps := ["word"]) fun _ _ _ _ _ _ us hl => match us, hl with | [_], _ => rfl
  have b12 := F12.binds (ps := ["word"]) fun _ _ _ _ _ _ us hl => match us, hl with | [_], _ => rfl
  have b13 := F13.binds (ps := ["told"]) fun _ _ _ _ _ _ us hl => match us, hl with | [_], _ => rfl
  have b14 := F14.binds (ps := ["moment"]) fun _ _ _ _ _ _ us hl => match us, hl with | [_], _ => rfl
  have b15 := F15.binds (ps := ["word"]) fun _ _ _ _ _ _ us hl => match us, hl with | [_], _ => rfl
  have b16 := F16.binds (ps := ["row"]) fun _ _ _ _ _ _ us hl => match us, hl with | [_], _ => rfl
  have b17 := F17.binds (ps := ["text"]) fun _ _ _ _ _ _ us hl => match us, hl with | [_], _ => rfl
  have b18 := F18.binds (ps := ["_law_script", "_law_k"]) fun _ _ _ _ _ _ us hl => match us, hl with | [_, _], _ => rfl
  have b19 := F19.binds (ps := ["_law_cell"]) fun _ _ _ _ _ _ us hl => match us, hl with | [_], _ => rfl
  have b20 := F20.binds (ps := ["_law_well_here", "_law_many"]) fun _ _ _ _ _ _ us hl => match us, hl with | [_, _], _ => rfl
  have b21 := F21.binds (ps := ["_law_well_here", "_law_some"]) fun _ _ _ _ _ _ us hl => match us, hl with | [_, _], _ => rfl
  have b22 := F22.binds (ps := ["_law_top", "_law_bottom"]) fun _ _ _ _ _ _ us hl => match us, hl with | [_, _], _ => rfl
  have b23 := F23.binds (ps := ["_law_well_here"]) fun _ _ _ _ _ _ us hl => match us, hl with | [_], _ => rfl
  have b24 := F24.binds (ps := ["_law_well_here", "_law_text"]) fun _ _ _ _ _ _ us hl => match us, hl with | [_, _], _ => rfl
  have b25 := F25.binds (ps := ["_law_word"]) fun _ _ _ _ _ _ us hl => match us, hl with | [_], _ => rfl
  have b26 := F26.binds (ps := ["_law_word"]) fun _ _ _ _ _ _ us hl => match us, hl with | [_], _ => rfl
  have b27 := F27.binds (ps := ["_law_text"]) fun _ _ _ _ _ _ us hl => match us, hl with | [_], _ => rfl
  have b28 := F28.binds (ps := ["_law_ask", "_law_thing"]) fun _ _ _ _ _ _ us hl => match us, hl with | [_, _], _ => rfl
  have b29 := F29.binds (ps := ["_law_found", "_law_due"]) fun _ _ _ _ _ _ us hl => match us, hl with | [_, _], _ => rfl
  have b30 := F30.binds (ps := ["_law_well_here"]) fun _ _ _ _ _ _ us hl => match us, hl with | [_], _ => rfl
  have b31 := F31.binds (ps := ["_law_script"]) fun _ _ _ _ _ _ us hl => match us, hl with | [_], _ => rfl
  exact ⟨_, fun s v => .of_eq rfl, fun base _ _ => ok_law { a_is_number := _, d_is_number := _, F_is_number := F0, b_is_number := b0, g_is_number := PySem.W.mg_of X G a0, a_is_whole := _, d_is_whole := _, F_is_whole := F1, b_is_whole := b1, g_is_whole := PySem.W.mg_of X G a1, a_is_bytes := _, d_is_bytes := _, F_is_bytes := F2, b_is_bytes := b2, g_is_bytes := PySem.W.mg_of X G a2, a_common_divisor := _, d_common_divisor := _, F_common_divisor := F3, b_common_divisor := b3, g_common_divisor := PySem.W.mg_of X G a3, a_is_fraction := _, d_is_fraction := _, F_is_fraction := F4, b_is_fraction := b4, g_is_fraction := PySem.W.mg_of X G a4, a_is_moment := _, d_is_moment := _, F_is_moment := F5, b_is_moment := b5, g_is_moment := PySem.W.mg_of X G a5, a_summed := _, d_summed := _, F_summed := F6, b_summed := b6, g_summed := PySem.W.mg_of X G a6, a_plus := _, d_plus := _, F_plus := F7, b_plus := b7, g_plus := PySem.W.mg_of X G a7, a_times := _, d_times := _, F_times := F8, b_times := b8, g_times := PySem.W.mg_of X G a8, a_refuse_no_moment := _, d_refuse_no_moment := _, F_refuse_no_moment := F9, b_refuse_no_moment := b9, g_refuse_no_moment := PySem.W.mg_of X G a9, a_refuse_no_bytes := _, d_refuse_no_bytes := _, F_refuse_no_bytes := F10, b_refuse_no_bytes := b10, g_refuse_no_bytes := PySem.W.mg_of X G a10, a_is_number_word := _, d_is_number_word := _, F_is_number_word := F11, b_is_number_word := b11, g_is_number_word := PySem.W.mg_of X G a11, a_number_of := _, d_number_of := _, F_number_of := F12, b_number_of := b12, g_number_of := PySem.W.mg_of X G a12, a_fraction_word := _, d_fraction_word := _, F_fraction_word := F13, b_fraction_word := b13, g_fraction_word := PySem.W.mg_of X G a13, a_moment_word := _, d_moment_word := _, F_moment_word := F14, b_moment_word := b14, g_moment_word := PySem.W.mg_of X G a14, a_read_moment := _, d_read_moment := _, F_read_moment := F15, b_read_moment := b15, g_read_moment := PySem.W.mg_of X G a15, a_hex_of := _, d_hex_of := _, F_hex_of := F16, b_hex_of := b16, g_hex_of := PySem.W.mg_of X G a16, a_bytes_of := _, d_bytes_of := _, F_bytes_of := F17, b_bytes_of := b17, g_bytes_of := PySem.W.mg_of X G a17, a_l_cell_at := _, d_l_cell_at := _, F_l_cell_at := F18, b_l_cell_at := b18, g_l_cell_at := PySem.W.mg_of X G a18, a_l_well := _, d_l_well := _, F_l_well := F19, b_l_well := b19, g_l_well := PySem.W.mg_of X G a19, a_l_draw := _, d_l_draw := _, F_l_draw := F20, b_l_draw := b20, g_l_draw := PySem.W.mg_of X G a20, a_l_one := _, d_l_one := _, F_l_one := F21, b_l_one := b21, g_l_one := PySem.W.mg_of X G a21, a_l_low := _, d_l_low := _, F_l_low := F22, b_l_low := b22, g_l_low := PySem.W.mg_of X G a22, a_l_size := _, d_l_size := _, F_l_size := F23, b_l_size := b23, g_l_size := PySem.W.mg_of X G a23, a_l_edited := _, d_l_edited := _, F_l_edited := F24, b_l_edited := b24, g_l_edited := PySem.W.mg_of X G a24, a_l_number_of := _, d_l_number_of := _, F_l_number_of := F25, b_l_number_of := b25, g_l_number_of := PySem.W.mg_of X G a25, a_l_moment_of := _, d_l_moment_of := _, F_l_moment_of := F26, b_l_moment_of := b26, g_l_moment_of := PySem.W.mg_of X G a26, a_l_row_of := _, d_l_row_of := _, F_l_row_of := F27, b_l_row_of := b27, g_l_row_of := PySem.W.mg_of X G a27, a_l_said := _, d_l_said := _, F_l_said := F28, b_l_said := b28, g_l_said := PySem.W.mg_of X G a28, a_l_alike := _, d_l_alike := _, F_l_alike := F29, b_l_alike := b29, g_l_alike := PySem.W.mg_of X G a29, a_l_none_right := _, d_l_none_right := _, F_l_none_right := F30, b_l_none_right := b30, g_l_none_right := PySem.W.mg_of X G a30, a_law := _, d_law := _, F_law := F31, b_law := b31, g_law := PySem.W.mg_of X G a31, m_ValueError := PySem.W.mg_none_of X G z_ValueError, m_abs := PySem.W.mg_none_of X G z_abs, m_bool := PySem.W.mg_none_of X G z_bool, m_int := PySem.W.mg_none_of X G z_int, m_isinstance := PySem.W.mg_none_of X G z_isinstance, m_len := PySem.W.mg_none_of X G z_len, m_list := PySem.W.mg_none_of X G z_list, m_range := PySem.W.mg_none_of X G z_range, m_str := PySem.W.mg_none_of X G z_str, m_tuple := PySem.W.mg_none_of X G z_tuple, ct_HEX_FIGURES := ct_HEX_FIGURES, g_HEX_FIGURES := PySem.W.mg_of X G g_HEX_FIGURES, ct_MOST_FIGURES := ct_MOST_FIGURES, g_MOST_FIGURES := PySem.W.mg_of X G g_MOST_FIGURES, c_ScrollError := C_ScrollError, g_ScrollError := PySem.W.mg_of X G g_ScrollError, c_NoMoment := C_NoMoment, g_NoMoment := PySem.W.mg_of X G g_NoMoment, x_NoMoment := x_NoMoment, k_NoMoment := kc_NoMoment, bb_NoMoment := bb_NoMoment, t_NoMoment := t_NoMoment, xc_NoMoment := ⟨xa_NoMoment, xb_NoMoment, bb_NoMoment, xc_NoMoment, xd_NoMoment, xe_NoMoment, xf_NoMoment, xg_NoMoment⟩, c_NoBytes := C_NoBytes, g_NoBytes := PySem.W.mg_of X G g_NoBytes, x_NoBytes := x_NoBytes, k_NoBytes := kc_NoBytes, bb_NoBytes := bb_NoBytes, t_NoBytes := t_NoBytes, xc_NoBytes := ⟨xa_NoBytes, xb_NoBytes, bb_NoBytes, xc_NoBytes, xd_NoBytes, xe_NoBytes, xf_NoBytes, xg_NoBytes⟩, c_NoText := C_NoText, g_NoText := PySem.W.mg_of X G g_NoText, x_NoText := x_NoText, k_NoText := kc_NoText, bb_NoText := bb_NoText, t_NoText := t_NoText, xc_NoText := ⟨xa_NoText, xb_NoText, bb_NoText, xc_NoText, xd_NoText, xe_NoText, xf_NoText, xg_NoText⟩, em_NoBytes_ScrollError := exm_by bs_NoBytes_ScrollError is_NoBytes_ScrollError ts_NoBytes_ScrollError sb_NoBytes_ScrollError, em_NoMoment_ScrollError := exm_by bs_NoMoment_ScrollError is_NoMoment_ScrollError ts_NoMoment_ScrollError sb_NoMoment_ScrollError, em_NoText_ScrollError := exm_by bs_NoText_ScrollError is_NoText_ScrollError ts_NoText_ScrollError sb_NoText_ScrollError, io_NoBytes_NoMoment := io_NoBytes_NoMoment, io_NoMoment_NoMoment := io_NoMoment_NoMoment, io_NoText_NoMoment := io_NoText_NoMoment, io_NoBytes_NoBytes := io_NoBytes_NoBytes, io_NoMoment_NoBytes := io_NoMoment_NoBytes, io_NoText_NoBytes := io_NoText_NoBytes, io_NoBytes_NoText := io_NoBytes_NoText, io_NoMoment_NoText := io_NoMoment_NoText, io_NoText_NoText := io_NoText_NoText, io_NoBytes_ValueError := io_NoBytes_ValueError, io_NoMoment_ValueError := io_NoMoment_ValueError, io_NoText_ValueError := io_NoText_ValueError }⟩
end LK
open PySem PySem.W PyProof.Rows
set_option maxHeartbeats 0 in
theorem PySem.Challenge.cw_lanescroll_k85_moments_and_bytes_as_text_holds : PySem.Challenge.rw_lanescroll_k85_moments_and_bytes_as_text.Holds := by
  w_on; o_law; k_head; (case hw => w_witness2)
  k_fill
  refine L2.walk_of (l := PySem.Challenge.rw_lanescroll_k85_moments_and_bytes_as_text) (n := 63) (k := 8) (x := "_law_script") (CX := fun _ => L2.CX0) (sp := fun w => LK.spLaw _) rfl (by decide) rfl ⟨rfl, by decide, by decide⟩ (fun w h Y => PySem.W.kIn_of Y) ?F (fun _ _ a ns hl _ hS => ⟨a, ns, rfl, hS, hl, fun _ => rfl⟩) (fun _ _ _ _ _ h => h)
  case F =>
    intro w mg fa h KX G hmg
    refine' LK.all_mk KX G hmg ?a0 ?l0 ?c0 ?k0 ?a1 ?l1 ?c1 ?k1 ?a2 ?l2 ?c2 ?k2 ?a3 ?l3 ?c3 ?k3 ?a4 ?l4 ?c4 ?k4 ?a5 ?l5 ?c5 ?k5 ?a6 ?l6 ?c6 ?k6 ?a7 ?l7 ?c7 ?k7 ?a8 ?l8 ?c8 ?k8 ?a9 ?l9 ?c9 ?k9 ?a10 ?l10 ?c10 ?k10 ?a11 ?l11 ?c11 ?k11 ?a12 ?l12 ?c12 ?k12 ?a13 ?l13 ?c13 ?k13 ?a14 ?l14 ?c14 ?k14 ?a15 ?l15 ?c15 ?k15 ?a16 ?l16 ?c16 ?k16 ?a17 ?l17 ?c17 ?k17 ?a18 ?l18 ?c18 ?k18 ?a19 ?l19 ?c19 ?k19 ?a20 ?l20 ?c20 ?k20 ?a21 ?l21 ?c21 ?k21 ?a22 ?l22 ?c22 ?k22 ?a23 ?l23 ?c23 ?k23 ?a24 ?l24 ?c24 ?k24 ?a25 ?l25 ?c25 ?k25 ?a26 ?l26 ?c26 ?k26 ?a27 ?l27 ?c27 ?k27 ?a28 ?l28 ?c28 ?k28 ?a29 ?l29 ?c29 ?k29 ?a30 ?l30 ?c30 ?k30 ?a31 ?l31 ?c31 ?k31 ?z_ValueError ?z_abs ?z_bool ?z_int ?z_isinstance ?z_len ?z_list ?z_range ?z_str ?z_tuple ?g_HEX_FIGURES ?g_MOST_FIGURES ?g_ScrollError ?g_NoMoment ?x_NoMoment ?kc_NoMoment ?bb_NoMoment ?t_NoMoment ?xa_NoMoment ?xb_NoMoment ?xc_NoMoment ?xd_NoMoment ?xe_NoMoment ?xf_NoMoment ?xg_NoMoment ?g_NoBytes ?x_NoBytes ?kc_NoBytes ?bb_NoBytes ?t_NoBytes ?xa_NoBytes ?xb_NoBytes ?xc_NoBytes ?xd_NoBytes ?xe_NoBytes ?xf_NoBytes ?xg_NoBytes ?g_NoText ?x_NoText ?kc_NoText ?bb_NoText ?t_NoText ?xa_NoText ?xb_NoText ?xc_NoText ?xd_NoText ?xe_NoText ?xf_NoText ?xg_NoText ?sb_NoBytes_ScrollError ?bs_NoBytes_ScrollError ?ts_NoBytes_ScrollError ?is_NoBytes_ScrollError ?sb_NoMoment_ScrollError ?bs_NoMoment_ScrollError ?ts_NoMoment_ScrollError ?is_NoMoment_ScrollError ?sb_NoText_ScrollError ?bs_NoText_ScrollError ?ts_NoText_ScrollError ?is_NoText_ScrollError ?io_NoBytes_NoMoment ?io_NoMoment_NoMoment ?io_NoText_NoMoment ?io_NoBytes_NoBytes ?io_NoMoment_NoBytes ?io_NoText_NoBytes ?io_NoBytes_NoText ?io_NoMoment_NoText ?io_NoText_NoText ?io_NoBytes_ValueError ?io_NoMoment_ValueError ?io_NoText_ValueError
    (case a0 => k_is)
    (case l0 => k_is)
    (case c0 => k_is)
    (case k0 => k_is)
    (case a1 => k_is)
    (case l1 => k_is)
    (case c1 => k_is)
    (case k1 => k_is)
    (case a2 => k_is)
    (case l2 => k_is)
    (case c2 => k_is)
    (case k2 => k_is)
    (case a3 => k_is)
    (case l3 => k_is)
    (case c3 => k_is)
    (case k3 => k_is)
    (case a4 => k_is)
    (case l4 => k_is)
    (case c4 => k_is)
    (case k4 => k_is)
    (case a5 => k_is)
    (case l5 => k_is)
    (case c5 => k_is)
    (case k5 => k_is)
    (case a6 => k_is)
    (case l6 => k_is)
    (case c6 => k_is)
    (case k6 => k_is)
    (case a7 => k_is)
    (case l7 => k_is)
    (case c7 => k_is)
    (case k7 => k_is)
    (case a8 => k_is)
    (case l8 => k_is)
    (case c8 => k_is)
    (case k8 => k_is)
    (case a9 => k_is)
    (case l9 => k_is)
    (case c9 => k_is)
    (case k9 => k_is)
    (case a10 => k_is)
    (case l10 => k_is)
    (case c10 => k_is)
    (case k10 => k_is)
    (case a11 => k_is)
    (case l11 => k_is)
    (case c11 => k_is)
    (case k11 => k_is)
    (case a12 => k_is)
    (case l12 => k_is)
    (case c12 => k_is)
    (case k12 => k_is)
    (case a13 => k_is)
    (case l13 => k_is)
    (case c13 => k_is)
    (case k13 => k_is)
    (case a14 => k_is)
    (case l14 => k_is)
    (case c14 => k_is)
    (case k14 => k_is)
    (case a15 => k_is)
    (case l15 => k_is)
    (case c15 => k_is)
    (case k15 => k_is)
    (case a16 => k_is)
    (case l16 => k_is)
    (case c16 => k_is)
    (case k16 => k_is)
    (case a17 => k_is)
    (case l17 => k_is)
    (case c17 => k_is)
    (case k17 => k_is)
    (case a18 => k_is)
    (case l18 => k_is)
    (case c18 => k_is)
    (case k18 => k_is)
    (case a19 => k_is)
    (case l19 => k_is)
    (case c19 => k_is)
    (case k19 => k_is)
    (case a20 => k_is)
    (case l20 => k_is)
    (case c20 => k_is)
    (case k20 => k_is)
    (case a21 => k_is)
    (case l21 => k_is)
    (case c21 => k_is)
    (case k21 => k_is)
    (case a22 => k_is)
    (case l22 => k_is)
    (case c22 => k_is)
    (case k22 => k_is)
    (case a23 => k_is)
    (case l23 => k_is)
    (case c23 => k_is)
    (case k23 => k_is)
    (case a24 => k_is)
    (case l24 => k_is)
    (case c24 => k_is)
    (case k24 => k_is)
    (case a25 => k_is)
    (case l25 => k_is)
    (case c25 => k_is)
    (case k25 => k_is)
    (case a26 => k_is)
    (case l26 => k_is)
    (case c26 => k_is)
    (case k26 => k_is)
    (case a27 => k_is)
    (case l27 => k_is)
    (case c27 => k_is)
    (case k27 => k_is)
    (case a28 => k_is)
    (case l28 => k_is)
    (case c28 => k_is)
    (case k28 => k_is)
    (case a29 => k_is)
    (case l29 => k_is)
    (case c29 => k_is)
    (case k29 => k_is)
    (case a30 => k_is)
    (case l30 => k_is)
    (case c30 => k_is)
    (case k30 => k_is)
    (case a31 => k_is)
    (case l31 => k_is)
    (case c31 => k_is)
    (case k31 => k_is)
    (case z_ValueError => k_is)
    (case z_abs => k_is)
    (case z_bool => k_is)
    (case z_int => k_is)
    (case z_isinstance => k_is)
    (case z_len => k_is)
    (case z_list => k_is)
    (case z_range => k_is)
    (case z_str => k_is)
    (case z_tuple => k_is)
    (case g_HEX_FIGURES => k_is)
    (case g_MOST_FIGURES => k_is)
    (case g_ScrollError => k_is)
    (case g_NoMoment => k_is)
    (case x_NoMoment => k_exc)
    (case kc_NoMoment => k_is)
    (case bb_NoMoment => k_is)
    (case t_NoMoment => k_is)
    (case xa_NoMoment => k_is)
    (case xb_NoMoment => k_is)
    (case xc_NoMoment => k_is)
    (case xd_NoMoment => k_is)
    (case xe_NoMoment => k_is)
    (case xf_NoMoment => k_is)
    (case xg_NoMoment => k_is)
    (case g_NoBytes => k_is)
    (case x_NoBytes => k_exc)
    (case kc_NoBytes => k_is)
    (case bb_NoBytes => k_is)
    (case t_NoBytes => k_is)
    (case xa_NoBytes => k_is)
    (case xb_NoBytes => k_is)
    (case xc_NoBytes => k_is)
    (case xd_NoBytes => k_is)
    (case xe_NoBytes => k_is)
    (case xf_NoBytes => k_is)
    (case xg_NoBytes => k_is)
    (case g_NoText => k_is)
    (case x_NoText => k_exc)
    (case kc_NoText => k_is)
    (case bb_NoText => k_is)
    (case t_NoText => k_is)
    (case xa_NoText => k_is)
    (case xb_NoText => k_is)
    (case xc_NoText => k_is)
    (case xd_NoText => k_is)
    (case xe_NoText => k_is)
    (case xf_NoText => k_is)
    (case xg_NoText => k_is)
    (case sb_NoBytes_ScrollError => first | rfl | k_is | k_exc)
    (case bs_NoBytes_ScrollError => k_is)
    (case ts_NoBytes_ScrollError => k_is)
    (case is_NoBytes_ScrollError => k_is)
    (case sb_NoMoment_ScrollError => first | rfl | k_is | k_exc)
    (case bs_NoMoment_ScrollError => k_is)
    (case ts_NoMoment_ScrollError => k_is)
    (case is_NoMoment_ScrollError => k_is)
    (case sb_NoText_ScrollError => first | rfl | k_is | k_exc)
    (case bs_NoText_ScrollError => k_is)
    (case ts_NoText_ScrollError => k_is)
    (case is_NoText_ScrollError => k_is)
    (case io_NoBytes_NoMoment => first | rfl | k_is | k_exc)
    (case io_NoMoment_NoMoment => first | rfl | k_is | k_exc)
    (case io_NoText_NoMoment => first | rfl | k_is | k_exc)
    (case io_NoBytes_NoBytes => first | rfl | k_is | k_exc)
    (case io_NoMoment_NoBytes => first | rfl | k_is | k_exc)
    (case io_NoText_NoBytes => first | rfl | k_is | k_exc)
    (case io_NoBytes_NoText => first | rfl | k_is | k_exc)
    (case io_NoMoment_NoText => first | rfl | k_is | k_exc)
    (case io_NoText_NoText => first | rfl | k_is | k_exc)
    (case io_NoBytes_ValueError => first | rfl | k_is | k_exc)
    (case io_NoMoment_ValueError => first | rfl | k_is | k_exc)
    (case io_NoText_ValueError => first | rfl | k_is | k_exc)
