import PyProof.Rows.All
import Wide.All
import OpenK.AllK
import Wide.FinOn
import PySem.Challenge.RW_lanescroll_k37_bytes_that_come_by_parts
import HandS.ForMost
import HandS.ForExc
import HandS.IsInst
import HandS.TupLe
import HandS.Wide
import HandS.Defaults
import HandS.ExcIs
import HandS.Style
import HandS.Walk
import KE.KCallOwn
import KE.KSuper
import HandS.FStr
import HandS.MakeKwOnly
import HandS.Star
import PyProof.CollectIter
import PyProof.WalksMore
import HandS.CallLocal
import HandS.ExcOwn
import HandS.TupAny
import HandS.Deep
set_option Elab.async false
set_option linter.all false
set_option maxRecDepth 100000
set_option maxHeartbeats 4000000
namespace LK
open PySem PySem.Spec PyProof.Rows L2
def topS (i : Nat) : Stmt := PySem.Challenge.pw_lanescroll_k37_bytes_that_come_by_parts.main.body.getD i (.Pass ⟨0, 0, 0, 0⟩)
abbrev s_is_number : Stmt := topS 6
abbrev N_is_number : List Str := ["thing"]
theorem sc_is_number : FnScope N_is_number ["thing"] (defScope s_is_number) := ⟨rfl, rfl, rfl, by decide +kernel, rfl, by decide +kernel, by decide +kernel⟩
abbrev s_is_whole : Stmt := topS 7
abbrev N_is_whole : List Str := ["thing", "low", "high"]
theorem sc_is_whole : FnScope N_is_whole ["thing", "low", "high"] (defScope s_is_whole) := ⟨rfl, rfl, rfl, by decide +kernel, rfl, by decide +kernel, by decide +kernel⟩
abbrev s_is_bytes : Stmt := topS 8
abbrev N_is_bytes : List Str := ["thing", "byte"]
theorem sc_is_bytes : FnScope N_is_bytes ["thing"] (defScope s_is_bytes) := ⟨rfl, rfl, rfl, by decide +kernel, rfl, by decide +kernel, by decide +kernel⟩
abbrev s_refuse_no_bytes : Stmt := topS 13
abbrev N_refuse_no_bytes : List Str := ["row"]
theorem sc_refuse_no_bytes : FnScope N_refuse_no_bytes ["row"] (defScope s_refuse_no_bytes) := ⟨rfl, rfl, rfl, by decide +kernel, rfl, by decide +kernel, by decide +kernel⟩
abbrev s_number_at : Stmt := topS 14
abbrev N_number_at : List Str := ["row", "at", "number", "place", "figure"]
theorem sc_number_at : FnScope N_number_at ["row", "at"] (defScope s_number_at) := ⟨rfl, rfl, rfl, by decide +kernel, rfl, by decide +kernel, by decide +kernel⟩
abbrev s_check : Stmt := topS 15
abbrev N_check : List Str := ["row", "found", "byte"]
theorem sc_check : FnScope N_check ["row"] (defScope s_check) := ⟨rfl, rfl, rfl, by decide +kernel, rfl, by decide +kernel, by decide +kernel⟩
abbrev s_Growing_init : Stmt := inClass (topS 22) 0
abbrev N_Growing_init : List Str := ["self", "at"]
theorem sc_Growing_init : FnScope N_Growing_init ["self", "at"] (defScope s_Growing_init) := ⟨rfl, rfl, rfl, by decide +kernel, rfl, by decide +kernel, by decide +kernel⟩
abbrev s_Growing_grow : Stmt := inClass (topS 22) 1
abbrev N_Growing_grow : List Str := ["self", "byte"]
theorem sc_Growing_grow : FnScope N_Growing_grow ["self", "byte"] (defScope s_Growing_grow) := ⟨rfl, rfl, rfl, by decide +kernel, rfl, by decide +kernel, by decide +kernel⟩
abbrev s_Growing_measure : Stmt := inClass (topS 22) 2
abbrev N_Growing_measure : List Str := ["self", "found"]
theorem sc_Growing_measure : FnScope N_Growing_measure ["self"] (defScope s_Growing_measure) := ⟨rfl, rfl, rfl, by decide +kernel, rfl, by decide +kernel, by decide +kernel⟩
abbrev s_Growing_body : Stmt := inClass (topS 22) 3
abbrev N_Growing_body : List Str := ["self"]
theorem sc_Growing_body : FnScope N_Growing_body ["self"] (defScope s_Growing_body) := ⟨rfl, rfl, rfl, by decide +kernel, rfl, by decide +kernel, by decide +kernel⟩
abbrev s_Growing_is_right : Stmt := inClass (topS 22) 4
abbrev N_Growing_is_right : List Str := ["self"]
theorem sc_Growing_is_right : FnScope N_Growing_is_right ["self"] (defScope s_Growing_is_right) := ⟨rfl, rfl, rfl, by decide +kernel, rfl, by decide +kernel, by decide +kernel⟩
abbrev s_Feed_init : Stmt := inClass (topS 23) 0
abbrev N_Feed_init : List Str := ["self"]
theorem sc_Feed_init : FnScope N_Feed_init ["self"] (defScope s_Feed_init) := ⟨rfl, rfl, rfl, by decide +kernel, rfl, by decide +kernel, by decide +kernel⟩
abbrev s_Feed_take : Stmt := inClass (topS 23) 1
abbrev N_Feed_take : List Str := ["self", "part", "found", "byte"]
theorem sc_Feed_take : FnScope N_Feed_take ["self", "part"] (defScope s_Feed_take) := ⟨rfl, rfl, rfl, by decide +kernel, rfl, by decide +kernel, by decide +kernel⟩
abbrev s_Feed_taken : Stmt := inClass (topS 23) 2
abbrev N_Feed_taken : List Str := ["self"]
theorem sc_Feed_taken : FnScope N_Feed_taken ["self"] (defScope s_Feed_taken) := ⟨rfl, rfl, rfl, by decide +kernel, rfl, by decide +kernel, by decide +kernel⟩
abbrev s_sum_of : Stmt := topS 24
abbrev N_sum_of : List Str := ["kind", "body"]
theorem sc_sum_of : FnScope N_sum_of ["kind", "body"] (defScope s_sum_of) := ⟨rfl, rfl, rfl, by decide +kernel, rfl, by decide +kernel, by decide +kernel⟩
abbrev s_l_cell_at : Stmt := topS 26
abbrev N_l_cell_at : List Str := ["_law_script", "_law_k"]
theorem sc_l_cell_at : FnScope N_l_cell_at ["_law_script", "_law_k"] (defScope s_l_cell_at) := ⟨rfl, rfl, rfl, by decide +kernel, rfl, by decide +kernel, by decide +kernel⟩
abbrev s_l_digit : Stmt := topS 27
abbrev N_l_digit : List Str := ["_law_state", "_law_base", "_law_found", "_law_number"]
theorem sc_l_digit : FnScope N_l_digit ["_law_state", "_law_base"] (defScope s_l_digit) := ⟨rfl, rfl, rfl, by decide +kernel, rfl, by decide +kernel, by decide +kernel⟩
abbrev s_l_figures : Stmt := topS 28
abbrev N_l_figures : List Str := ["_law_number", "_law_found"]
theorem sc_l_figures : FnScope N_l_figures ["_law_number"] (defScope s_l_figures) := ⟨rfl, rfl, rfl, by decide +kernel, rfl, by decide +kernel, by decide +kernel⟩
abbrev s_l_number_at : Stmt := topS 29
abbrev N_l_number_at : List Str := ["_law_row", "_law_at", "_law_number", "_law_place"]
theorem sc_l_number_at : FnScope N_l_number_at ["_law_row", "_law_at"] (defScope s_l_number_at) := ⟨rfl, rfl, rfl, by decide +kernel, rfl, by decide +kernel, by decide +kernel⟩
abbrev s_l_odd_row : Stmt := topS 30
abbrev N_l_odd_row : List Str := ["_law_state", "_law_row", "_law_odd", "_law_at"]
theorem sc_l_odd_row : FnScope N_l_odd_row ["_law_state", "_law_row"] (defScope s_l_odd_row) := ⟨rfl, rfl, rfl, by decide +kernel, rfl, by decide +kernel, by decide +kernel⟩
abbrev s_l_bytes : Stmt := topS 31
abbrev N_l_bytes : List Str := ["_law_state", "_law_many", "_law_plain", "_law_found", "_law_k", "_law_byte"]
theorem sc_l_bytes : FnScope N_l_bytes ["_law_state", "_law_many"] (defScope s_l_bytes) := ⟨rfl, rfl, rfl, by decide +kernel, rfl, by decide +kernel, by decide +kernel⟩
abbrev s_l_sum : Stmt := topS 32
abbrev N_l_sum : List Str := ["_law_row", "_law_number", "_law_byte"]
theorem sc_l_sum : FnScope N_l_sum ["_law_row", "_law_number"] (defScope s_l_sum) := ⟨rfl, rfl, rfl, by decide +kernel, rfl, by decide +kernel, by decide +kernel⟩
abbrev s_l_stuffed : Stmt := topS 33
abbrev N_l_stuffed : List Str := ["_law_row", "_law_found", "_law_noughts", "_law_byte"]
theorem sc_l_stuffed : FnScope N_l_stuffed ["_law_row"] (defScope s_l_stuffed) := ⟨rfl, rfl, rfl, by decide +kernel, rfl, by decide +kernel, by decide +kernel⟩
abbrev s_l_boxed : Stmt := topS 34
abbrev N_l_boxed : List Str := ["_law_kind", "_law_body", "_law_content"]
theorem sc_l_boxed : FnScope N_l_boxed ["_law_kind", "_law_body"] (defScope s_l_boxed) := ⟨rfl, rfl, rfl, by decide +kernel, rfl, by decide +kernel, by decide +kernel⟩
abbrev s_l_contents : Stmt := topS 35
abbrev N_l_contents : List Str := ["_law_row", "_law_at", "_law_found", "_law_places", "_law_noughts"]
theorem sc_l_contents : FnScope N_l_contents ["_law_row", "_law_at"] (defScope s_l_contents) := ⟨rfl, rfl, rfl, by decide +kernel, rfl, by decide +kernel, by decide +kernel⟩
abbrev s_l_box_at : Stmt := topS 36
abbrev N_l_box_at : List Str := ["_law_row", "_law_at", "_law_found", "_law_places", "_law_size", "_law_many", "_law_body", "_law_end"]
theorem sc_l_box_at : FnScope N_l_box_at ["_law_row", "_law_at"] (defScope s_l_box_at) := ⟨rfl, rfl, rfl, by decide +kernel, rfl, by decide +kernel, by decide +kernel⟩
abbrev s_l_boxes_in : Stmt := topS 37
abbrev N_l_boxes_in : List Str := ["_law_row", "_law_found", "_law_at", "_law_there"]
theorem sc_l_boxes_in : FnScope N_l_boxes_in ["_law_row"] (defScope s_l_boxes_in) := ⟨rfl, rfl, rfl, by decide +kernel, rfl, by decide +kernel, by decide +kernel⟩
abbrev s_l_stream : Stmt := topS 38
abbrev N_l_stream : List Str := ["_law_cells", "_law_row", "_law_cell", "_law_state", "_law_way", "_law_there"]
theorem sc_l_stream : FnScope N_l_stream ["_law_cells"] (defScope s_l_stream) := ⟨rfl, rfl, rfl, by decide +kernel, rfl, by decide +kernel, by decide +kernel⟩
abbrev s_l_refused : Stmt := topS 39
abbrev N_l_refused : List Str := ["_law_feed", "_law_odd", "e"]
theorem sc_l_refused : FnScope N_l_refused ["_law_feed", "_law_odd"] (defScope s_l_refused) := ⟨rfl, rfl, rfl, by decide +kernel, rfl, by decide +kernel, by decide +kernel⟩
abbrev s_l_ended : Stmt := topS 40
abbrev N_l_ended : List Str := ["_law_due", "_law_ends", "_law_low", "_law_high", "_law_k"]
theorem sc_l_ended : FnScope N_l_ended ["_law_due", "_law_ends", "_law_low", "_law_high"] (defScope s_l_ended) := ⟨rfl, rfl, rfl, by decide +kernel, rfl, by decide +kernel, by decide +kernel⟩
abbrev s_l_takes : Stmt := topS 41
abbrev N_l_takes : List Str := ["_law_feed", "_law_row", "_law_low", "_law_high", "_law_due", "_law_ends", "_law_handed", "_law_found", "_law_one"]
theorem sc_l_takes : FnScope N_l_takes ["_law_feed", "_law_row", "_law_low", "_law_high", "_law_due", "_law_ends"] (defScope s_l_takes) := ⟨rfl, rfl, rfl, by decide +kernel, rfl, by decide +kernel, by decide +kernel⟩
abbrev s_law : Stmt := topS 42
abbrev N_law : List Str := ["_law_script", "_law_cells", "_law_rows", "_law_dues", "_law_k", "_law_ends", "_law_feeds", "_law_lows", "_law_state", "_law_pace", "_law_turn", "_law_low", "_law_high", "_law_row", "_law_at", "_law_kind", "_law_body"]
theorem sc_law : FnScope N_law ["_law_script"] (defScope s_law) := ⟨rfl, rfl, rfl, by decide +kernel, rfl, by decide +kernel, by decide +kernel⟩

structure Txt (K : PySem.W.Frag) (mg : Str → Option Value) : Type where
  a_is_number : Addr
  d_is_number : FuncData
  F_is_number : Fun K "is_number" "is_number" s_is_number a_is_number d_is_number
  g_is_number : mg "is_number" = some (.ref a_is_number)
  b_is_number : Binds K d_is_number ["thing"] []
  a_is_whole : Addr
  d_is_whole : FuncData
  F_is_whole : Fun K "is_whole" "is_whole" s_is_whole a_is_whole d_is_whole
  g_is_whole : mg "is_whole" = some (.ref a_is_whole)
  b_is_whole : Binds K d_is_whole ["thing", "low", "high"] []
  a_is_bytes : Addr
  d_is_bytes : FuncData
  F_is_bytes : Fun K "is_bytes" "is_bytes" s_is_bytes a_is_bytes d_is_bytes
  g_is_bytes : mg "is_bytes" = some (.ref a_is_bytes)
  b_is_bytes : Binds K d_is_bytes ["thing"] []
  a_refuse_no_bytes : Addr
  d_refuse_no_bytes : FuncData
  F_refuse_no_bytes : Fun K "refuse_no_bytes" "refuse_no_bytes" s_refuse_no_bytes a_refuse_no_bytes d_refuse_no_bytes
  g_refuse_no_bytes : mg "refuse_no_bytes" = some (.ref a_refuse_no_bytes)
  b_refuse_no_bytes : Binds K d_refuse_no_bytes ["row"] []
  a_number_at : Addr
  d_number_at : FuncData
  F_number_at : Fun K "number_at" "number_at" s_number_at a_number_at d_number_at
  g_number_at : mg "number_at" = some (.ref a_number_at)
  b_number_at : Binds K d_number_at ["row", "at"] []
  a_check : Addr
  d_check : FuncData
  F_check : Fun K "check" "check" s_check a_check d_check
  g_check : mg "check" = some (.ref a_check)
  b_check : Binds K d_check ["row"] []
  a_Growing_init : Addr
  d_Growing_init : FuncData
  F_Growing_init : Fun K "__init__" "Growing.__init__" s_Growing_init a_Growing_init d_Growing_init
  b_Growing_init : Binds K d_Growing_init ["self", "at"] []
  a_Growing_grow : Addr
  d_Growing_grow : FuncData
  F_Growing_grow : Fun K "grow" "Growing.grow" s_Growing_grow a_Growing_grow d_Growing_grow
  b_Growing_grow : Binds K d_Growing_grow ["self", "byte"] []
  a_Growing_measure : Addr
  d_Growing_measure : FuncData
  F_Growing_measure : Fun K "measure" "Growing.measure" s_Growing_measure a_Growing_measure d_Growing_measure
  b_Growing_measure : Binds K d_Growing_measure ["self"] []
  a_Growing_body : Addr
  d_Growing_body : FuncData
  F_Growing_body : Fun K "body" "Growing.body" s_Growing_body a_Growing_body d_Growing_body
  b_Growing_body : Binds K d_Growing_body ["self"] []
  a_Growing_is_right : Addr
  d_Growing_is_right : FuncData
  F_Growing_is_right : Fun K "is_right" "Growing.is_right" s_Growing_is_right a_Growing_is_right d_Growing_is_right
  b_Growing_is_right : Binds K d_Growing_is_right ["self"] []
  a_Feed_init : Addr
  d_Feed_init : FuncData
  F_Feed_init : Fun K "__init__" "Feed.__init__" s_Feed_init a_Feed_init d_Feed_init
  b_Feed_init : Binds K d_Feed_init ["self"] []
  a_Feed_take : Addr
  d_Feed_take : FuncData
  F_Feed_take : Fun K "take" "Feed.take" s_Feed_take a_Feed_take d_Feed_take
  b_Feed_take : Binds K d_Feed_take ["self", "part"] []
  a_Feed_taken : Addr
  d_Feed_taken : FuncData
  F_Feed_taken : Fun K "taken" "Feed.taken" s_Feed_taken a_Feed_taken d_Feed_taken
  b_Feed_taken : Binds K d_Feed_taken ["self"] []
  a_sum_of : Addr
  d_sum_of : FuncData
  F_sum_of : Fun K "sum_of" "sum_of" s_sum_of a_sum_of d_sum_of
  g_sum_of : mg "sum_of" = some (.ref a_sum_of)
  b_sum_of : Binds K d_sum_of ["kind", "body"] []
  a_l_cell_at : Addr
  d_l_cell_at : FuncData
  F_l_cell_at : Fun K "_law_cell_at" "_law_cell_at" s_l_cell_at a_l_cell_at d_l_cell_at
  g_l_cell_at : mg "_law_cell_at" = some (.ref a_l_cell_at)
  b_l_cell_at : Binds K d_l_cell_at ["_law_script", "_law_k"] []
  a_l_digit : Addr
  d_l_digit : FuncData
  F_l_digit : Fun K "_law_digit" "_law_digit" s_l_digit a_l_digit d_l_digit
  g_l_digit : mg "_law_digit" = some (.ref a_l_digit)
  b_l_digit : Binds K d_l_digit ["_law_state", "_law_base"] []
  a_l_figures : Addr
  d_l_figures : FuncData
  F_l_figures : Fun K "_law_figures" "_law_figures" s_l_figures a_l_figures d_l_figures
  g_l_figures : mg "_law_figures" = some (.ref a_l_figures)
  b_l_figures : Binds K d_l_figures ["_law_number"] []
  a_l_number_at : Addr
  d_l_number_at : FuncData
  F_l_number_at : Fun K "_law_number_at" "_law_number_at" s_l_number_at a_l_number_at d_l_number_at
  g_l_number_at : mg "_law_number_at" = some (.ref a_l_number_at)
  b_l_number_at : Binds K d_l_number_at ["_law_row", "_law_at"] []
  a_l_odd_row : Addr
  d_l_odd_row : FuncData
  F_l_odd_row : Fun K "_law_odd_row" "_law_odd_row" s_l_odd_row a_l_odd_row d_l_odd_row
  g_l_odd_row : mg "_law_odd_row" = some (.ref a_l_odd_row)
  b_l_odd_row : Binds K d_l_odd_row ["_law_state", "_law_row"] []
  a_l_bytes : Addr
  d_l_bytes : FuncData
  F_l_bytes : Fun K "_law_bytes" "_law_bytes" s_l_bytes a_l_bytes d_l_bytes
  g_l_bytes : mg "_law_bytes" = some (.ref a_l_bytes)
  b_l_bytes : Binds K d_l_bytes ["_law_state", "_law_many"] []
  a_l_sum : Addr
  d_l_sum : FuncData
  F_l_sum : Fun K "_law_sum" "_law_sum" s_l_sum a_l_sum d_l_sum
  g_l_sum : mg "_law_sum" = some (.ref a_l_sum)
  b_l_sum : Binds K d_l_sum ["_law_row", "_law_number"] []
  a_l_stuffed : Addr
  d_l_stuffed : FuncData
  F_l_stuffed : Fun K "_law_stuffed" "_law_stuffed" s_l_stuffed a_l_stuffed d_l_stuffed
  g_l_stuffed : mg "_law_stuffed" = some (.ref a_l_stuffed)
  b_l_stuffed : Binds K d_l_stuffed ["_law_row"] []
  a_l_boxed : Addr
  d_l_boxed : FuncData
  F_l_boxed : Fun K "_law_boxed" "_law_boxed" s_l_boxed a_l_boxed d_l_boxed
  g_l_boxed : mg "_law_boxed" = some (.ref a_l_boxed)
  b_l_boxed : Binds K d_l_boxed ["_law_kind", "_law_body"] []
  a_l_contents : Addr
  d_l_contents : FuncData
  F_l_contents : Fun K "_law_contents" "_law_contents" s_l_contents a_l_contents d_l_contents
  g_l_contents : mg "_law_contents" = some (.ref a_l_contents)
  b_l_contents : Binds K d_l_contents ["_law_row", "_law_at"] []
  a_l_box_at : Addr
  d_l_box_at : FuncData
  F_l_box_at : Fun K "_law_box_at" "_law_box_at" s_l_box_at a_l_box_at d_l_box_at
  g_l_box_at : mg "_law_box_at" = some (.ref a_l_box_at)
  b_l_box_at : Binds K d_l_box_at ["_law_row", "_law_at"] []
  a_l_boxes_in : Addr
  d_l_boxes_in : FuncData
  F_l_boxes_in : Fun K "_law_boxes_in" "_law_boxes_in" s_l_boxes_in a_l_boxes_in d_l_boxes_in
  g_l_boxes_in : mg "_law_boxes_in" = some (.ref a_l_boxes_in)
  b_l_boxes_in : Binds K d_l_boxes_in ["_law_row"] []
  a_l_stream : Addr
  d_l_stream : FuncData
  F_l_stream : Fun K "_law_stream" "_law_stream" s_l_stream a_l_stream d_l_stream
  g_l_stream : mg "_law_stream" = some (.ref a_l_stream)
  b_l_stream : Binds K d_l_stream ["_law_cells"] []
  a_l_refused : Addr
  d_l_refused : FuncData
  F_l_refused : Fun K "_law_refused" "_law_refused" s_l_refused a_l_refused d_l_refused
  g_l_refused : mg "_law_refused" = some (.ref a_l_refused)
  b_l_refused : Binds K d_l_refused ["_law_feed", "_law_odd"] []
  a_l_ended : Addr
  d_l_ended : FuncData
  F_l_ended : Fun K "_law_ended" "_law_ended" s_l_ended a_l_ended d_l_ended
  g_l_ended : mg "_law_ended" = some (.ref a_l_ended)
  b_l_ended : Binds K d_l_ended ["_law_due", "_law_ends", "_law_low", "_law_high"] []
  a_l_takes : Addr
  d_l_takes : FuncData
  F_l_takes : Fun K "_law_takes" "_law_takes" s_l_takes a_l_takes d_l_takes
  g_l_takes : mg "_law_takes" = some (.ref a_l_takes)
  b_l_takes : Binds K d_l_takes ["_law_feed", "_law_row", "_law_low", "_law_high", "_law_due", "_law_ends"] []
  a_law : Addr
  d_law : FuncData
  F_law : Fun K "law" "law" s_law a_law d_law
  g_law : mg "law" = some (.ref a_law)
  b_law : Binds K d_law ["_law_script"] []
  m_bool : mg "bool" = none
  m_divmod : mg "divmod" = none
  m_int : mg "int" = none
  m_isinstance : mg "isinstance" = none
  m_len : mg "len" = none
  m_list : mg "list" = none
  m_min : mg "min" = none
  m_range : mg "range" = none
  m_tuple : mg "tuple" = none
  c_ScrollError : Addr
  g_ScrollError : mg "ScrollError" = some (.ref c_ScrollError)
  c_NoBytes : Addr
  g_NoBytes : mg "NoBytes" = some (.ref c_NoBytes)
  c_NoPlace : Addr
  g_NoPlace : mg "NoPlace" = some (.ref c_NoPlace)
  c_NoKind : Addr
  g_NoKind : mg "NoKind" = some (.ref c_NoKind)
  c_Growing : Addr
  g_Growing : mg "Growing" = some (.ref c_Growing)
  c_Feed : Addr
  g_Feed : mg "Feed" = some (.ref c_Feed)
  ct_GREATEST_NUMBER : Tok
  g_GREATEST_NUMBER : mg "GREATEST_NUMBER" = some (.int 1000000000000000000000000000000000000000000000000000000000000 ct_GREATEST_NUMBER)
  ct_BASE : Tok
  g_BASE : mg "BASE" = some (.int 128 ct_BASE)
  ct_STUFFING : Tok
  g_STUFFING : mg "STUFFING" = some (.int 2 ct_STUFFING)
  ct_END : Tok
  g_END : mg "END" = some (.int 255 ct_END)
  ct_LEAST_KIND : Tok
  g_LEAST_KIND : mg "LEAST_KIND" = some (.int 1 ct_LEAST_KIND)
  ct_GREATEST_KIND : Tok
  g_GREATEST_KIND : mg "GREATEST_KIND" = some (.int 9 ct_GREATEST_KIND)
  ct_LONGEST_BODY : Tok
  g_LONGEST_BODY : mg "LONGEST_BODY" = some (.int 60000 ct_LONGEST_BODY)
  ct_LONGEST_LENGTH : Tok
  g_LONGEST_LENGTH : mg "LONGEST_LENGTH" = some (.int 3 ct_LONGEST_LENGTH)
  cl_Growing : Cls K c_Growing
  mkk_Growing : PySem.W.makesIn K c_Growing = true
  na_Growing_at : NoAttr K c_Growing "at"
  na_Growing_kind : NoAttr K c_Growing "kind"
  na_Growing_content : NoAttr K c_Growing "content"
  na_Growing_noughts : NoAttr K c_Growing "noughts"
  na_Growing_first : NoAttr K c_Growing "first"
  na_Growing_behind : NoAttr K c_Growing "behind"
  na_Growing_closed : NoAttr K c_Growing "closed"
  na_Growing_reached : NoAttr K c_Growing "reached"
  na_Growing_growing : NoAttr K c_Growing "growing"
  na_Growing_take : NoAttr K c_Growing "take"
  na_Growing_taken : NoAttr K c_Growing "taken"
  mk_Growing : Mk K c_Growing a_Growing_init
  mt_Growing_grow : Meth K c_Growing "grow" a_Growing_grow
  mt_Growing_measure : Meth K c_Growing "measure" a_Growing_measure
  mt_Growing_body : Meth K c_Growing "body" a_Growing_body
  mt_Growing_is_right : Meth K c_Growing "is_right" a_Growing_is_right
  cl_Feed : Cls K c_Feed
  mkk_Feed : PySem.W.makesIn K c_Feed = true
  na_Feed_at : NoAttr K c_Feed "at"
  na_Feed_kind : NoAttr K c_Feed "kind"
  na_Feed_content : NoAttr K c_Feed "content"
  na_Feed_noughts : NoAttr K c_Feed "noughts"
  na_Feed_first : NoAttr K c_Feed "first"
  na_Feed_behind : NoAttr K c_Feed "behind"
  na_Feed_closed : NoAttr K c_Feed "closed"
  na_Feed_measure : NoAttr K c_Feed "measure"
  na_Feed_is_right : NoAttr K c_Feed "is_right"
  na_Feed_body : NoAttr K c_Feed "body"
  na_Feed_reached : NoAttr K c_Feed "reached"
  na_Feed_growing : NoAttr K c_Feed "growing"
  na_Feed_grow : NoAttr K c_Feed "grow"
  mk_Feed : Mk K c_Feed a_Feed_init
  mt_Feed_take : Meth K c_Feed "take" a_Feed_take
  mt_Feed_taken : Meth K c_Feed "taken" a_Feed_taken
  x_NoBytes : PySem.W.excIn K c_NoBytes [.type "ValueError", .type "Exception", .type "BaseException", .type "object"] "ValueError.__new__" = true
  k_NoBytes : PySem.W.keepIn K (.ref c_NoBytes) = true
  bb_NoBytes : PySem.W.subIn K (.ref c_NoBytes) (.type "BaseException") = some true
  t_NoBytes : PySem.W.typeIn K (.ref c_NoBytes) = some (.type "type")
  xc_NoBytes : ExcC K c_NoBytes
  em_NoBytes_NoBytes : PySem.W.exmOne K (.ref c_NoBytes) (.ref c_NoBytes) = some true
  em_NoBytes_ScrollError : PySem.W.exmOne K (.ref c_NoBytes) (.ref c_ScrollError) = some true
  io_NoBytes_NoKind : PySem.W.kitOne K (.ref c_NoBytes) (.ref c_NoKind) = some false
  io_NoBytes_NoPlace : PySem.W.kitOne K (.ref c_NoBytes) (.ref c_NoPlace) = some false
/-! ### heaps -/
/-- all but what stands at p is as it was -/
def Frm (p : Addr) (H H' : Hp) : Prop := ∀ b o, b ≠ p → H b = some o → H' b = some o
theorem Frm.get {p q : Addr} {H H' : Hp} {o : HO} (f : Frm p H H') (n : q ≠ p) (h : H q = some o) : H' q = some o := f q o n h
theorem Frm.refl {p : Addr} {H : Hp} : Frm p H H := fun _ _ _ h => h
theorem Frm.trans {p : Addr} {H H1 H2 : Hp} (a : Frm p H H1) (b : Frm p H1 H2) : Frm p H H2 := fun c o n h => b c o n (a c o n h)
theorem Frm.upd {p : Addr} {H : Hp} {o : HO} : Frm p H (upd H p o) := fun c u n h => by rw [upd_ne n]; exact h
theorem upd_old {H : Hp} {a q : Addr} {o o' : HO} (na : H a = none) (h : H q = some o) : upd H a o' q = some o := by
  rw [upd_ne (ne_of_none h na)]; exact h
theorem upd_oth {H : Hp} {a q : Addr} {o o' : HO} (na : q ≠ a) (h : H q = some o) : upd H a o' q = some o := by
  rw [upd_ne na]; exact h
theorem Frm.new {p a : Addr} {H H' : Hp} {o : HO} (f : Frm p H H') (na : H' a = none) : Frm p H (L2.upd H' a o) := fun c u n h => upd_old na (f c u n h)
theorem Frm.upd2 {p : Addr} {H H' : Hp} {o : HO} (f : Frm p H H') : Frm p H (L2.upd H' p o) := f.trans .upd
theorem Frm.own {p a : Addr} {H H' : Hp} {o : HO} (f : Frm p H H') (na : H a = none) : Frm p H (L2.upd H' a o) := fun c u n h => upd_oth (ne_of_none h na) (f c u n h)
theorem Frm.new2 {p a : Addr} {H H' : Hp} {o o2 : HO} (f : Frm p H H') (na : H' a = none) : Frm p H (L2.upd (L2.upd H' a o2) a o) := by rw [upd_upd]; exact f.new na
theorem upd_old2 {H : Hp} {a q : Addr} {o o' o2 : HO} (na : H a = none) (h : H q = some o) : upd (upd H a o2) a o' q = some o := by rw [upd_upd]; exact upd_old na h
theorem new_ne {H : Hp} {a q : Addr} {o : HO} (na : H a = none) (h : H q = some o) : a ≠ q := fun e => by subst e; rw [na] at h; cases h
theorem Same.get {q : Addr} {H H' : Hp} {o : HO} (f : Same H H') (h : H q = some o) : H' q = some o := f q o h
theorem Same.new {a : Addr} {H H' : Hp} {o : HO} (f : Same H H') (na : H' a = none) : Same H (L2.upd H' a o) := fun c u h => upd_old na (f c u h)
theorem Same.new2 {a : Addr} {H H' : Hp} {o o2 : HO} (f : Same H H') (na : H' a = none) : Same H (L2.upd (L2.upd H' a o2) a o) := by rw [upd_upd]; exact Same.new f na
theorem Same.own {a : Addr} {H H' : Hp} {o : HO} (f : Same H H') (na : H a = none) : Same H (L2.upd H' a o) := fun c u h => upd_oth (ne_of_none h na) (f c u h)
theorem Same.frm {p : Addr} {H H' : Hp} (f : Same H H') : Frm p H H' := fun c u _ h => f c u h
/-- what is new to an elder heap and stands apart is no matter -/
theorem Frm.same {p : Addr} {H H' : Hp} (f : Frm p H H') (n : H p = none) : Same H H' := fun c u h => f c u (ne_of_none h n) h
theorem Same.byFrm {p : Addr} {H H1 H2 : Hp} (f : Same H H1) (g : Frm p H1 H2) (n : H p = none) : Same H H2 := fun c u h => g c u (ne_of_none h n) (f c u h)
theorem Frm.none {p q : Addr} {H H' : Hp} (f : Frm p H H') (n : q ≠ p) (h : H' q = none) : H q = none := by
  cases e : H q with
  | none => rfl
  | some o => rw [f q o n e] at h; cases h
theorem Same.none {q : Addr} {H H' : Hp} (f : Same H H') (h : H' q = none) : H q = none := by
  cases e : H q with
  | none => rfl
  | some o => rw [f q o e] at h; cases h
/-! ### sizes, ifs -/
theorem szb {n : Nat} (h : n ≤ 16000000) : n ≤ sizeLine := Nat.le_trans h (by decide)
theorem szbl {n : Nat} (h : n ≤ 16000000) : n < sizeLine := Nat.lt_of_le_of_lt h (by decide)
theorem sz {n : Nat} (h : Nat.ble n 1000 = true) : n ≤ sizeLine := Nat.le_trans (Nat.le_of_ble_eq_true h) (by decide)
theorem szl {n : Nat} (h : Nat.ble n 1000 = true) : n < sizeLine := Nat.lt_of_le_of_lt (Nat.le_of_ble_eq_true h) (by decide)
theorem szn {n : Nat} (h : n ≤ 1000) : n ≤ sizeLine := Nat.le_trans h (by decide)
theorem sznl {n : Nat} (h : n ≤ 1000) : n < sizeLine := Nat.lt_of_le_of_lt h (by decide)
theorem ifT {c : Bool} {A B : Prop} (h : c = true) (a : A) : if c = true then A else B := by rw [if_pos h]; exact a
theorem ifF {c : Bool} {A B : Prop} (h : c = false) (b : B) : if c = true then A else B := by rw [h, if_neg Bool.false_ne_true]; exact b
theorem ifC {c : Bool} {A B : Prop} (a : c = true → A) (b : c = false → B) : if c = true then A else B := by
  cases c with
  | true => exact ifT rfl (a rfl)
  | false => exact ifF rfl (b rfl)
theorem ifAnd {k1 k2 : Bool} {A : Prop} {Q : VK} {H : Hp} (a : Q (.bl k2) H → A) (h : Q (.bl (k1 && k2)) H) : if k1 = true then A else Q (.bl false) H := by
  cases k1 with
  | true => exact ifT rfl (a h)
  | false => exact ifF rfl h
/-! ### items at a drawn place -/
theorem at_nn {α : Type} {xs : List α} {d : Int} (h0 : 0 ≤ d) (h1 : d < xs.length) : ∃ v, atI xs d = some v ∧ v ∈ xs ∧ xs[d.toNat]? = some v := by
  have h2 : d.toNat < xs.length := by omega
  have e : (d.toNat : Int) = d := by omega
  have k := atI_nat (List.getElem?_eq_getElem h2)
  rw [e] at k
  exact ⟨xs[d.toNat], k, List.getElem_mem h2, List.getElem?_eq_getElem h2⟩
theorem ixP {K : PySem.W.Frag} {H : Hp} {Q : VK} {p : Addr} {xs : List V} {d : Int} (R : V → Prop) (hp : SqL K H p xs) (h0 : 0 ≤ d) (h1 : d < xs.length) (all : ∀ v ∈ xs, R v) (k : ∀ v, R v → Q v H) : rIxL K (.ref p) (.int d) H Q := by
  obtain ⟨v, e, m, _⟩ := at_nn h0 h1
  exact ⟨_, _, _, _, rfl, rfl, hp, e, k v (all v m)⟩
theorem ixG {K : PySem.W.Frag} {H : Hp} {Q : VK} {p : Addr} {xs : List V} {d : Int} (hp : SqL K H p xs) (h0 : 0 ≤ d) (h1 : d < xs.length) (k : ∀ v, xs[d.toNat]? = some v → Q v H) : rIxL K (.ref p) (.int d) H Q := by
  obtain ⟨v, e, _, m⟩ := at_nn h0 h1
  exact ⟨_, _, _, _, rfl, rfl, hp, e, k v m⟩
def isI : V → Bool
  | .int _ => true
  | _ => false
theorem ixI {K : PySem.W.Frag} {H : Hp} {Q : VK} {p : Addr} {xs : List V} {d : Int} (hp : SqL K H p xs) (h0 : 0 ≤ d) (h1 : d < xs.length) (all : xs.all isI = true) (k : ∀ i, V.int i ∈ xs → Q (.int i) H) : rIxL K (.ref p) (.int d) H Q := by
  refine ixP (fun v => (∃ i, v = .int i) ∧ v ∈ xs) hp h0 h1 (fun v hv => ⟨?_, hv⟩) (fun v ⟨⟨i, e⟩, m⟩ => ?_)
  · have := List.all_eq_true.mp all v hv
    cases v <;> first | exact ⟨_, rfl⟩ | cases this
  · subst e; exact k i m
/-! ### a call with keywords alone -/
section
variable {X : Cx} {CX : CXT} {k : Nat} {f : Addr} {fd : FuncData} {ps ks : List Str} {sp : Sp} {E : XK} {x : Str} {p pos : Pos} {kws : List Keyword} {tk : TA} {g : List Value → List Value → List Value} {gV : List V → List V → List V}
theorem pe_callN0 (F : FnOk X.prog X.w X.K X.mg X.base CX k f fd ps sp) (hr : Room k X.A) (hg : Gl X x) (hm : X.mg x = some (.ref f)) (hk : PySem.W.keepIn X.K (.ref f) = true) (hb : KBn X.K fd ps 0 ks g gV) (hx : Passes CX X E)
    (hkw : PK X kws tk) (hall : (backToKw pos (keywordEach kws X.env)).all (·.1.isSome) = true := by rfl) (hks : (backToKw pos (keywordEach kws X.env)).filterMap (·.1) = ks := by rfl)
    (hdb : (x == ("__debug__" : Str)) = false := by decide)
    (hpl : ((backTo pos (starEach [] X.env)).any (·.1) || (backToKw pos (keywordEach kws X.env)).any (·.1.isNone)) = false := by rfl) :
    PE X (.Call (.Name x p) [] kws pos) (tCallN 0 ks.length sp gV E tNil tk) := by
  refine ⟨fun pins s σ H Q I h => ?_⟩
  refine wpAny_Call_Name_kw (ld_glob I hg hm ?_ hdb)
  refine PySem.W.callWith_KW0 (h₀ := X.base) I.ok.mod.kin hk hall (thn (hkw.run pos pins s σ H _ I h) fun ws s2 ⟨zs, H2, I2, rz, l1, l2, q2⟩ => ⟨I2.kIn, ?_⟩) hpl
  rw [hks]
  exact run_fnN F hr hb hx I2 .nil rz rfl l2 q2
end
section
variable {K : PySem.W.Frag} {x qual : Str} {st : Stmt} {f : Addr} {fd : FuncData} {ps ks : List Str} {n : Nat}
theorem kbAll {F : Fun K x qual st f fd} {g : {α : Type} → List α → List α → List α} (h : ∀ (kV doc pm : Value) (an : Option Addr) (cdv ct : Value) (us ws : List Value), us.length = n → ws.length = ks.length →
    bindArgs (PySem.W.fnOf x qual (defArgs st) (defBody st) (defScope st) .none kV doc pm an cdv ct) ⟨us, ks.zip ws⟩ = pure (ps.zip (g us ws)))
    (hrel : ∀ {vs : List V} {us : List Value} {zs : List V} {ws : List Value}, Vals vs us → Vals zs ws → Vals (g vs zs) (g us ws)) : KBn K fd ps n ks (fun us ws => g us ws) (fun us ws => g us ws) := by
  obtain ⟨oc, od, kV, doc, pm, an, cdv, ct, osl, rfl, lk, hcd⟩ := F.ex
  exact ⟨fun s us ws _ h1 h2 => .of_eq (h kV doc pm an cdv ct us ws h1 h2), fun r1 r2 => hrel r1 r2⟩
variable {params : Arguments} {body : List Stmt} {scope : Scope} {dvs : List V}
theorem bindsAll {F : FunD K x qual params body scope dvs [] f fd}
    (h : ∀ (T : Addr) (kV doc pm : Value) (an : Option Addr) (cdv ct : Value) (us its : List Value), us.length = ps.length → its.length = dvs.length →
      ∃ k, bindArgs (PySem.W.fnOf x qual params body scope (.ref T) kV doc pm an cdv ct) ⟨us, []⟩ = seqItems? (.ref T) >>= k ∧ k (some its.toArray) = pure (ps.zip us)) (hd : dvs ≠ []) : Binds K fd ps [] := by
  obtain ⟨ds, hv, hb⟩ := F.binds1 (ps := ps) ps.length dvs.length hd (by omega) (fun T kV doc pm an cdv ct us its h1 h2 => by
    obtain ⟨k, e1, e2⟩ := h T kV doc pm an cdv ct us its h1 h2
    refine ⟨k, e1, ?_⟩
    rw [e2, ← h2, List.drop_length, List.append_nil])
  rw [List.drop_length] at hv
  cases hv
  exact hb
theorem kbAllD {F : FunD K x qual params body scope dvs [] f fd} {g : {α : Type} → List α → List α → List α}
    (h : ∀ (T : Addr) (kV doc pm : Value) (an : Option Addr) (cdv ct : Value) (us its ws : List Value), us.length = n → its.length = dvs.length → ws.length = ks.length →
      ∃ k, bindArgs (PySem.W.fnOf x qual params body scope (.ref T) kV doc pm an cdv ct) ⟨us, ks.zip ws⟩ = seqItems? (.ref T) >>= k ∧ k (some its.toArray) = pure (ps.zip (g us ws))) (hd : dvs ≠ [])
    (hrel : ∀ {vs : List V} {us : List Value} {zs : List V} {ws : List Value}, Vals vs us → Vals zs ws → Vals (g vs zs) (g us ws)) : KBn K fd ps n ks (fun us ws => g us ws) (fun us ws => g us ws) := by
  obtain ⟨oc, od, dV, kV, doc, pm, an, cdv, ct, osl, rfl, lk, hcd, hD, hK⟩ := F.ex
  rcases hD with ⟨e, _⟩ | ⟨_, T, o, its, m, rfl, lT, oT, rT⟩
  · exact absurd e hd
  · refine ⟨fun s us ws X l1 l2 => ?_, fun r1 r2 => hrel r1 r2⟩
    obtain ⟨k, e1, e2⟩ := h T kV doc pm an cdv ct us its ws l1 rT.length.symm l2
    refine BindsTo.of_looks fun M => ?_
    rw [e1]
    exact looks_items X lT oT (.of_pure e2)
theorem exm_by {K : PySem.W.Frag} {C S : Addr} {b : Bool} (h1 : PySem.W.subIn K (.ref S) (.type "BaseException") = some true) (h2 : PySem.W.isClsIn K S = true) (h3 : PySem.W.typeIn K (.ref S) = some (.type "type")) (h4 : PySem.W.subIn K (.ref C) (.ref S) = some b) :
    PySem.W.exmOne K (.ref C) (.ref S) = some b := by
  have e1 : (PySem.W.subIn K (.ref S) (.type "BaseException") == some true) = true := by rw [h1] <;> rfl
  have e2 : ((PySem.W.clsIn K S).isSome && PySem.W.typeIn K (.ref S) == some (.type "type")) = true := by
    have h2' : (PySem.W.clsIn K S).isSome = true := h2
    rw [h2', h3] <;> rfl
  show (if (PySem.W.subIn K (.ref S) (.type "BaseException") == some true) = true then (if ((PySem.W.clsIn K S).isSome && PySem.W.typeIn K (.ref S) == some (.type "type")) = true then PySem.W.subIn K (.ref C) (.ref S) else none) else none) = some b
  rw [if_pos e1, if_pos e2]
  exact h4
end
/-! ### a < b < c of whole numbers, as one answer -/
def MonoE (t : TE) : Prop := ∀ (σ : L2.St) (H : Hp) (Q Q' : VK), (∀ v H', Q v H' → Q' v H') → t σ H Q → t σ H Q'
theorem mn_var {i : Nat} : MonoE (tVar i) := fun _ _ _ _ k ⟨v, e, q⟩ => ⟨v, e, k _ _ q⟩
theorem mn_c {v : V} : MonoE (tC v) := fun _ _ _ _ k q => k _ _ q
theorem mn_I0 {g : Int → Int → V} {ta tb : TE} (a : MonoE ta) (b : MonoE tb) : MonoE (tOp (rI0 g) ta tb) := fun σ H Q Q' k h =>
  a σ H _ _ (fun _ H1 h1 => b σ H1 _ _ (fun _ _ ⟨i, j, e1, e2, q⟩ => ⟨i, j, e1, e2, k _ _ q⟩) h1) h
theorem mn_I {C : Int → Int → Prop} {g : Int → Int → V} {ta tb : TE} (a : MonoE ta) (b : MonoE tb) : MonoE (tOp (rI C g) ta tb) := fun σ H Q Q' k h =>
  a σ H _ _ (fun _ H1 h1 => b σ H1 _ _ (fun _ _ ⟨i, j, e1, e2, c, q⟩ => ⟨i, j, e1, e2, c, k _ _ q⟩) h1) h
theorem mn_ixL {K : PySem.W.Frag} {ta tb : TE} (a : MonoE ta) (b : MonoE tb) : MonoE (tOp (rIxL K) ta tb) := fun σ H Q Q' k h =>
  a σ H _ _ (fun _ H1 h1 => b σ H1 _ _ (fun _ _ ⟨p, xs, i, v, e1, e2, s, e, q⟩ => ⟨p, xs, i, v, e1, e2, s, e, k _ _ q⟩) h1) h
theorem mn_ixT {K : PySem.W.Frag} {ta tb : TE} (a : MonoE ta) (b : MonoE tb) : MonoE (tOp (rIxT K) ta tb) := fun σ H Q Q' k h =>
  a σ H _ _ (fun _ H1 h1 => b σ H1 _ _ (fun _ _ ⟨p, xs, i, v, e1, e2, s, e, q⟩ => ⟨p, xs, i, v, e1, e2, s, e, k _ _ q⟩) h1) h
theorem mn_len {r : List V → Hp → VK → Prop} {ta : TE} (a : MonoE ta) (hr : ∀ vs H (Q Q' : VK), (∀ v H', Q v H' → Q' v H') → r vs H Q → r vs H Q') : MonoE (tCB r (tCons ta tNil)) := fun σ H Q Q' k h =>
  a σ H _ _ (fun _ H1 h1 => hr _ _ _ _ k h1) h
def tChI (g g' : Int → Int → Bool) (ta tb tc : TE) : TE := fun σ H Q => ta σ H fun x H1 => tb σ H1 fun y H2 => tc σ H2 fun z H3 => ∃ i j l : Int, x = .int i ∧ y = .int j ∧ z = .int l ∧ H3 = H2 ∧ Q (.bl (g i j && g' j l)) H2
/-- what c's reading tells is told at once: c changes nothing -/
theorem tChI_to {g g' : Int → Int → Bool} {ta tb tc : TE} (ma : MonoE ta) (mb : MonoE tb) (mc : MonoE tc) {σ : L2.St} {H : Hp} {Q : VK} (cx : ∀ (σ : L2.St) (H : Hp) (Q : V → Hp → Prop), tc σ H Q → ∃ v H', Q v H') (h : tChI g g' ta tb tc σ H Q) :
    tChain (rI0 fun i j => .bl (g i j)) (rI0 fun i j => .bl (g' i j)) ta tb tc σ H Q := by
  refine ma σ H _ _ (fun x H1 h1 => mb σ H1 _ _ (fun y H2 h2 => ?_) h1) h
  obtain ⟨_, _, i, j, l, ex, ey, _, _, q⟩ := cx _ _ _ h2
  refine ⟨i, j, ex, ey, _, rfl, ?_⟩
  cases e : g i j with
  | true =>
    refine ifT rfl (mc σ H2 _ _ (fun z H3 h3 => ?_) h2)
    obtain ⟨i', j', l', ex', ey', ez, e3, q'⟩ := h3
    have e1 : i' = i := V.int.inj (ex'.symm.trans ex)
    have e2 : j' = j := V.int.inj (ey'.symm.trans ey)
    subst e1 e2 ez e3
    rw [e, Bool.true_and] at q'
    exact ⟨j', l', ey, rfl, q'⟩
  | false =>
    rw [e, Bool.false_and] at q
    exact ifF rfl q
def ShowsE (t : TE) : Prop := ∀ (σ : L2.St) (H : Hp) (Q : V → Hp → Prop), t σ H Q → ∃ v H', Q v H'
theorem sh_var {i : Nat} : ShowsE (tVar i) := fun _ _ _ ⟨v, _, q⟩ => ⟨v, _, q⟩
theorem sh_c {v : V} : ShowsE (tC v) := fun _ _ _ q => ⟨_, _, q⟩
theorem sh_I0 {g : Int → Int → V} {ta tb : TE} (a : ShowsE ta) (b : ShowsE tb) : ShowsE (tOp (rI0 g) ta tb) := fun σ H Q h => by
  obtain ⟨x, H1, h1⟩ := a _ _ _ h
  obtain ⟨y, H2, h2⟩ := b _ _ _ h1
  obtain ⟨i, j, _, _, q⟩ := h2
  exact ⟨_, _, q⟩
theorem sh_I {C : Int → Int → Prop} {g : Int → Int → V} {ta tb : TE} (a : ShowsE ta) (b : ShowsE tb) : ShowsE (tOp (rI C g) ta tb) := fun σ H Q h => by
  obtain ⟨x, H1, h1⟩ := a _ _ _ h
  obtain ⟨y, H2, h2⟩ := b _ _ _ h1
  obtain ⟨i, j, _, _, _, q⟩ := h2
  exact ⟨_, _, q⟩
theorem sh_ixL {K : PySem.W.Frag} {ta tb : TE} (a : ShowsE ta) (b : ShowsE tb) : ShowsE (tOp (rIxL K) ta tb) := fun σ H Q h => by
  obtain ⟨x, H1, h1⟩ := a _ _ _ h
  obtain ⟨y, H2, h2⟩ := b _ _ _ h1
  obtain ⟨_, _, _, _, _, _, _, _, q⟩ := h2
  exact ⟨_, _, q⟩
theorem sh_ixT {K : PySem.W.Frag} {ta tb : TE} (a : ShowsE ta) (b : ShowsE tb) : ShowsE (tOp (rIxT K) ta tb) := fun σ H Q h => by
  obtain ⟨x, H1, h1⟩ := a _ _ _ h
  obtain ⟨y, H2, h2⟩ := b _ _ _ h1
  obtain ⟨_, _, _, _, _, _, _, _, q⟩ := h2
  exact ⟨_, _, q⟩
theorem PE.weak {X : Cx} {e : Expr} {t t' : TE} (h : PE X e t) (w : ∀ σ H Q, t' σ H Q → t σ H Q) : PE X e t' := ⟨fun pins s σ H Q I q => h.run pins s σ H Q I (w _ _ _ q)⟩
theorem pe_chainI {X : Cx} {op op' : CmpOp} {g g' : Int → Int → Bool} {a b c : Expr} {ta tb tc : TE} {pos : Pos} (ho : OpR X (compareOp op) (rI0 fun i j => .bl (g i j))) (ho' : OpR X (compareOp op') (rI0 fun i j => .bl (g' i j)))
    (ha : PE X a ta) (hb : PE X b tb) (hc : PE X c tc) (ma : MonoE ta) (mb : MonoE tb) (mc : MonoE tc) (sc : ShowsE tc) (hm : lastMarks [op, op'] [b, c] = false := by rfl) : PE X (.Compare a [op, op'] [b, c] pos) (tChI g g' ta tb tc) :=
  PE.weak (pe_chain ho ho' ha hb hc hm) (fun _ _ _ h => tChI_to ma mb mc sc h)
/-! ### rules within a comprehension: the written part by its own name -/
section
variable {X : Cx} {K : PySem.W.Frag}
theorem ix_listK (h : X.K = K) : IxR X (rIxL K) := h ▸ ix_list
theorem ix_tupK (h : X.K = K) : IxR X (rIxT K) := h ▸ ix_tup
theorem sl_listK (h : X.K = K) : SlR X (rSlL K) := h ▸ sl_list
theorem call_len_seqK (h : X.K = K) : CallR X (.builtin "len") (fun xs H Q => ∃ p ys, xs = [.ref p] ∧ (SqL K H p ys ∨ SqT K H p ys) ∧ Q (.int ys.length) H) := h ▸ call_len_seq
end
section
variable {X : Cx} {K : PySem.W.Frag}
theorem call_isiB (h : X.K = K) : CallR X (.builtin "isinstance") (rIsi K) := h ▸ call_isi
end
section
variable {X : Cx} {K : PySem.W.Frag}
theorem op_neDK (h : X.K = K) (hu : X.A.units + 64 < cLine) : OpR X (compareOp .NotEq) (rNeD K) := h ▸ op_neD hu
theorem op_eqDK (h : X.K = K) (hu : X.A.units + 64 < cLine) : OpR X (compareOp .Eq) (rEqD K) := h ▸ op_eqD hu
end
section
variable {X : Cx} {K : PySem.W.Frag}
theorem op_inDK (h : X.K = K) (hu : X.A.units + 65 < cLine) : OpR X (compareOp .In) (rInD K) := h ▸ op_inD hu
end
section
variable {X : Cx} {K : PySem.W.Frag}
theorem pi_listK {tg l : Expr} {tl : TE} (h : X.K = K) (hl : PE X l tl) : PI X tg l (iList K tl) := h ▸ pi_list hl
end
/-! ### + of two lists, the script among them; + of two truths -/
theorem list_add_any (l : Addr) (items : Array Value) (n : Nat) (sl : Array (Option Value)) (b : Addr) (items2 : Array Value) (n2 : Nat) (sl2 : Array (Option Value)) (hc0 : items.size + items2.size ≤ sizeLine) :
    Meets (Builtin.«list.__add__» ⟨[.ref l, .ref b], []⟩) (fun _ R s => s.heap.get? l = some { cls := .type "list", dict := none, data := .seq items n, slots := sl } ∧ s.heap.get? b = some { cls := .type "list", dict := none, data := .seq items2 n2, slots := sl2 } ∧ R (.ok (.ret (Value.ref s.heap.objs.size))) { s with heap := s.heap.push { cls := Value.type "list", data := Data.seq (items ++ items2) } }) :=
  .of_wp fun prog w A R s h => by
    obtain ⟨hp, g, d, tk, os⟩ := s
    obtain ⟨hl, hb, h⟩ := h
    have f3 := AutoSeq1.sub_list_list
    wp_walk using AutoSeq1.wpAny_loadPart' hl, AutoSeq1.wpAny_loadPart' hb
    exact ⟨_, rfl, h⟩
def rCatF (K : PySem.W.Frag) : R2 := fun x y H Q => ∃ l b xs zs, x = .ref l ∧ y = .ref b ∧ SqL K H l xs ∧ SqL K H b zs ∧ xs.length + zs.length ≤ sizeLine ∧ ∀ p, H p = none → Q (.ref p) (upd H p (.lst (xs ++ zs)))
theorem op_catF {X : Cx} : OpR X (binaryOp .Add) (rCatF X.K) := by
  intro pins s σ H x y v u Q I rx ry h
  obtain ⟨l, b, xs, zs, rfl, rfl, hH, hB, hz, q⟩ := h
  cases rx
  cases ry
  obtain ⟨its, r, ⟨o, n, e, hc, hd, hs⟩, _⟩ := I.list hH
  obtain ⟨its2, r2, ⟨o2, n2, e2, hc2, hd2, hs2⟩, _⟩ := I.list hB
  obtain ⟨oc, od, odt, osl⟩ := o
  obtain ⟨oc2, od2, odt2, osl2⟩ := o2
  simp only at hc hd hs hc2 hd2 hs2
  subst hc hd hs hc2 hd2 hs2
  have l1 := r.length
  have l2 := r2.length
  refine PySem.concat_meets ⟨_, e, rfl⟩ ⟨_, e2, rfl⟩ PySem.noFill_list_add PySem.seq_list_add PySem.F.slot_list_add PySem.F.entry_list_add (PySem.F.args_list_add_2 _ _) (list_add_any l its.toArray n osl b its2.toArray n2 osl2 (by rw [List.size_toArray, List.size_toArray]; omega)) ⟨e, e2, ?_⟩
  have ea : its.toArray ++ its2.toArray = (its ++ its2).toArray := by simp
  rw [ea]
  exact ⟨.ref _, _, I.lnew (t' := s.toks) (r.append r2) (by rw [List.length_append]; omega), rfl, q _ I.fresh⟩
theorem give_bb (a b : Bool) : Gives (Builtin.«int.__add__» ⟨[.bool a, .bool b], []⟩) (.int ((if a = true then (1 : Int) else 0) + (if b = true then (1 : Int) else 0))) := .of_wp fun M A E s Q h => by
  obtain ⟨hp, g, d, tk, os⟩ := s
  wp_walk
  exact ⟨_, rfl, h⟩
theorem op_add_bb {X : Cx} : OpR X (binaryOp .Add) (fun x y H Q => ∃ i k, x = .bl i ∧ y = .bl k ∧ Q (.int ((if i = true then (1 : Int) else 0) + (if k = true then (1 : Int) else 0))) H) := by
  intro pins s σ H x y v u Q I rx ry h
  obtain ⟨i, k, rfl, rfl, q⟩ := h
  cases rx
  cases ry
  exact binaryOp_gives (op := .Add) (T := "bool") rfl rfl PySem.F.fills_bool_add PySem.F.slot_bool_add PySem.F.entry_int_add (PySem.F.args_int_add_2 _ _) (give_bb i k) trivial ⟨.int _, H, I.tok _, ⟨_, rfl⟩, q⟩
/-! ### a, *b = a tuple -/
theorem Walks.later {prog : Program} {w : World} {A : Around} {I : Addr} {fp wr : List Addr} {n : Nat} {P : Nat → Value → Prop} {St : Nat → Heap → Prop} (W : Walks prog w A I fp wr (n + 1) P St) :
    Walks prog w A I fp wr n (fun i => P (i + 1)) (fun i => St (i + 1)) where
  sub := W.sub
  frame i := W.frame (i + 1)
  item i s Q E hi st hQ := W.item (i + 1) s Q E (by omega) st hQ
  done s Q E st hQ := W.done s Q E st hQ
  self i := W.self (i + 1)
theorem unpack_star {prog : Program} {w : World} {A : Around} {E : Value → Shared → Prop} {s : Shared} {t : Addr} {x : Value} {xs : List Value} {Q : List Value → Shared → Prop} (hh : A.handled = none) (ht : IsTup s.heap t (x :: xs).toArray) (hz : xs.length ≤ sizeLine)
    (hQ : ∀ (h' : Heap) (tk : Nat), (∀ b o, s.heap.get? b = some o → h'.get? b = some o) → Q [x, .ref h'.objs.size] { s with heap := h'.push { cls := .type "list", data := .seq xs.toArray }, toks := tk }) :
    wpAny (model prog w) A (unpackItems (.ref t) 2 (some 1)) Q E s := by
  have hlt : t ≠ s.heap.objs.size := by
    obtain ⟨o, ho, _⟩ := ht
    exact Nat.ne_of_lt (Heap.lt_size ho)
  unfold unpackItems
  refine wpAny_bind ?_
  unfold notIterableAtAll
  refine wpAny_bind (wpAny_specialOf ht.typeIs slot_tuple_iter.lookup (wpAny_pure ?_))
  simp only [Bool.false_eq_true, if_false]
  refine wpAny_bind (wpAny_holding (iter_tuple ht (wpAny_bind (wpAny_holding (draw_tuple hlt 1 0 _ _ ⟨_, Heap.get?_push_size _ rfl, rfl, rfl⟩ (ht.push _) (by simp) fun h1 it1 same1 => ?_)))))
  have ht1 : IsTup h1 t (x :: xs).toArray := (ht.push _).extBut same1.extBut hlt
  have e1 : List.take 1 (List.drop 0 (x :: xs).toArray.toList) = [x] := rfl
  rw [e1, if_neg (by simp)]
  refine wpAny_bind (wpAny_holding ?_)
  have W := (Walks.later (Walks.tuple (prog := prog) (w := w) (A := A.in1) hh s.heap.objs.size t hlt (x :: xs).toArray)).toS
  have hbig : s.heap.objs.size < h1.objs.size := by
    obtain ⟨o, ho, _⟩ := it1
    exact Heap.lt_size ho
  refine wpAny_collect_iter (T := "tuple_iterator") (.inr (.inr (.inr rfl))) W (fun i s' st => st.1.typeIs) ⟨it1, ht1⟩ (fun b hb => ?_) (by simp) (fun s' acc mv items => ?_) hz
  · simp only [List.mem_cons, List.not_mem_nil, or_false] at hb
    obtain ⟨o, ho, _⟩ := id ht1
    rcases hb with rfl | rfl
    · exact hbig
    · exact Heap.lt_size ho
  · have el : acc.toList = xs := by
      refine List.ext_getElem (by simpa using items.1) fun j h2 h3 => ?_
      have := items.2 j acc.toList[j] (by simp)
      simpa [List.getElem?_eq_getElem h3] using this.symm
    rw [el, if_neg (by omega)]
    refine wpAny_bind (wpAny_newList ?_ )
    have em : List.take (xs.length - (2 - 1 - 1)) xs = xs := List.take_of_length_le (by omega)
    have ed : List.drop (xs.length - (2 - 1 - 1)) xs = [] := List.drop_of_length_le (by omega)
    rw [em, ed, Moved.eq_with mv]
    refine wpAny_pure (hQ s'.heap s'.toks fun b o e => ?_)
    have nb : b ≠ s.heap.objs.size := Nat.ne_of_lt (Heap.lt_size e)
    exact mv.heap b o (by simpa using nb) (same1.extBut b o nb (Heap.get?_push_of_some _ e))
def gStar (K : PySem.W.Frag) (g0 g1 : TG) : TG := fun v σ H Q => ∃ a x xs, v = .ref a ∧ SqT K H a (x :: xs) ∧ ∀ l, H l = none → g0 x σ (upd H l (.lst xs)) fun σ1 H1 => g1 (.ref l) σ1 H1 Q
theorem pg_star {X : Cx} {e0 e1 : Expr} {p pos : Pos} {k : Nat} {g0 g1 : TG} (hc : X.calm = true) (h0 : PG X e0 g0) (h1 : PG X e1 g1) (he : assignEach [e0, .Starred e1 p] X.env = [(false, assign e0 X.env), (true, assign e1 X.env)] := by rfl) :
    PG X (.Tuple [e0, .Starred e1 p] k pos) (gStar X.K g0 g1) := by
  constructor
  rintro pins s σ H v u Q I r ⟨a, x, xs, rfl, hq, hw⟩
  cases r
  obtain ⟨its, rv, ht, hz⟩ := I.tuple hq
  cases rv with
  | @cons _ y _ ys ry rys =>
    rw [assign_Tuple]
    refine wpAny_bind (wpAny_standAt ?_)
    unfold unpack
    rw [he]
    refine wpAny_bind (wpAny_holding (unpack_star (I.ok.hd hc) ht (by rw [← rys.length]; simp only [List.length] at hz; omega) fun h' tk kp => ?_))
    have I1 : Inv X pins σ H { s with heap := h', toks := tk } := I.kept kp
    have I2 := I1.lnew (t' := tk) rys (by simp only [List.length] at hz; omega)
    refine assignInOrder_cons (thn (h0.run pins _ σ _ _ _ _ I2 ry (hw _ I1.fresh)) fun _ s1 z => ?_)
    obtain ⟨σ1, H1, I3, q1⟩ := z
    refine assignInOrder_cons (thn (h1.run pins s1 σ1 H1 (.ref h'.objs.size) _ Q I3 rfl q1) fun _ s2 z => ?_)
    exact assignInOrder_nil z
/-! ### a class made of the things of a list -/
def tMakeS (K : PySem.W.Frag) (C : Addr) (sp : Sp) (E : XK) (te : TE) : TE := fun u G Q => te u G fun y G1 => ∃ a xs, y = .ref a ∧ (SqT K G1 a xs ∨ SqL K G1 a xs) ∧
  ∀ o d, G1 o = none → G1 d = none → d ≠ o → sp (.ref o :: xs) (upd (upd G1 d (.own o)) o (.ins C d [])) (fun v G2 => v = .non ∧ Q (.ref o) G2) E
theorem pe_makeS {X : Cx} {CT : CXT} {k : Nat} {f C : Addr} {fd : FuncData} {ps : List Str} {sp : Sp} {E : XK} {x : Str} {p q pos : Pos} {e : Expr} {te : TE} (M : Mk X.K C f) (F : FnOk X.prog X.w X.K X.mg X.base CT k f fd ps sp) (hr : Room (k + 1) X.A) (hg : Gl X x) (hm : X.mg x = some (.ref C)) (hb : Binds X.K fd ps []) (hx : Passes CT X E) (he : PE X e te)
    (nd : (x == ("__debug__" : Str)) = false := by decide) (hs : starEach [.Starred e q] X.env = [(true, eval e X.env)] := by rfl) : PE X (.Call (.Name x p) [.Starred e q] [] pos) (tMakeS X.K C sp E te) := by
  constructor
  intro pins s u G Q I h
  refine wpAny_Call_Name_kw (ld_glob I hg hm (PySem.W.callWith_S (h₀ := X.base) I.ok.mod.kin M.kp (thn (he.run pins s u G _ I h) ?_) hs) nd)
  rintro v s1 ⟨y, G1, I1, ry, a, xs, rfl, hxs, q⟩
  cases ry
  refine StX.star_any I1 hxs fun us s2 I2 rv => ⟨I2.kIn, ?_⟩
  refine run_make (dvs := []) M F hr hb .nil hx I2 rv fun o d h1 h2 h3 => ?_
  rw [List.append_nil]
  exact q o d h1 h2 h3
/-! ### a method of an object whose class is one of several -/
theorem pe_either {X : Cx} {e : Expr} {t u : TE} (h : PE X e t) (k : PE X e u) : PE X e (fun σ H Q => t σ H Q ∨ u σ H Q) := ⟨fun pins s σ H Q I q => q.elim (h.run pins s σ H Q I) (k.run pins s σ H Q I)⟩
/-! ### several clauses of one try, each with a name for the error or without -/
abbrev Suite := Addr → Value → Option Addr → TS
/-- what follows a suite whose error had the slot i -/
def offAt (i : Nat) (D : Ends) : Ends := { nx := fun u G => D.nx (u.set i none) G, rt := D.rt, bk := fun u G => D.bk (u.set i none) G, ct := fun u G => D.ct (u.set i none) G }
def wMix (K : PySem.W.Frag) (Wo : WX) (D : Ends) : List (Value × Option Nat × Suite) → WX
  | [] => Wo
  | (c, none, t) :: r => fun k d u G => ∃ y, PySem.W.exmOne K k c = some y ∧ (y = true → ∀ e, G e = none → t e k d D u G) ∧ (y = false → wMix K Wo D r k d u G)
  | (c, some i, t) :: r => fun k d u G => ∃ y, PySem.W.exmOne K k c = some y ∧ (y = true → ∀ e, G e = none → t e k d (offAt i D) (u.set i (some (.ref e))) G) ∧ (y = false → wMix K Wo D r k d u G)
inductive Clauses (X : Cx) : List ExceptHandler → List (Value × Option Nat × Suite) → Prop
  | nil : Clauses X [] []
  | bare {x : Str} {c : Value} {t : Suite} {b : Stmt} {bs : List Stmt} {p1 p2 : Pos} {hds l} (hc : Names X x c)
      (su : ∀ e oe k d pn, Zc k d oe → (∃ vs, oe.data = .fields vs) → PSs (X.suite e ((e, oe) :: pn)) (b :: bs) (t e k d)) (r : Clauses X hds l) :
      Clauses X (.ExceptHandler (some (.Name x p1)) none (b :: bs) p2 :: hds) ((c, none, t) :: l)
  | named {x n : Str} {c : Value} {i : Nat} {t : Suite} {b : Stmt} {bs : List Stmt} {p1 p2 : Pos} {hds l} (hN : X.N.Nodup) (hi : X.N[i]? = some n) (hl : X.env.kindOf n = some .local) (hc : Names X x c)
      (su : ∀ e oe k d pn, Zc k d oe → (∃ vs, oe.data = .fields vs) → PSs (X.suite e ((e, oe) :: pn)) (b :: bs) (t e k d)) (r : Clauses X hds l) :
      Clauses X (.ExceptHandler (some (.Name x p1)) (some n) (b :: bs) p2 :: hds) ((c, some i, t) :: l)
theorem ps_try_mix {X : Cx} {body : List Stmt} {h1 : ExceptHandler} {hds : List ExceptHandler} {l : List (Value × Option Nat × Suite)} {pos : Pos} {tb : WX → TS} {Wo : WX} (hs : X.stack = X.env :: X.outer) (hf : X.env.frame = some X.env.locals) (tk : Takes X Wo)
    (hb : ∀ W pn xe, Takes (X.tr pn xe) W → PassesOwn (model X.prog X.w) X.A X.env xe → PSs (X.tr pn xe) body (tb W)) (hh : Clauses X (h1 :: hds) l) :
    PS X (.Try body (h1 :: hds) [] [] pos) (fun D u G => tb (wMix X.K Wo D l) D u G) := by
  constructor
  intro pins s u G D I h
  have ok := I.ok
  have frm : X.A.frames = some (X.env :: X.outer) := by rw [ok.frames, hs]
  refine wpAny_Try_except (wpAny_mono ((hb (wMix X.K Wo D l) (X.pn ++ pins) (fun e s₁ => wpAny (model X.prog X.w) X.A (noteFrame e X.env) (fun _ s₂ => wpAny (model X.prog X.w) X.A (setFlight e none) (fun _ s₃ => wpAny (model X.prog X.w) X.A (handleBy e X.env (h1 :: hds)) (SP X pins D) X.xe s₃) X.xe s₂) X.xe s₁) (fun v s' xx => ?_) PassesOwn.looking).run [] s u G D (I.toTry _) h) (fun f s1 z => ?_) (fun _ _ z => z))
  · obtain ⟨e, B, sI, _, u', G', k, d, rfl, J0, nb, up, sky, na, os, ag, wish⟩ := xx
    have J : Inv X pins u' G' sI := J0.ofTry ok
    refine Sky.land Zc.steady frm hf (by rw [← hs]; exact sky) fun h3 fl up3 => ?_
    have up13 := up.trans up3
    obtain ⟨o3, _, g3, z3, d3⟩ := fl.there
    have far : e ∉ frs (X.env :: X.outer) := by
      intro m
      obtain ⟨_, o', g', no⟩ := fl.2.2.1.mem m
      cases g3.symm.trans g'
      exact no _ d3
    have nl : e ≠ X.env.locals := by
      intro z
      exact far (List.mem_filterMap.mpr ⟨X.env, List.mem_cons_self, by rw [hf, z]⟩)
    have nf : e ∉ X.fs := by
      intro m
      obtain ⟨v, hv, q⟩ := List.mem_filterMap.mp m
      exact far (List.mem_filterMap.mpr ⟨v, List.mem_cons_of_mem _ hv, q⟩)
    have J3 : Inv X pins u' G' { s' with heap := h3 } := J.landed nb fl.1 up13 os ag
    have S3 := J3.suite g3 d3 na nl nf
    have TY : PySem.W.Looks (model X.prog X.w) h3 (typeOf (.ref e)) k := fun _ _ _ _ kk q => wpAny_typeOf_ref (kk _ _ g3) (z3.1 ▸ q)
    have name : ∀ {x : Str} {c : Value} {p1 : Pos}, Names X x c → ∀ {Q : Value → Shared → Prop} {E : Value → Shared → Prop}, Q c { s' with heap := h3 } → wpAny (model X.prog X.w) (X.A.mark (some (.ref e))) (eval (.Name x p1) X.env) Q E { s' with heap := h3 } := by
      rintro x c p1 ⟨g, nd, m | ⟨m, bv, nn⟩⟩ Q E q
      · exact ld_glob (X := X.suite e ((e, o3) :: (X.pn ++ pins))) S3 g m q nd
      · exact ld_blt (X := X.suite e ((e, o3) :: (X.pn ++ pins))) S3 g m bv q nn nd
    suffices go : ∀ {hd : List ExceptHandler} {l' : List (Value × Option Nat × Suite)}, Clauses X hd l' → wMix X.K Wo D l' k d u' G' → wpAny (model X.prog X.w) X.A (handleBy (.ref e) X.env hd) (SP X pins D) X.xe { s' with heap := h3 } from go hh wish
    intro hd l' cl
    induction cl with
    | nil =>
      intro wi
      refine wpAny_handleBy_nil ?_
      obtain ⟨_, _, _, oe, vs, T, oT, tt, he, hz, hdd, hT, hr⟩ := id fl
      unfold PySem.passOn
      refine wpAny_bind (wpAny_field he hdd hT ?_)
      rw [if_neg (by simp : ¬ ((Value.ref T == Value.none) = true))]
      have last : wpAny (model X.prog X.w) X.A (setFlight (.ref e) X.env.frame) (fun _ s4 => wpAny (model X.prog X.w) X.A (throw (.ref e) : Sem Flow) (SP X pins D) X.xe s4) X.xe { s' with heap := h3 } := by
        rw [hf]
        refine HandSPX.setFlight_upZ fl fun h4 hh4 up4 => wpAny_throw (tk _ _ ⟨e, B, sI, pins, u', G', k, d, rfl, J, nb, up13.trans up4, .inr (.inr ?_), na, os, ag, wi⟩)
        rw [hs]; exact hh4
      first | exact wpAny_bind (wpAny_pure (wpAny_bind last)) | exact wpAny_bind last
    | bare hc su r ih =>
      rintro ⟨y, ey, yes, no⟩
      refine wpAny_handleBy_cons (codeAny_handlers_test (name hc ((PySem.W.exm_one (M := model X.prog X.w) J3.kIn TY ey).here ?_))) (fun q => by cases q)
      cases y with
      | false => exact ih (no rfl)
      | true =>
        refine codeAny_handlers_suite (HandSPX.lands_againZ fl fun h4 fl4 up4 => ?_)
        obtain ⟨o4, _, g4, z4, d4⟩ := fl4.there
        have S4 := (J.landed (s' := { s' with heap := h4 }) nb fl4.1 (up13.trans up4) os ag).suite g4 d4 na nl nf
        refine wpAny_mono ((su e o4 k d (X.pn ++ pins) z4 ⟨_, d4⟩).run [] _ _ G' _ S4 (yes rfl e na)) (fun f s6 z => ?_) (fun _ _ z => z.elim)
        cases f with
        | ret v => obtain ⟨v6, u6, G6, S6, r6, q6⟩ := z; exact ⟨v6, u6, G6, S6.unsuite ok, r6, q6⟩
        | _ => obtain ⟨u6, G6, S6, q6⟩ := z; exact ⟨u6, G6, S6.unsuite ok, q6⟩
    | @named _ n c i _ _ _ _ p2 _ _ hN hi hl hc su r ih =>
      rintro ⟨y, ey, yes, no⟩
      refine wpAny_handleBy_cons (codeAny_handlers_test (name hc ((PySem.W.exm_one (M := model X.prog X.w) J3.kIn TY ey).here ?_))) (fun q => by cases q)
      cases y with
      | false => exact ih (no rfl)
      | true =>
        refine codeAny_handlers_suite_as (HandSPX.lands_againZ fl fun h4 fl4 up4 => ?_)
        obtain ⟨o4, _, g4, z4, d4⟩ := fl4.there
        have S4 := (J.landed (s' := { s' with heap := h4 }) nb fl4.1 (up13.trans up4) os ag).suite g4 d4 na nl nf
        refine store_ok (X := X.suite e ((e, o4) :: (X.pn ++ pins))) (v := .ref e) S4 hN hi (.inl hl) rfl (fun s5 S5 => wpAny_mono ((su e o4 k d (X.pn ++ pins) z4 ⟨_, d4⟩).run [] s5 _ G' _ S5 (yes rfl e na)) (fun f s6 z => ?_) (fun _ _ z => z.elim)) (.inr hl)
        have off : ∀ {u6 : L2.St} {G6 : Hp} {Q : Shared → Prop}, Inv (X.suite e ((e, o4) :: (X.pn ++ pins))) [] u6 G6 s6 → (∀ s7, Inv X pins (u6.set i none) G6 s7 → Q s7) → wpAny (model X.prog X.w) X.A (do bindName X.env n .none; unbindBehindTheSuite X.env n p2) (fun _ s7 => Q s7) X.xe s6 := fun S6 hq => gone_ok (S6.unsuite ok) hN hi hl hq
        cases f with
        | ret v => obtain ⟨v6, u6, G6, S6, r6, q6⟩ := z; exact off S6 fun s7 J7 => ⟨v6, _, G6, J7, r6, q6⟩
        | _ => obtain ⟨u6, G6, S6, q6⟩ := z; exact off S6 fun s7 J7 => ⟨_, G6, J7, q6⟩
  · cases f with
    | next => obtain ⟨u6, G6, J6, q6⟩ := z; exact wpAny_execs_nil ⟨u6, G6, J6.ofTry ok, q6⟩
    | ret v => obtain ⟨v6, u6, G6, J6, r6, q6⟩ := z; exact ⟨v6, u6, G6, J6.ofTry ok, r6, q6⟩
    | _ => obtain ⟨u6, G6, J6, q6⟩ := z; exact ⟨u6, G6, J6.ofTry ok, q6⟩
/-! ### isinstance of a caught error, of one class of several -/
def rIsEs (K : PySem.W.Frag) (k : Value) (d : Option Addr) (e : Addr) : List V → Hp → VK → Prop := fun xs H Q =>
  ∃ (D tp : Addr) (cs : List V) (us : List Value) (b : Bool), k = .ref D ∧ d = none ∧ ExcC K D ∧ xs = [.ref e, .ref tp] ∧ H tp = some (.tup cs) ∧ Paired ClsV cs us ∧ PySem.W.kitAny K (.ref D) us = some b ∧ Q (.bl b) H
theorem call_isEs {X : Cx} {K : PySem.W.Frag} {e : Addr} {oe : Obj} {k : Value} {d : Option Addr} {pn : List (Addr × Obj)} (hK : X.K = K) (hz : Zc k d oe) (hf : ∃ vs, oe.data = .fields vs) : CallR (X.suite e ((e, oe) :: pn)) (.builtin "isinstance") (rIsEs K k d e) := by
  subst hK
  intro pins s σ H xs us Q I r h
  obtain ⟨D, tp, cs, ws, b, rfl, rfl, C, rfl, hT, pr, ka, q⟩ := h
  obtain ⟨u1, u2, rfl, r1, r2⟩ := vals2 r
  cases r1
  cases (show u2 = Value.ref tp from r2)
  obtain ⟨_, its, rv, o, o1, o2, n, o3⟩ := (show ObjOk _ _ H s.heap tp (.tup cs) from I.hok tp _ hT)
  have eq := ClsV.all pr rv
  subst eq
  obtain ⟨oc, od, dt, sl⟩ := o
  simp only at o2 o3
  subst o2 o3
  obtain ⟨vs, hv⟩ := hf
  have there := (I.pin (e, oe) (List.mem_append.mpr (.inl List.mem_cons_self))).1
  have J : PySem.W.InstAt s.heap e oe D none := by
    obtain ⟨_, _, _, _⟩ := oe
    obtain ⟨z1, z2⟩ := hz
    dsimp only at z1 z2 hv
    subst z1 z2 hv
    exact ⟨there, rfl, rfl, trivial⟩
  exact PySem.W.kia_tup (PySem.W.handS_kitx_exc C.hg C.hk C.hs C.hd C.ha C.hn C.ht C.hm) I.kIn J o1 ka (fun z => nomatch z) fun tk => ⟨.bl b, H, I.kept (t' := tk) fun _ _ z => z, rfl, q⟩
/-! ### isinstance of a caught error, whatever its class -/
theorem call_isE2 {X : Cx} {K : PySem.W.Frag} {a : Addr} {oe : Obj} {cls : Value} {d : Option Addr} {pn : List (Addr × Obj)} (hK : X.K = K) (hz : Zc cls d oe) (hf : ∃ vs, oe.data = .fields vs) :
    CallR (X.suite a ((a, oe) :: pn)) (.builtin "isinstance") (fun xs H Q => ∃ D, cls = .ref D ∧ d = none ∧ ExcC K D ∧ rIsE K D a xs H Q) := by
  subst hK
  intro pins s σ H xs us Q I r h
  obtain ⟨D, rfl, rfl, C, h⟩ := h
  exact call_isE C hz hf pins s σ H xs us Q I r h
/-! ### a call of what a slot holds, inside a try -/
def tCallLS (W : WX) (i : Nat) (f : Addr) (sp : Sp) (t : TA) : TE := fun u G Q => u[i]? = some (some (.ref f)) ∧ t u G fun vs G1 => sp vs G1 Q (WE W u)
theorem pe_callLS {X : Cx} {C : CXT} {k i : Nat} {f : Addr} {fd : FuncData} {ps : List Str} {sp : Sp} {W : WX} {x : Str} {p pos : Pos} {e : Expr} {es : List Expr} {t : TA} (F : FnOk X.prog X.w X.K X.mg X.base C k f fd ps sp) (hr : Room k X.A) (hN : X.N[i]? = some x) (hv : Vis X.env.scope x)
    (hk : PySem.W.keepIn X.K (.ref f) = true) (hb : Binds X.K fd ps []) (hx : ∀ u, PassesAt C X u (WE W u)) (ha : PA X (e :: es) t) (n1 : (x == ("__debug__" : Str)) = false := by decide) (n2 : (x == ("__classdict__" : Str)) = false := by decide)
    (he : starEach (e :: es) X.env = (false, eval e X.env) :: starEach es X.env := by rfl) (hp : (backTo pos (starEach es X.env)).any (·.1) = false := by rfl) : PE X (.Call (.Name x p) (e :: es) [] pos) (tCallLS W i f sp t) := by
  constructor
  rintro pins s u G Q I ⟨hs, ht⟩
  refine wpAny_Call_Name_kw (thn ((pe_var (pos := p) hN hv n1 n2).run pins s u G (fun v G1 => v = .ref f ∧ G1 = G) I ⟨.ref f, hs, rfl, rfl⟩) ?_)
  rintro v s1 ⟨_, _, I1, r1, rfl, rfl⟩
  cases r1
  refine PySem.W.callWith_K (h₀ := X.base) I.ok.mod.kin hk (thn (ha.run pos pins s1 u _ _ I1 ht) fun us s2 z => ?_) he hp
  obtain ⟨vs, G2, I2, r, q⟩ := z
  exact ⟨I2.kIn, run_fnS (E := WE W) F hr hb (hx u) I2 r q⟩
/-! ### a list is made longer by a tuple -/
def rExtT (K : PySem.W.Frag) : V → List V → Hp → VK → Prop := fun x vs G Q => ∃ l b xs zs, x = .ref l ∧ vs = [.ref b] ∧ G l = some (.lst xs) ∧ SqT K G b zs ∧ xs.length + zs.length ≤ sizeLine ∧ Q .non (upd G l (.lst (xs ++ zs)))
theorem ext_tup {l b : Addr} {xs ys : Array Value} {n m : Nat} {dd : Option Addr} {sl : Array (Option Value)} (h0 : ¬(!xs.isEmpty && Builtin.List.listTooLong (xs.size + ys.size)) = true) (h1 : xs.size ≤ sizeLine) (h2 : xs.size + ys.size ≤ sizeLine + 1) :
    Meets (Builtin.«list.extend» ⟨[.ref l, .ref b], []⟩) (fun _ R sh => sh.heap.get? l = some { cls := .type "list", data := .seq xs n } ∧ sh.heap.get? b = some ⟨.type "tuple", dd, .seq ys m, sl⟩ ∧ R (.ok (.ret Value.none)) { sh with heap := sh.heap.update l (Obj.mapSeq (· ++ ys)), toks := sh.toks }) := by
  refine .of_wp fun prog w A R sh q => ?_
  obtain ⟨hp, g, d, tk, os⟩ := sh
  obtain ⟨ql, qb, qr⟩ := q
  have e1 := PySem.AutoSeq1.idx_int
  have e2 := PySem.AutoSeq1.sub_tuple_tuple
  have e3 := PySem.AutoSeq1.sub_list_list
  have e4 := PySem.AutoSeq1.sub_tuple_list
  have e5 := PySem.AutoSeq1.sub_list_tuple
  have hz : (xs ++ ys).size ≤ sizeLine + 1 := Nat.le_trans (Nat.le_of_eq Array.size_append) h2
  wp_walk using (wpAny_updateSeq ql rfl (hz := h1) (_hz' := hz)), wpAny_loadPart' ql, wpAny_loadPart' qb
  exact ⟨_, rfl, qr⟩
theorem mt_extT {X : Cx} : MtM X "list.extend" (rExtT X.K) := by
  rintro pins s u G x vs v us Q J rx rv ⟨l, b, xs, zs, rfl, rfl, hl0, hb0, hz, q⟩
  cases rx
  obtain ⟨w, rfl, ru⟩ := rv.one
  cases ru
  obtain ⟨_, ia, na, ra, la, ea⟩ := J.lstM hl0
  obtain ⟨ib, rb, tb, lb⟩ := J.tuple hb0
  obtain ⟨⟨oc, od, dt, sl⟩, eb, cb, nb, db⟩ := tb
  simp only at cb db
  subst cb db
  have small : ia.toArray.size + ib.toArray.size ≤ sizeLine := by
    rw [List.size_toArray, List.size_toArray]
    have := rb.length
    omega
  have open_ : ¬ (!ia.toArray.isEmpty && Builtin.List.listTooLong (ia.toArray.size + ib.toArray.size)) = true := by
    rw [notLongL small, Bool.and_false]
    decide
  refine call_meets F.slot_list_extend ⟨_, ea, rfl⟩ F.entry_list_extend (F.args_list_extend_2 _ _) (ext_tup open_ (by rw [List.size_toArray]; omega) (by omega)) ⟨ea, eb, ?_⟩
  refine ⟨.non, _, J.lset (its' := ia ++ ib) hl0 ea (by simp) (ra.append rb) ?_, rfl, q⟩
  rw [List.length_append]
  exact hz
theorem room65 {k : Nat} {A : Around} (r : Room k A) : A.units + 65 < cLine := by have := r.un; omega
/-! ## the data layer: what stands in frozen parts of the heap as plain data, what is still written to as cells -/
inductive D where
  | non
  | bl (b : Bool)
  | int (i : Int)
  | str (x : Str)
  | tup (xs : List D)
  | lst (xs : List D)
  | scr (xs : List D)
  | obj (C : Addr) (ns : List Str) (ds : List D)
  | dic
  | ty (n : String)
  | cls (C : Addr)
mutual
/-- in the frozen heap G the value v is the data d -/
inductive Rep (K : PySem.W.Frag) (G : Hp) : D → V → Prop
  | non : Rep K G .non .non
  | bl (b : Bool) : Rep K G (.bl b) (.bl b)
  | int (i : Int) : Rep K G (.int i) (.int i)
  | str (x : Str) : Rep K G (.str x) (.str x)
  | tup {a : Addr} {vs : List V} {ds : List D} : SqT K G a vs → Reps K G ds vs → Rep K G (.tup ds) (.ref a)
  | lst {a : Addr} {vs : List V} {ds : List D} : G a = some (.lst vs) → Reps K G ds vs → Rep K G (.lst ds) (.ref a)
  | scr {a : Addr} {vs : List V} {ds : List D} : SqL K G a vs → Reps K G ds vs → Rep K G (.scr ds) (.ref a)
  | obj {a C dx : Addr} {ns : List Str} {vs : List V} {ds : List D} : G a = some (.ins C dx (ns.zip vs)) → ns.length = ds.length → Reps K G ds vs → Rep K G (.obj C ns ds) (.ref a)
  | dic {a : Addr} {kvs : List (Key × V)} : G a = some (.dK kvs) → Rep K G .dic (.ref a)
  | ty (n : String) : Rep K G (.ty n) (.ty n)
  | cls (C : Addr) : Rep K G (.cls C) (.ref C)
inductive Reps (K : PySem.W.Frag) (G : Hp) : List D → List V → Prop
  | nil : Reps K G [] []
  | cons {d : D} {ds : List D} {v : V} {vs : List V} : Rep K G d v → Reps K G ds vs → Reps K G (d :: ds) (v :: vs)
end
section
variable {K : PySem.W.Frag} {G G' H : Hp} {v : V} {vs : List V} {d : D} {ds : List D}
theorem Rep.nonE (h : Rep K G .non v) : v = .non := by cases h; rfl
theorem Rep.blE {b : Bool} (h : Rep K G (.bl b) v) : v = .bl b := by cases h; rfl
theorem Rep.intE {i : Int} (h : Rep K G (.int i) v) : v = .int i := by cases h; rfl
theorem Rep.strE {x : Str} (h : Rep K G (.str x) v) : v = .str x := by cases h; rfl
theorem Rep.tupE (h : Rep K G (.tup ds) v) : ∃ a vs, v = .ref a ∧ SqT K G a vs ∧ Reps K G ds vs := by cases h with | tup a b => exact ⟨_, _, rfl, a, b⟩
theorem Rep.lstE (h : Rep K G (.lst ds) v) : ∃ a vs, v = .ref a ∧ G a = some (.lst vs) ∧ Reps K G ds vs := by cases h with | lst a b => exact ⟨_, _, rfl, a, b⟩
theorem Rep.scrE (h : Rep K G (.scr ds) v) : ∃ a vs, v = .ref a ∧ SqL K G a vs ∧ Reps K G ds vs := by cases h with | scr a b => exact ⟨_, _, rfl, a, b⟩
theorem Rep.objE {C : Addr} {ns : List Str} (h : Rep K G (.obj C ns ds) v) : ∃ a dx vs, v = .ref a ∧ G a = some (.ins C dx (ns.zip vs)) ∧ ns.length = ds.length ∧ Reps K G ds vs := by cases h with | obj a b c => exact ⟨_, _, _, rfl, a, b, c⟩
theorem Rep.dicE (h : Rep K G .dic v) : ∃ a kvs, v = .ref a ∧ G a = some (.dK kvs) := by cases h with | dic a => exact ⟨_, _, rfl, a⟩
theorem Reps.nilE (h : Reps K G [] vs) : vs = [] := by cases h; rfl
theorem Reps.consE (h : Reps K G (d :: ds) vs) : ∃ v ws, vs = v :: ws ∧ Rep K G d v ∧ Reps K G ds ws := by cases h with | cons a b => exact ⟨_, _, rfl, a, b⟩
theorem Same.seqT {a : Addr} {xs : List V} (e : Same G G') (h : SqT K G a xs) : SqT K G' a xs := by
  rcases h with (h | ⟨o, h⟩) | h
  · exact .inl (.inl (e _ _ h))
  · exact .inl (.inr ⟨o, e _ _ h⟩)
  · exact .inr h
mutual
theorem Rep.mono (s : Same G G') : ∀ (d : D) (v : V), Rep K G d v → Rep K G' d v
  | .non, _, h => by cases h; exact .non
  | .bl _, _, h => by cases h; exact .bl _
  | .int _, _, h => by cases h; exact .int _
  | .str _, _, h => by cases h; exact .str _
  | .tup ds, _, h => by cases h with | tup a b => exact .tup (Same.seqT s a) (Reps.mono s ds _ b)
  | .lst ds, _, h => by cases h with | lst a b => exact .lst (s _ _ a) (Reps.mono s ds _ b)
  | .scr ds, _, h => by cases h with | scr a b => exact .scr (Same.seq s a) (Reps.mono s ds _ b)
  | .obj C ns ds, _, h => by cases h with | obj a b c => exact .obj (s _ _ a) b (Reps.mono s ds _ c)
  | .dic, _, h => by cases h with | dic a => exact .dic (s _ _ a)
  | .ty _, _, h => by cases h; exact .ty _
  | .cls _, _, h => by cases h; exact .cls _
theorem Reps.mono (s : Same G G') : ∀ (ds : List D) (vs : List V), Reps K G ds vs → Reps K G' ds vs
  | [], _, h => by cases h; exact .nil
  | d :: ds, _, h => by cases h with | cons a b => exact .cons (Rep.mono s d _ a) (Reps.mono s ds _ b)
end
theorem Reps.length : ∀ {ds : List D} {vs : List V}, Reps K G ds vs → vs.length = ds.length
  | [], _, h => by cases h; rfl
  | _ :: _, _, h => by cases h with | cons _ b => exact congrArg (· + 1) (Reps.length b)
theorem Reps.get : ∀ {ds : List D} {vs : List V} {i : Nat} {d : D}, Reps K G ds vs → ds[i]? = some d → ∃ v, vs[i]? = some v ∧ Rep K G d v
  | [], _, _, _, _, e => by simp at e
  | _ :: _, _, 0, _, h, e => by cases h with | cons a _ => simp at e; subst e; exact ⟨_, rfl, a⟩
  | _ :: _, _, i + 1, _, h, e => by
    cases h with
    | cons _ b =>
      obtain ⟨v, q, r⟩ := Reps.get (i := i) b (by simpa using e)
      exact ⟨v, by simpa using q, r⟩
theorem Reps.append : ∀ {ds es : List D} {vs ws : List V}, Reps K G ds vs → Reps K G es ws → Reps K G (ds ++ es) (vs ++ ws)
  | [], _, _, _, h, k => by cases h; exact k
  | _ :: _, _, _, _, h, k => by cases h with | cons a b => exact .cons a (b.append k)
theorem Reps.drop : ∀ {ds : List D} {vs : List V} (n : Nat), Reps K G ds vs → Reps K G (ds.drop n) (vs.drop n)
  | _, _, 0, h => h
  | [], _, _ + 1, h => by cases h; exact .nil
  | _ :: _, _, n + 1, h => by cases h with | cons _ b => exact Reps.drop n b
theorem Reps.take : ∀ {ds : List D} {vs : List V} (n : Nat), Reps K G ds vs → Reps K G (ds.take n) (vs.take n)
  | _, _, 0, _ => .nil
  | [], _, _ + 1, h => by cases h; exact .nil
  | _ :: _, _, n + 1, h => by cases h with | cons a b => exact .cons a (Reps.take n b)
theorem Reps.set {d : D} {v : V} (r : Rep K G d v) : ∀ {ds : List D} {vs : List V} (i : Nat), Reps K G ds vs → Reps K G (ds.set i d) (vs.set i v)
  | [], _, _, h => by cases h; exact .nil
  | _ :: _, _, 0, h => by cases h with | cons _ b => exact .cons r b
  | _ :: _, _, i + 1, h => by cases h with | cons a b => exact .cons a (Reps.set r i b)
theorem Reps.reverse {ds : List D} {vs : List V} (h : Reps K G ds vs) : Reps K G ds.reverse vs.reverse := by
  induction ds generalizing vs with
  | nil => cases h; exact .nil
  | cons d ds ih => cases h with | cons a b => rw [List.reverse_cons, List.reverse_cons]; exact (ih b).append (.cons a .nil)
theorem Reps.rep {ds : List D} {vs : List V} (h : Reps K G ds vs) : ∀ n : Nat, Reps K G (List.replicate n ds).flatten (List.replicate n vs).flatten
  | 0 => .nil
  | n + 1 => by rw [List.replicate_succ, List.replicate_succ, List.flatten_cons, List.flatten_cons]; exact h.append (Reps.rep h n)
theorem Reps.ofV {ns : List Int} : Reps K G (ns.map D.int) (ns.map V.int) := by
  induction ns with
  | nil => exact .nil
  | cons n ns ih => exact .cons (.int n) ih
end
/-! no list and no object within: it can't hold a list that is still written to -/
mutual
def hard : D → Bool
  | .tup ds => hards ds
  | .lst _ => false
  | .scr _ => false
  | .obj _ _ ds => hards ds
  | _ => true
def hards : List D → Bool
  | [] => true
  | d :: ds => hard d && hards ds
end
section
variable {K : PySem.W.Frag} {G G' : Hp}
theorem SqT.hard {a : Addr} {vs : List V} (s : ∀ a o, G a = some o → (G' a = some o) ∨ (∃ xs, o = .lst xs)) (h : SqT K G a vs) : SqT K G' a vs := by
  rcases h with (h | ⟨o, h⟩) | h
  · rcases s _ _ h with z | ⟨xs, z⟩
    · exact .inl (.inl z)
    · cases z
  · rcases s _ _ h with z | ⟨xs, z⟩
    · exact .inl (.inr ⟨o, z⟩)
    · cases z
  · exact .inr h
mutual
theorem Rep.hard (s : ∀ a o, G a = some o → (G' a = some o) ∨ (∃ xs, o = .lst xs)) : ∀ (d : D) (v : V), LK.hard d = true → Rep K G d v → Rep K G' d v
  | .non, _, _, h => by cases h; exact .non
  | .bl _, _, _, h => by cases h; exact .bl _
  | .int _, _, _, h => by cases h; exact .int _
  | .str _, _, _, h => by cases h; exact .str _
  | .tup ds, _, k, h => by cases h with | tup a b => exact .tup (SqT.hard s a) (Reps.hard s ds _ (by rw [LK.hard] at k; exact k) b)
  | .lst ds, _, k, h => by rw [LK.hard] at k; cases k
  | .scr ds, _, k, h => by rw [LK.hard] at k; cases k
  | .obj C ns ds, _, k, h => by
    cases h with
    | obj a b c =>
      rcases s _ _ a with z | ⟨xs, z⟩
      · exact .obj z b (Reps.hard s ds _ (by rw [LK.hard] at k; exact k) c)
      · cases z
  | .dic, _, k, h => by
    cases h with
    | dic a =>
      rcases s _ _ a with z | ⟨xs, z⟩
      · exact .dic z
      · cases z
  | .ty _, _, _, h => by cases h; exact .ty _
  | .cls _, _, _, h => by cases h; exact .cls _
theorem Reps.hard (s : ∀ a o, G a = some o → (G' a = some o) ∨ (∃ xs, o = .lst xs)) : ∀ (ds : List D) (vs : List V), hards ds = true → Reps K G ds vs → Reps K G' ds vs
  | [], _, _, h => by cases h; exact .nil
  | d :: ds, _, k, h => by
    cases h with
    | cons a b =>
      rw [hards, Bool.and_eq_true] at k
      exact .cons (Rep.hard s d _ k.1 a) (Reps.hard s ds _ k.2 b)
end
end
/-- an item of a tuple that holds cells -/
inductive TN where
  | dat (d : D)
  | cel (j : Nat)
  | tup (xs : List TN)
/-- what a slot holds: data, or a cell, or a tuple that holds cells -/
inductive AV where
  | dat (d : D)
  | cel (j : Nat)
  | tup (xs : List TN)
/-- what else may be written to: what is known of it, by the frozen heap -/
structure CellX where
  ok : Hp → Addr → HO → Prop
  mono : ∀ {G G' : Hp} (s : ∀ a o, G a = some o → (G' a = some o) ∨ (∃ xs, o = .lst xs)) {a : Addr} {o : HO}, ok G a o → ok G' a o
/-- a private part of the heap: T what stands in it, a its root; what is known of it, by the frozen heap G -/
structure RegX where
  ok : Hp → Hp → Addr → Prop
  mono : ∀ {T G G' : Hp} {a : Addr} (s : ∀ a o, G a = some o → (G' a = some o) ∨ (∃ xs, o = .lst xs)), ok T G a → ok T G' a
/-- a list of scalars and pointers, of which the address is known -/
def lstX (c : Addr) (ds : List D) : CellX where
  ok _ a o := a = c ∧ ∃ vs, o = .lst vs ∧ ∀ (K : PySem.W.Frag) (G : Hp), Reps K G ds vs
  mono := by intro _ _ _ _ _ h; exact h
/-- an object of such fields, of which the address is known -/
def insX (g C : Addr) (ns : List Str) (ds : List D) : CellX where
  ok _ a o := a = g ∧ ∃ dx vs, o = .ins C dx (ns.zip vs) ∧ ns.length = ds.length ∧ ∀ (K : PySem.W.Frag) (G : Hp), Reps K G ds vs
  mono := by intro _ _ _ _ _ h; exact h
/-- scalars and pointers -/
def atom : D → Bool
  | .non => true | .bl _ => true | .int _ => true | .str _ => true | .ty _ => true | .cls _ => true
  | _ => false
def atoms : List D → Bool
  | [] => true
  | d :: ds => atom d && atoms ds
theorem Rep.atom {K K' : PySem.W.Frag} {G G' : Hp} {d : D} {v : V} (h : LK.atom d = true) (r : Rep K G d v) : Rep K' G' d v := by
  cases d with
  | non => cases r; exact .non
  | bl => cases r; exact .bl _
  | int => cases r; exact .int _
  | str => cases r; exact .str _
  | ty => cases r; exact .ty _
  | cls => cases r; exact .cls _
  | _ => cases h
theorem Reps.atoms {K K' : PySem.W.Frag} {G G' : Hp} : ∀ {ds : List D} {vs : List V}, LK.atoms ds = true → Reps K G ds vs → Reps K' G' ds vs
  | [], _, _, r => by cases r; exact .nil
  | d :: ds, _, h, r => by
    rw [LK.atoms, Bool.and_eq_true] at h
    cases r with
    | cons a b => exact .cons (Rep.atom h.1 a) (Reps.atoms h.2 b)
/-- what is still written to -/
inductive Cell where
  | reg (t : Option Addr) (X : RegX)
  | oth (X : CellX)
  | gone
  | lst (ds : List D)
  | drw
  | ins (C : Addr) (ns : List Str) (ds : List D)
def IsSt (xs : List V) : Prop := (∃ x, xs = [.int x]) ∨ ∃ x y z, xs = [.int x, .int y, .int z]
structure En where
  sl : List (Option AV)
  ce : List Cell
/-- what stands ahead of the def's call, the data it was handed, what is wanted of its errors -/
structure Fx where
  Fr : Hp
  G0 : Hp
  E : XK
  ex : Addr → Prop
  hE : ∀ C H, ex C → Same Fr H → E (.ref C) none H
  fr : V → Prop
  as0 : List Addr
mutual
inductive TNr (K : PySem.W.Frag) (G : Hp) (as : List Addr) : TN → V → Prop
  | dat {d : D} {v : V} : Rep K G d v → TNr K G as (.dat d) v
  | cel {j : Nat} {a : Addr} : as[j]? = some a → TNr K G as (.cel j) (.ref a)
  | tup {xs : List TN} {a : Addr} {vs : List V} : SqT K G a vs → TNs K G as xs vs → TNr K G as (.tup xs) (.ref a)
inductive TNs (K : PySem.W.Frag) (G : Hp) (as : List Addr) : List TN → List V → Prop
  | nil : TNs K G as [] []
  | cons {x : TN} {xs : List TN} {v : V} {vs : List V} : TNr K G as x v → TNs K G as xs vs → TNs K G as (x :: xs) (v :: vs)
end
def RepA (K : PySem.W.Frag) (G : Hp) (as : List Addr) : AV → V → Prop
  | .dat d, v => Rep K G d v
  | .cel j, v => ∃ a, as[j]? = some a ∧ v = .ref a
  | .tup xs, v => ∃ a vs, v = .ref a ∧ SqT K G a vs ∧ TNs K G as xs vs
def CellOk (K : PySem.W.Frag) (G H : Hp) (a : Addr) : Cell → Prop
  | .gone => True
  | .reg _ _ => G a = none
  | .lst ds => G a = none ∧ ∃ vs, H a = some (.lst vs) ∧ Reps K G ds vs
  | .drw => G a = none ∧ ∃ xs, H a = some (.lst xs) ∧ IsSt xs
  | .oth X => G a = none ∧ ∃ o, H a = some o ∧ X.ok G a o
  | .ins C ns ds => G a = none ∧ ∃ dx vs, H a = some (.ins C dx (ns.zip vs)) ∧ ns.length = ds.length ∧ Reps K G ds vs
/-- the private parts: apart from one another, from the frozen heap and from all other cells -/
structure RegsAt (Ts : Nat → Hp) (Fr G H : Hp) (as : List Addr) (cs : List Cell) : Prop where
  em : ∀ j, (∀ t X, cs[j]? ≠ some (Cell.reg t X)) → ∀ b, Ts j b = none
  dj : ∀ i j b o u, Ts i b = some o → Ts j b = some u → i = j
  pl : ∀ i b o, Ts i b = some o → H b = some o ∧ G b = none ∧ Fr b = none ∧ ∀ j, as[j]? = some b → j = i
  ok : ∀ (j : Nat) t X a, cs[j]? = some (Cell.reg t X) → as[j]? = some a → (∀ g, t = some g → a = g) ∧ X.ok (Ts j) G a
theorem RegsAt.is {Ts : Nat → Hp} {Fr G H : Hp} {as : List Addr} {cs : List Cell} (r : RegsAt Ts Fr G H as cs) {j : Nat} {b : Addr} {o : HO} (h : Ts j b = some o) : ∃ t X, cs[j]? = some (Cell.reg t X) := by
  cases hc : cs[j]? with
  | none => have := r.em j (fun t X z => by rw [hc] at z; cases z) b; rw [h] at this; cases this
  | some c =>
    cases c with
    | reg t X => exact ⟨t, X, rfl⟩
    | _ => have := r.em j (fun t X z => by rw [hc] at z; cases z) b; rw [h] at this; cases this
/-- the parts at other places, in another heap -/
theorem RegsAt.map {Ts : Nat → Hp} {Fr G H Fr' G' H' : Hp} {as as' : List Addr} {cs cs' : List Cell} (r : RegsAt Ts Fr G H as cs) (f : Nat → Option Nat)
    (f1 : ∀ (i : Nat) t X, cs'[i]? = some (Cell.reg t X) → ∃ i0, f i = some i0 ∧ cs[i0]? = some (Cell.reg t X) ∧ as'[i]? = as[i0]?)
    (f2 : ∀ i i0, f i = some i0 → ∃ t X, cs'[i]? = some (Cell.reg t X))
    (fi : ∀ i j k, f i = some k → f j = some k → i = j)
    (fb : ∀ (i : Nat) b, as'[i]? = some b → H b = none ∨ ∃ i0, as[i0]? = some b ∧ ∀ j, f j = some i0 → j = i)
    (hH : ∀ i i0 b o, f i = some i0 → Ts i0 b = some o → H' b = some o ∧ G' b = none ∧ Fr' b = none)
    (sG : ∀ a o, G a = some o → (G' a = some o) ∨ (∃ xs, o = .lst xs)) : RegsAt (fun i => match f i with | some i0 => Ts i0 | none => fun _ => none) Fr' G' H' as' cs' := by
  refine ⟨fun j h b => ?_, fun i j b o u h1 h2 => ?_, fun i b o h => ?_, fun j t X a hc ha => ?_⟩
  · cases hf : f j with
    | none => rfl
    | some j0 => obtain ⟨t, X, z⟩ := f2 j j0 hf; exact absurd z (h t X)
  · cases hf : f i with
    | none => simp only [hf] at h1; cases h1
    | some i0 =>
      cases hg : f j with
      | none => simp only [hg] at h2; cases h2
      | some j0 =>
        simp only [hf] at h1
        simp only [hg] at h2
        have := r.dj i0 j0 b o u h1 h2
        subst this
        exact fi i j i0 hf hg
  · cases hf : f i with
    | none => simp only [hf] at h; cases h
    | some i0 =>
      simp only [hf] at h
      obtain ⟨x1, x2, x3⟩ := hH i i0 b o hf h
      obtain ⟨y1, _, _, y4⟩ := r.pl i0 b o h
      refine ⟨x1, x2, x3, fun j hj => ?_⟩
      rcases fb j b hj with z | ⟨k, hk, hu⟩
      · rw [y1] at z; cases z
      · have := y4 k hk
        subst this
        exact (hu i hf).symm
  · obtain ⟨i0, hf, h1, h2⟩ := f1 j t X hc
    simp only [hf]
    obtain ⟨x, y⟩ := r.ok i0 t X a h1 (by rw [← h2]; exact ha)
    exact ⟨x, X.mono sG y⟩
/-- some of the parts, at their places -/
theorem RegsAt.subS {Ts : Nat → Hp} {Fr G H Fr' G' H' : Hp} {as as' : List Addr} {cs cs' : List Cell} (r : RegsAt Ts Fr G H as cs)
    (f1 : ∀ (i : Nat) t X, cs'[i]? = some (Cell.reg t X) → cs[i]? = some (Cell.reg t X) ∧ as'[i]? = as[i]?)
    (fb : ∀ (i : Nat) b, as'[i]? = some b → H b = none ∨ as[i]? = some b)
    (hH : ∀ (i : Nat) t X b o, cs'[i]? = some (Cell.reg t X) → Ts i b = some o → H' b = some o ∧ G' b = none ∧ Fr' b = none)
    (sG : ∀ a o, G a = some o → (G' a = some o) ∨ (∃ xs, o = .lst xs)) : ∃ Ts', RegsAt Ts' Fr' G' H' as' cs' ∧ ∀ i b o, Ts' i b = some o → Ts i b = some o := by
  refine ⟨_, r.map (fun i => match cs'[i]? with | some (.reg _ _) => some i | _ => none) (fun i t X h => ⟨i, by simp only [h], f1 i t X h⟩) (fun i i0 h => ?_) (fun i j k h1 h2 => ?_) (fun i b h => ?_) (fun i i0 b o h hb => ?_) sG, fun i b o h => ?_⟩
  · split at h
    · rename_i t X e; exact ⟨t, X, e⟩
    · cases h
  · split at h1
    · split at h2
      · cases h1; cases h2; rfl
      · cases h2
    · cases h1
  · rcases fb i b h with z | z
    · exact .inl z
    · refine .inr ⟨i, z, fun j hj => ?_⟩
      split at hj
      · cases hj; rfl
      · cases hj
  · split at h
    · rename_i t X e
      cases h
      exact hH _ t X b o e hb
    · cases h
  · have h : (match (match cs'[i]? with | some (.reg _ _) => some i | _ => none : Option Nat) with | some i0 => Ts i0 | none => fun _ => none) b = some o := h
    cases hf : (match cs'[i]? with | some (.reg _ _) => some i | _ => none : Option Nat) with
    | none => simp only [hf] at h; cases h
    | some i0 =>
      simp only [hf] at h
      split at hf
      · cases hf; exact h
      · cases hf
theorem RegsAt.sub {Ts : Nat → Hp} {Fr G H Fr' G' H' : Hp} {as as' : List Addr} {cs cs' : List Cell} (r : RegsAt Ts Fr G H as cs)
    (f1 : ∀ (i : Nat) t X, cs'[i]? = some (Cell.reg t X) → cs[i]? = some (Cell.reg t X) ∧ as'[i]? = as[i]?)
    (fb : ∀ (i : Nat) b, as'[i]? = some b → H b = none ∨ as[i]? = some b)
    (hH : ∀ (i : Nat) t X b o, cs'[i]? = some (Cell.reg t X) → Ts i b = some o → H' b = some o ∧ G' b = none ∧ Fr' b = none)
    (sG : ∀ a o, G a = some o → (G' a = some o) ∨ (∃ xs, o = .lst xs)) : ∃ Ts', RegsAt Ts' Fr' G' H' as' cs' := let ⟨Ts', h, _⟩ := r.subS f1 fb hH sG; ⟨Ts', h⟩
/-- nothing of them has changed -/
theorem RegsAt.same {Ts : Nat → Hp} {Fr G H Fr' G' H' : Hp} {as : List Addr} {cs : List Cell} (r : RegsAt Ts Fr G H as cs) (hH : ∀ i b o, Ts i b = some o → H b = some o → H' b = some o) (hG : ∀ b o, H b = some o → G b = none → G' b = none) (hF : ∀ b, Fr b = none → Fr' b = none) (sG : ∀ a o, G a = some o → (G' a = some o) ∨ (∃ xs, o = .lst xs)) : RegsAt Ts Fr' G' H' as cs :=
  ⟨r.em, r.dj, fun i b o h => by obtain ⟨x, y, z, w⟩ := r.pl i b o h; exact ⟨hH i b o h x, hG b o x y, hF b z, w⟩, fun j t X a hc ha => by obtain ⟨x, y⟩ := r.ok j t X a hc ha; exact ⟨x, X.mono sG y⟩⟩
/-- a cell is written to or has become another one -/
theorem RegsAt.setCS {Ts : Nat → Hp} {Fr G H G' H' : Hp} {as : List Addr} {cs : List Cell} (r : RegsAt Ts Fr G H as cs) {j : Nat} {a : Addr} {c' : Cell} (ha : as[j]? = some a) (hc : ∀ t X, c' ≠ Cell.reg t X) (hH : ∀ b o, b ≠ a → H b = some o → H' b = some o) (hG : ∀ b o, b ≠ a → H b = some o → G b = none → G' b = none) (sG : Same G G') : ∃ Ts', RegsAt Ts' Fr G' H' as (cs.set j c') ∧ ∀ i b o, Ts' i b = some o → Ts i b = some o := by
  have ne : ∀ i t X, (cs.set j c')[i]? = some (Cell.reg t X) → i ≠ j ∧ cs[i]? = some (Cell.reg t X) := fun i t X h => by
    by_cases q : j = i
    · subst q
      rw [List.getElem?_set] at h
      split at h
      · split at h
        · exact absurd (Option.some.inj h) (hc t X)
        · cases h
      · rename_i z; exact absurd rfl z
    · rw [List.getElem?_set_ne q] at h
      exact ⟨fun z => q z.symm, h⟩
  refine r.subS (fun i t X h => ⟨(ne i t X h).2, rfl⟩) (fun i b h => .inr h) (fun i t X b o h hb => ?_) (fun a o z => .inl (sG a o z))
  obtain ⟨x, y, z, w⟩ := r.pl i b o hb
  have nb : b ≠ a := fun q => by subst q; exact (ne i t X h).1 (w j ha).symm
  exact ⟨hH b o nb x, hG b o nb x y, z⟩
theorem RegsAt.setC {Ts : Nat → Hp} {Fr G H G' H' : Hp} {as : List Addr} {cs : List Cell} (r : RegsAt Ts Fr G H as cs) {j : Nat} {a : Addr} {c' : Cell} (ha : as[j]? = some a) (hc : ∀ t X, c' ≠ Cell.reg t X) (hH : ∀ b o, b ≠ a → H b = some o → H' b = some o) (hG : ∀ b o, b ≠ a → H b = some o → G b = none → G' b = none) (sG : Same G G') : ∃ Ts', RegsAt Ts' Fr G' H' as (cs.set j c') := let ⟨Ts', h, _⟩ := r.setCS ha hc hH hG sG; ⟨Ts', h⟩
/-- a new cell -/
theorem RegsAt.addC {Ts : Nat → Hp} {Fr G H H' : Hp} {as : List Addr} {cs : List Cell} (r : RegsAt Ts Fr G H as cs) {p : Addr} {c' : Cell} (ln : as.length = cs.length) (hc : ∀ t X, c' ≠ Cell.reg t X) (hp : ∀ i o, Ts i p ≠ some o) (hH : ∀ b o, b ≠ p → H b = some o → H' b = some o) : ∃ Ts', RegsAt Ts' Fr G H' (as ++ [p]) (cs ++ [c']) := by
  refine ⟨Ts, fun j h b => r.em j (fun t X z => h t X ?_) b, r.dj, fun i b o h => ?_, fun j t X a h1 h2 => ?_⟩
  · rw [List.getElem?_append_left (List.getElem?_eq_some_iff.mp z).1]; exact z
  · obtain ⟨x, y, z, w⟩ := r.pl i b o h
    have nb : b ≠ p := fun q => by subst q; exact hp i o h
    refine ⟨hH b o nb x, y, z, fun j hj => ?_⟩
    by_cases q : j < as.length
    · rw [List.getElem?_append_left q] at hj; exact w j hj
    · rw [List.getElem?_append_right (by omega)] at hj
      exact absurd (List.mem_singleton.mp (List.mem_of_getElem? hj)) nb
  · by_cases q : j < cs.length
    · rw [List.getElem?_append_left q] at h1
      rw [List.getElem?_append_left (by omega)] at h2
      exact r.ok j t X a h1 h2
    · rw [List.getElem?_append_right (by omega)] at h1
      exact absurd (List.mem_singleton.mp (List.mem_of_getElem? h1)).symm (hc t X)
structure EnvOk (K : PySem.W.Frag) (F : Fx) (ρ : En) (as : List Addr) (σ : L2.St) (H G : Hp) : Prop where
  gh : Same G H
  fh : Same F.Fr H
  fg : ∀ a o, G a = some o → F.G0 a = some o ∨ F.Fr a = none
  g0 : Same F.G0 G
  nd : as.Nodup
  pr : F.as0 <+: as
  ln : as.length = ρ.ce.length
  ce : ∀ (j : Nat) (c : Cell) (a : Addr), ρ.ce[j]? = some c → as[j]? = some a → F.Fr a = none ∧ (∃ o, H a = some o) ∧ CellOk K G H a c
  sn : σ.length = ρ.sl.length
  sl : ∀ (i : Nat) (av : AV), ρ.sl[i]? = some (some av) → ∃ v, σ[i]? = some (some v) ∧ RepA K G as av v
  rg : ∃ Ts, RegsAt Ts F.Fr G H as ρ.ce
/-- more is frozen, more cells -/
structure Gr (G : Hp) (as : List Addr) (G' : Hp) (as' : List Addr) : Prop where
  g : Same G G'
  a : ∃ r, as' = as ++ r
theorem Gr.refl {G : Hp} {as : List Addr} : Gr G as G as := ⟨Same.refl _, [], by simp⟩
theorem Gr.trans {G G1 G2 : Hp} {as as1 as2 : List Addr} (x : Gr G as G1 as1) (y : Gr G1 as1 G2 as2) : Gr G as G2 as2 := by
  obtain ⟨g, r, rfl⟩ := x
  obtain ⟨g2, r2, rfl⟩ := y
  exact ⟨Same.trans g g2, r ++ r2, by simp⟩
mutual
theorem TNr.mono {K : PySem.W.Frag} {G G' : Hp} {as as' : List Addr} (g : Gr G as G' as') : ∀ (x : TN) (v : V), TNr K G as x v → TNr K G' as' x v
  | .dat d, v, h => by cases h with | dat r => exact .dat (Rep.mono g.g _ _ r)
  | .cel j, v, h => by
    cases h with
    | cel e =>
      obtain ⟨_, r, rfl⟩ := g
      exact .cel (by rw [List.getElem?_append_left (List.getElem?_eq_some_iff.mp e).1]; exact e)
  | .tup xs, v, h => by cases h with | tup s r => exact .tup (Same.seqT g.g s) (TNs.mono g xs _ r)
theorem TNs.mono {K : PySem.W.Frag} {G G' : Hp} {as as' : List Addr} (g : Gr G as G' as') : ∀ (xs : List TN) (vs : List V), TNs K G as xs vs → TNs K G' as' xs vs
  | [], _, h => by cases h; exact .nil
  | x :: xs, _, h => by cases h with | cons a b => exact .cons (TNr.mono g x _ a) (TNs.mono g xs _ b)
end
theorem RepA.mono {K : PySem.W.Frag} {G G' : Hp} {as as' : List Addr} (g : Gr G as G' as') : ∀ {av : AV} {v : V}, RepA K G as av v → RepA K G' as' av v
  | .dat d, v, h => Rep.mono g.g d v h
  | .cel j, v, ⟨a, e, q⟩ => by
    obtain ⟨_, r, rfl⟩ := g
    exact ⟨a, by rw [List.getElem?_append_left (List.getElem?_eq_some_iff.mp e).1]; exact e, q⟩
  | .tup xs, v, ⟨a, vs, e, s, r⟩ => ⟨a, vs, e, Same.seqT g.g s, TNs.mono g _ _ r⟩
inductive RepAs (K : PySem.W.Frag) (G : Hp) (as : List Addr) : List AV → List V → Prop
  | nil : RepAs K G as [] []
  | cons {x : AV} {xs : List AV} {v : V} {vs : List V} : RepA K G as x v → RepAs K G as xs vs → RepAs K G as (x :: xs) (v :: vs)
theorem RepAs.mono {K : PySem.W.Frag} {G G' : Hp} {as as' : List Addr} (g : Gr G as G' as') {xs : List AV} {vs : List V} (h : RepAs K G as xs vs) : RepAs K G' as' xs vs := by
  induction h with
  | nil => exact .nil
  | cons a _ ih => exact .cons (a.mono g) ih
theorem RepAs.length {K : PySem.W.Frag} {G : Hp} {as : List Addr} {xs : List AV} {vs : List V} (h : RepAs K G as xs vs) : vs.length = xs.length := by
  induction h with
  | nil => rfl
  | cons _ _ ih => exact congrArg (· + 1) ih
theorem RepAs.append {K : PySem.W.Frag} {G : Hp} {as : List Addr} {xs ys : List AV} {vs ws : List V} (h : RepAs K G as xs vs) (k : RepAs K G as ys ws) : RepAs K G as (xs ++ ys) (vs ++ ws) := by
  induction h with
  | nil => exact k
  | cons a _ ih => exact .cons a ih
/-! ### the wishes, by data -/
structure KS where
  nx : En → Prop
  rt : AV → En → Prop
  bk : En → Prop := fun _ => False
  ct : En → Prop := fun _ => False
section
variable (K : PySem.W.Frag) (F : Fx)
/-- what is wanted of a value that has come -/
def Got (ρ : En) (as : List Addr) (σ : L2.St) (G : Hp) (k : AV → En → Prop) (Q : VK) : Prop := ∀ av ρ' v as' H' G', k av ρ' → EnvOk K F ρ' as' σ H' G' → Gr G as G' as' → RepA K G' as' av v → Q v H'
def WpE (t : TE) (ρ : En) (k : AV → En → Prop) : Prop := ∀ as σ H G, EnvOk K F ρ as σ H G → ∀ Q : VK, Got K F ρ as σ G k Q → t σ H Q
def WpT (t : TT) (ρ : En) (k : Bool → En → Prop) : Prop := ∀ as σ H G, EnvOk K F ρ as σ H G → ∀ Q : Bool → Hp → Prop, (∀ b ρ' as' H' G', k b ρ' → EnvOk K F ρ' as' σ H' G' → Gr G as G' as' → Q b H') → t σ H Q
def WpA (t : TA) (ρ : En) (k : List AV → En → Prop) : Prop := ∀ as σ H G, EnvOk K F ρ as σ H G → ∀ Q : List V → Hp → Prop, (∀ avs ρ' vs as' H' G', k avs ρ' → EnvOk K F ρ' as' σ H' G' → Gr G as G' as' → RepAs K G' as' avs vs → Q vs H') → t σ H Q
def WpR (r : R2) (x y : AV) (ρ : En) (k : AV → En → Prop) : Prop := ∀ as σ H G vx vy, EnvOk K F ρ as σ H G → RepA K G as x vx → RepA K G as y vy → ∀ Q : VK, Got K F ρ as σ G k Q → r vx vy H Q
def WpU (r : V → Hp → VK → Prop) (x : AV) (ρ : En) (k : AV → En → Prop) : Prop := ∀ as σ H G vx, EnvOk K F ρ as σ H G → RepA K G as x vx → ∀ Q : VK, Got K F ρ as σ G k Q → r vx H Q
def WpC (r : List V → Hp → VK → Prop) (xs : List AV) (ρ : En) (k : AV → En → Prop) : Prop := ∀ as σ H G vs, EnvOk K F ρ as σ H G → RepAs K G as xs vs → ∀ Q : VK, Got K F ρ as σ G k Q → r vs H Q
def WpM (r : V → List V → Hp → VK → Prop) (x : AV) (xs : List AV) (ρ : En) (k : AV → En → Prop) : Prop := ∀ as σ H G v vs, EnvOk K F ρ as σ H G → RepA K G as x v → RepAs K G as xs vs → ∀ Q : VK, Got K F ρ as σ G k Q → r v vs H Q
def WpSp (sp : Sp) (E : L2.St → XK) (xs : List AV) (ρ : En) (k : AV → En → Prop) : Prop := ∀ as σ H G vs, EnvOk K F ρ as σ H G → RepAs K G as xs vs → ∀ Q : VK, Got K F ρ as σ G k Q → sp vs H Q (E σ)
def WpG (g : TG) (x : AV) (ρ : En) (k : En → Prop) : Prop := ∀ as σ H G v, EnvOk K F ρ as σ H G → RepA K G as x v → ∀ Q : L2.St → Hp → Prop, (∀ ρ' as' σ' H' G', k ρ' → EnvOk K F ρ' as' σ' H' G' → Gr G as G' as' → Q σ' H') → g v σ H Q
def WpGs (g : TGs) (xs : List AV) (ρ : En) (k : En → Prop) : Prop := ∀ as σ H G vs, EnvOk K F ρ as σ H G → RepAs K G as xs vs → ∀ Q : L2.St → Hp → Prop, (∀ ρ' as' σ' H' G', k ρ' → EnvOk K F ρ' as' σ' H' G' → Gr G as G' as' → Q σ' H') → g vs σ H Q
/-- the ends of a statement, by data -/
structure EndsOk (as : List Addr) (G : Hp) (k : KS) (D : Ends) : Prop where
  nx : ∀ ρ as' σ H G', k.nx ρ → EnvOk K F ρ as' σ H G' → Gr G as G' as' → D.nx σ H
  rt : ∀ av ρ v as' σ H G', k.rt av ρ → EnvOk K F ρ as' σ H G' → Gr G as G' as' → RepA K G' as' av v → D.rt v H
  bk : ∀ ρ as' σ H G', k.bk ρ → EnvOk K F ρ as' σ H G' → Gr G as G' as' → D.bk σ H
  ct : ∀ ρ as' σ H G', k.ct ρ → EnvOk K F ρ as' σ H G' → Gr G as G' as' → D.ct σ H
  fr : ∀ v H, F.fr v → D.rt v H
theorem EndsOk.grow {as as1 : List Addr} {G G1 : Hp} {k : KS} {D : Ends} (q : EndsOk K F as G k D) (g : Gr G as G1 as1) : EndsOk K F as1 G1 k D :=
  ⟨fun ρ as' σ H G' a b c => q.nx ρ as' σ H G' a b (g.trans c), fun av ρ v as' σ H G' a b c d => q.rt av ρ v as' σ H G' a b (g.trans c) d, fun ρ as' σ H G' a b c => q.bk ρ as' σ H G' a b (g.trans c), fun ρ as' σ H G' a b c => q.ct ρ as' σ H G' a b (g.trans c), q.fr⟩
def WpS (t : TS) (ρ : En) (k : KS) : Prop := ∀ as σ H G, EnvOk K F ρ as σ H G → ∀ D : Ends, EndsOk K F as G k D → t D σ H
end
/-! ### rules of the data layer: expressions -/
section
variable {K : PySem.W.Frag} {F : Fx} {ρ : En} {k : AV → En → Prop} {kb : Bool → En → Prop} {ks : KS} {t u : TS} {ta tb te : TE} {tt tu : TT}
theorem Got.imp {as : List Addr} {σ : L2.St} {G : Hp} {ρ1 : En} {as1 : List Addr} {G1 : Hp} {k1 : AV → En → Prop} {Q : VK} (g : Got K F ρ as σ G k Q) (gr : Gr G as G1 as1) (h : ∀ av ρ', k1 av ρ' → k av ρ') : Got K F ρ1 as1 σ G1 k1 Q :=
  fun av ρ' v as' H' G' hk e gr' r => g av ρ' v as' H' G' (h _ _ hk) e (gr.trans gr') r
theorem WpE.imp {k' : AV → En → Prop} (h : WpE K F te ρ k) (i : ∀ av ρ', k av ρ' → k' av ρ') : WpE K F te ρ k' := fun as σ H G e Q q => h as σ H G e Q (q.imp .refl i)
theorem we_var {i : Nat} {av : AV} (h : ρ.sl[i]? = some (some av)) (hk : k av ρ) : WpE K F (tVar i) ρ k := fun as σ H G e Q q => by
  obtain ⟨v, hv, r⟩ := e.sl i av h
  exact ⟨v, hv, q av ρ v as H G hk e .refl r⟩
theorem we_ci {i : Int} (hk : k (.dat (.int i)) ρ) : WpE K F (tC (.int i)) ρ k := fun as σ H G e Q q => q _ ρ _ as H G hk e .refl (Rep.int i)
theorem we_cb {b : Bool} (hk : k (.dat (.bl b)) ρ) : WpE K F (tC (.bl b)) ρ k := fun as σ H G e Q q => q _ ρ _ as H G hk e .refl (Rep.bl b)
theorem we_cn (hk : k (.dat .non) ρ) : WpE K F (tC .non) ρ k := fun as σ H G e Q q => q _ ρ _ as H G hk e .refl Rep.non
theorem we_cs {x : Str} (hk : k (.dat (.str x)) ρ) : WpE K F (tC (.str x)) ρ k := fun as σ H G e Q q => q _ ρ _ as H G hk e .refl (Rep.str x)
theorem we_ct {n : String} (hk : k (.dat (.ty n)) ρ) : WpE K F (tC (.ty n)) ρ k := fun as σ H G e Q q => q _ ρ _ as H G hk e .refl (Rep.ty n)
/-- a constant of the module -/
theorem we_cr {a : Addr} {d : D} (h : ∀ G, Rep K G d (.ref a)) (hk : k (.dat d) ρ) : WpE K F (tC (.ref a)) ρ k := fun as σ H G e Q q => q _ ρ _ as H G hk e .refl (h G)
theorem we_op {r : R2} (h : WpE K F ta ρ fun x ρ1 => WpE K F tb ρ1 fun y ρ2 => WpR K F r x y ρ2 k) : WpE K F (tOp r ta tb) ρ k := fun as σ H G e Q q =>
  h as σ H G e _ fun x ρ1 vx as1 H1 G1 h1 e1 g1 r1 => h1 as1 σ H1 G1 e1 _ fun y ρ2 vy as2 H2 G2 h2 e2 g2 r2 => h2 as2 σ H2 G2 vx vy e2 (r1.mono g2) r2 Q (q.imp (g1.trans g2) fun _ _ z => z)
theorem we_un {r : V → Hp → VK → Prop} (h : WpE K F ta ρ fun x ρ1 => WpU K F r x ρ1 k) : WpE K F (tUn r ta) ρ k := fun as σ H G e Q q =>
  h as σ H G e _ fun x ρ1 vx as1 H1 G1 h1 e1 g1 r1 => h1 as1 σ H1 G1 vx e1 r1 Q (q.imp g1 fun _ _ z => z)
theorem we_tCB {r : List V → Hp → VK → Prop} {t : TA} (h : WpA K F t ρ fun xs ρ1 => WpC K F r xs ρ1 k) : WpE K F (tCB r t) ρ k := fun as σ H G e Q q =>
  h as σ H G e _ fun xs ρ1 vs as1 H1 G1 h1 e1 g1 r1 => h1 as1 σ H1 G1 vs e1 r1 Q (q.imp g1 fun _ _ z => z)
theorem wa_nil {k : List AV → En → Prop} (hk : k [] ρ) : WpA K F tNil ρ k := fun as σ H G e Q q => q [] ρ [] as H G hk e .refl .nil
theorem wa_cons {k : List AV → En → Prop} {tr : TA} (h : WpE K F ta ρ fun x ρ1 => WpA K F tr ρ1 fun xs ρ2 => k (x :: xs) ρ2) : WpA K F (tCons ta tr) ρ k := fun as σ H G e Q q =>
  h as σ H G e _ fun x ρ1 vx as1 H1 G1 h1 e1 g1 r1 => h1 as1 σ H1 G1 e1 _ fun xs ρ2 vs as2 H2 G2 h2 e2 g2 r2 => q _ ρ2 _ as2 H2 G2 h2 e2 (g1.trans g2) (.cons (r1.mono g2) r2)
theorem wr_I0i {f : Int → Int → Int} {i j : Int} (hk : k (.dat (.int (f i j))) ρ) : WpR K F (rI0 fun i j => .int (f i j)) (.dat (.int i)) (.dat (.int j)) ρ k := fun as σ H G vx vy e r1 r2 Q q => by
  cases (show Rep K G (.int i) vx from r1); cases (show Rep K G (.int j) vy from r2)
  exact ⟨i, j, rfl, rfl, q _ ρ _ as H G hk e .refl (Rep.int _)⟩
theorem wr_I0b {f : Int → Int → Bool} {i j : Int} (hk : k (.dat (.bl (f i j))) ρ) : WpR K F (rI0 fun i j => .bl (f i j)) (.dat (.int i)) (.dat (.int j)) ρ k := fun as σ H G vx vy e r1 r2 Q q => by
  cases (show Rep K G (.int i) vx from r1); cases (show Rep K G (.int j) vy from r2)
  exact ⟨i, j, rfl, rfl, q _ ρ _ as H G hk e .refl (Rep.bl _)⟩
theorem wr_Ii {C : Int → Int → Prop} {f : Int → Int → Int} {i j : Int} (hc : C i j) (hk : k (.dat (.int (f i j))) ρ) : WpR K F (rI C fun i j => .int (f i j)) (.dat (.int i)) (.dat (.int j)) ρ k := fun as σ H G vx vy e r1 r2 Q q => by
  cases (show Rep K G (.int i) vx from r1); cases (show Rep K G (.int j) vy from r2)
  exact ⟨i, j, rfl, rfl, hc, q _ ρ _ as H G hk e .refl (Rep.int _)⟩
theorem wu_neg {i : Int} (hk : k (.dat (.int (-i))) ρ) : WpU K F (rU fun i => .int (-i)) (.dat (.int i)) ρ k := fun as σ H G vx e r1 Q q => by
  cases (show Rep K G (.int i) vx from r1)
  exact ⟨i, rfl, q _ ρ _ as H G hk e .refl (Rep.int _)⟩
theorem wc_abs {i : Int} (hk : k (.dat (.int (if i < 0 then -i else i))) ρ) : WpC K F (fun xs H Q => ∃ i, xs = [.int i] ∧ Q (.int (if i < 0 then -i else i)) H) [.dat (.int i)] ρ k := fun as σ H G vs e r Q q => by
  cases r with
  | cons a b =>
    cases b
    cases (show Rep K G (.int i) _ from a)
    exact ⟨i, rfl, q _ ρ _ as H G hk e .refl (Rep.int _)⟩
/-- == of scalars -/
def scalD : D → D → Bool
  | .non, .non => true | .non, .int _ => true | .int _, .non => true | .non, .bl _ => true | .bl _, .non => true | .non, .str _ => true | .str _, .non => true
  | .int _, .int _ => true | .bl _, .bl _ => true | .str _, .str _ => true | .int _, .str _ => true | .str _, .int _ => true | .bl _, .str _ => true | .str _, .bl _ => true
  | _, _ => false
def eqS : D → D → Bool
  | .non, .non => true
  | .int i, .int j => decide (i = j)
  | .bl a, .bl b => decide (a = b)
  | .str x, .str y => decide (x = y)
  | _, _ => false
theorem scal_rep {G : Hp} {d e : D} {v w : V} (h : scalD d e = true) (r1 : Rep K G d v) (r2 : Rep K G e w) : scal v w = true ∧ decide (v = w) = eqS d e := by
  cases d <;> cases e <;> first
    | (exact Bool.noConfusion (show false = true from h))
    | (cases r1; cases r2; refine ⟨rfl, ?_⟩; first | rfl | (simp [eqS]) | (exact decide_eq_false (fun z => nomatch z)))
theorem wr_eq {d e : D} (h : scalD d e = true) (hk : k (.dat (.bl (eqS d e))) ρ) : WpR K F rEq (.dat d) (.dat e) ρ k := fun as σ H G vx vy en r1 r2 Q q => by
  obtain ⟨a, b⟩ := scal_rep (K := K) (G := G) h r1 r2
  refine ⟨a, ?_⟩
  rw [b]
  exact q _ ρ _ as H G hk en .refl (Rep.bl _)
theorem wr_ne {d e : D} (h : scalD d e = true) (hk : k (.dat (.bl (!eqS d e))) ρ) : WpR K F rNe (.dat d) (.dat e) ρ k := fun as σ H G vx vy en r1 r2 Q q => by
  obtain ⟨a, b⟩ := scal_rep (K := K) (G := G) h r1 r2
  refine ⟨a, ?_⟩
  rw [b]
  exact q _ ρ _ as H G hk en .refl (Rep.bl _)
def isNon : AV → Bool
  | .dat .non => true
  | _ => false
theorem isNon_rep {G : Hp} {as : List Addr} {x : AV} {v : V} (r : RepA K G as x v) : decide (v = .non) = isNon x := by
  cases x with
  | cel j => obtain ⟨a, _, rfl⟩ := r; rfl
  | tup xs => obtain ⟨a, vs, rfl, _⟩ := r; rfl
  | dat d => cases d <;> cases (show Rep K G _ v from r) <;> rfl
theorem wr_isN {x : AV} (hk : k (.dat (.bl (isNon x))) ρ) : WpR K F (fun x y H Q => y = .non ∧ Q (.bl (decide (x = .non))) H) x (.dat .non) ρ k := fun as σ H G vx vy en r1 r2 Q q => by
  refine ⟨Rep.nonE r2, ?_⟩
  rw [isNon_rep r1]
  exact q _ ρ _ as H G hk en .refl (Rep.bl _)
theorem wr_notN {x : AV} (hk : k (.dat (.bl (!isNon x))) ρ) : WpR K F (fun x y H Q => y = .non ∧ Q (.bl (!decide (x = .non))) H) x (.dat .non) ρ k := fun as σ H G vx vy en r1 r2 Q q => by
  refine ⟨Rep.nonE r2, ?_⟩
  rw [isNon_rep r1]
  exact q _ ρ _ as H G hk en .refl (Rep.bl _)
theorem wr_isB {a b : Bool} (hk : k (.dat (.bl (decide (a = b)))) ρ) : WpR K F (fun x y H Q => ∃ a b, x = .bl a ∧ y = .bl b ∧ Q (.bl (decide (a = b))) H) (.dat (.bl a)) (.dat (.bl b)) ρ k := fun as σ H G vx vy en r1 r2 Q q =>
  ⟨a, b, Rep.blE r1, Rep.blE r2, q _ ρ _ as H G hk en .refl (Rep.bl _)⟩
theorem wr_isnotB {a b : Bool} (hk : k (.dat (.bl (!decide (a = b)))) ρ) : WpR K F (fun x y H Q => ∃ a b, x = .bl a ∧ y = .bl b ∧ Q (.bl (!decide (a = b))) H) (.dat (.bl a)) (.dat (.bl b)) ρ k := fun as σ H G vx vy en r1 r2 Q q =>
  ⟨a, b, Rep.blE r1, Rep.blE r2, q _ ρ _ as H G hk en .refl (Rep.bl _)⟩
/-! truth -/
theorem we_andV (h : WpE K F ta ρ fun x ρ1 => ∃ c, x = .dat (.bl c) ∧ if c = true then WpE K F tb ρ1 k else k (.dat (.bl false)) ρ1) : WpE K F (tAndV ta tb) ρ k := fun as σ H G e Q q =>
  h as σ H G e _ fun x ρ1 vx as1 H1 G1 ⟨c, ex, hc⟩ e1 g1 r1 => by
    subst ex
    refine ⟨c, Rep.blE r1, ?_⟩
    cases c with
    | true => exact (show WpE K F tb ρ1 k from hc) as1 σ H1 G1 e1 Q (q.imp g1 fun _ _ z => z)
    | false => exact q _ ρ1 _ as1 H1 G1 hc e1 g1 (Rep.bl _)
theorem we_orV (h : WpE K F ta ρ fun x ρ1 => ∃ c, x = .dat (.bl c) ∧ if c = true then k (.dat (.bl true)) ρ1 else WpE K F tb ρ1 k) : WpE K F (tOrV ta tb) ρ k := fun as σ H G e Q q =>
  h as σ H G e _ fun x ρ1 vx as1 H1 G1 ⟨c, ex, hc⟩ e1 g1 r1 => by
    subst ex
    refine ⟨c, Rep.blE r1, ?_⟩
    cases c with
    | false => exact (show WpE K F tb ρ1 k from hc) as1 σ H1 G1 e1 Q (q.imp g1 fun _ _ z => z)
    | true => exact q _ ρ1 _ as1 H1 G1 hc e1 g1 (Rep.bl _)
theorem we_notV (h : WpE K F ta ρ fun x ρ1 => ∃ c, x = .dat (.bl c) ∧ k (.dat (.bl (!c))) ρ1) : WpE K F (tNotV ta) ρ k := fun as σ H G e Q q =>
  h as σ H G e _ fun x ρ1 vx as1 H1 G1 ⟨c, ex, hc⟩ e1 g1 r1 => by
    subst ex
    exact ⟨c, Rep.blE r1, q _ ρ1 _ as1 H1 G1 hc e1 g1 (Rep.bl _)⟩
theorem we_if (h : WpT K F tt ρ fun b ρ1 => if b = true then WpE K F ta ρ1 k else WpE K F tb ρ1 k) : WpE K F (tIf tt ta tb) ρ k := fun as σ H G e Q q =>
  h as σ H G e _ fun b ρ1 as1 H1 G1 hb e1 g1 => by
    cases b with
    | true => exact (show WpE K F ta ρ1 k from hb) as1 σ H1 G1 e1 Q (q.imp g1 fun _ _ z => z)
    | false => exact (show WpE K F tb ρ1 k from hb) as1 σ H1 G1 e1 Q (q.imp g1 fun _ _ z => z)
theorem wt_test (h : WpE K F te ρ fun x ρ1 => ∃ b, x = .dat (.bl b) ∧ kb b ρ1) : WpT K F (tTest te) ρ kb := fun as σ H G e Q q =>
  h as σ H G e _ fun x ρ1 vx as1 H1 G1 ⟨c, ex, hc⟩ e1 g1 r1 => by
    subst ex
    exact ⟨c, Rep.blE r1, q _ ρ1 as1 H1 G1 hc e1 g1⟩
theorem wt_B (h : WpE K F te ρ fun x ρ1 => ∃ b, x = .dat (.bl b) ∧ kb b ρ1) : WpT K F (tB te) ρ kb := wt_test h
theorem wt_and (h : WpT K F tt ρ fun b ρ1 => if b = true then WpT K F tu ρ1 kb else kb false ρ1) : WpT K F (tAnd tt tu) ρ kb := fun as σ H G e Q q =>
  h as σ H G e _ fun b ρ1 as1 H1 G1 hb e1 g1 => by
    cases b with
    | true => exact (show WpT K F tu ρ1 kb from hb) as1 σ H1 G1 e1 Q fun b2 ρ2 as2 H2 G2 h2 e2 g2 => q _ _ _ _ _ h2 e2 (g1.trans g2)
    | false => exact q _ _ _ _ _ hb e1 g1
theorem wt_or (h : WpT K F tt ρ fun b ρ1 => if b = true then kb true ρ1 else WpT K F tu ρ1 kb) : WpT K F (tOr tt tu) ρ kb := fun as σ H G e Q q =>
  h as σ H G e _ fun b ρ1 as1 H1 G1 hb e1 g1 => by
    cases b with
    | false => exact (show WpT K F tu ρ1 kb from hb) as1 σ H1 G1 e1 Q fun b2 ρ2 as2 H2 G2 h2 e2 g2 => q _ _ _ _ _ h2 e2 (g1.trans g2)
    | true => exact q _ _ _ _ _ hb e1 g1
theorem wt_not (h : WpT K F tt ρ fun b ρ1 => kb (!b) ρ1) : WpT K F (tNot tt) ρ kb := fun as σ H G e Q q => h as σ H G e _ fun b ρ1 as1 H1 G1 hb e1 g1 => q _ _ _ _ _ hb e1 g1
theorem wt_yes (h : kb true ρ) : WpT K F tYes ρ kb := fun as σ H G e Q q => q _ _ _ _ _ h e .refl
/-! ### statements -/
theorem ws_seq (h : WpS K F t ρ { ks with nx := fun ρ1 => WpS K F u ρ1 ks }) : WpS K F (tSeq t u) ρ ks := fun as σ H G e D q =>
  h as σ H G e { D with nx := u D } ⟨fun ρ1 as1 σ1 H1 G1 k1 e1 g1 => k1 as1 σ1 H1 G1 e1 D (EndsOk.grow K F q g1), q.rt, q.bk, q.ct, q.fr⟩
theorem ws_next (h : ks.nx ρ) : WpS K F tNext ρ ks := fun as σ H G e D q => q.nx ρ as σ H G h e .refl
theorem ws_break (h : ks.bk ρ) : WpS K F tBreak ρ ks := fun as σ H G e D q => q.bk ρ as σ H G h e .refl
theorem ws_cont (h : ks.ct ρ) : WpS K F tCont ρ ks := fun as σ H G e D q => q.ct ρ as σ H G h e .refl
theorem ws_drop (h : WpE K F te ρ fun _ ρ1 => ks.nx ρ1) : WpS K F (tDrop te) ρ ks := fun as σ H G e D q => h as σ H G e _ fun x ρ1 vx as1 H1 G1 h1 e1 g1 r1 => q.nx ρ1 as1 σ H1 G1 h1 e1 g1
theorem ws_ret (h : WpE K F te ρ ks.rt) : WpS K F (tRet te) ρ ks := fun as σ H G e D q => h as σ H G e _ fun x ρ1 vx as1 H1 G1 h1 e1 g1 r1 => q.rt x ρ1 vx as1 σ H1 G1 h1 e1 g1 r1
theorem ws_retN (h : ks.rt (.dat .non) ρ) : WpS K F tRetN ρ ks := fun as σ H G e D q => q.rt _ ρ _ as σ H G h e .refl Rep.non
theorem ws_if (h : WpT K F tt ρ fun b ρ1 => if b = true then WpS K F t ρ1 ks else WpS K F u ρ1 ks) : WpS K F (tIfS tt t u) ρ ks := fun as σ H G e D q =>
  h as σ H G e _ fun b ρ1 as1 H1 G1 hb e1 g1 => by
    cases b with
    | true => exact (show WpS K F t ρ1 ks from hb) as1 σ H1 G1 e1 D (EndsOk.grow K F q g1)
    | false => exact (show WpS K F u ρ1 ks from hb) as1 σ H1 G1 e1 D (EndsOk.grow K F q g1)
theorem ws_asg {g : TG} (h : WpE K F te ρ fun x ρ1 => WpG K F g x ρ1 ks.nx) : WpS K F (tAsg te g) ρ ks := fun as σ H G e D q =>
  h as σ H G e _ fun x ρ1 vx as1 H1 G1 h1 e1 g1 r1 => h1 as1 σ H1 G1 vx e1 r1 _ fun ρ2 as2 σ2 H2 G2 h2 e2 g2 => q.nx ρ2 as2 σ2 H2 G2 h2 e2 (g1.trans g2)
def En.put (ρ : En) (i : Nat) (x : AV) : En := ⟨ρ.sl.set i (some x), ρ.ce⟩
theorem EnvOk.put {as : List Addr} {σ : L2.St} {H G : Hp} {i : Nat} {x : AV} {v : V} (e : EnvOk K F ρ as σ H G) (r : RepA K G as x v) : EnvOk K F (ρ.put i x) as (σ.set i (some v)) H G :=
  ⟨e.gh, e.fh, e.fg, e.g0, e.nd, e.pr, e.ln, e.ce, by rw [List.length_set, e.sn]; exact (List.length_set).symm, fun j av hj => by
    show ∃ v', (σ.set i (some v))[j]? = some (some v') ∧ _
    have hj' : (ρ.sl.set i (some x))[j]? = some (some av) := hj
    by_cases hij : i = j
    · subst hij
      rw [List.getElem?_set] at hj' ⊢
      have hl : i < ρ.sl.length := by
        rcases Nat.lt_or_ge i ρ.sl.length with z | z
        · exact z
        · simp at hj'
          exact hj'.1
      simp [hl] at hj'
      subst hj'
      have hl2 : i < σ.length := by rw [e.sn]; exact hl
      exact ⟨v, by simp [hl2], r⟩
    · rw [List.getElem?_set_ne hij] at hj' ⊢
      exact e.sl j av hj', e.rg⟩
theorem wg_name {i : Nat} {x : AV} {kn : En → Prop} (h : kn (ρ.put i x)) : WpG K F (gName i) x ρ kn := fun as σ H G v e r Q q => q _ as _ H G h (e.put r) .refl
theorem wgs_nil {kn : En → Prop} (h : kn ρ) : WpGs K F gNil [] ρ kn := fun as σ H G vs e r Q q => by cases r; exact ⟨rfl, q _ _ _ _ _ h e .refl⟩
theorem wgs_cons {g : TG} {gs : TGs} {x : AV} {xs : List AV} {kn : En → Prop} (h : WpG K F g x ρ fun ρ1 => WpGs K F gs xs ρ1 kn) : WpGs K F (gCons g gs) (x :: xs) ρ kn := fun as σ H G vs e r Q q => by
  cases r with
  | cons a b => exact ⟨_, _, rfl, h as σ H G _ e a _ fun ρ1 as1 σ1 H1 G1 h1 e1 g1 => h1 as1 σ1 H1 G1 _ e1 (b.mono g1) Q fun ρ2 as2 σ2 H2 G2 h2 e2 g2 => q _ _ _ _ _ h2 e2 (g1.trans g2)⟩
theorem Reps.as {G : Hp} {as : List Addr} : ∀ {ds : List D} {vs : List V}, Reps K G ds vs → RepAs K G as (ds.map .dat) vs
  | [], _, h => by cases h; exact .nil
  | _ :: _, _, h => by cases h with | cons a b => exact .cons a (Reps.as b)
theorem wg_tup {n : Nat} {gs : TGs} {ds : List D} {kn : En → Prop} (hn : ds.length = n) (h : WpGs K F gs (ds.map .dat) ρ kn) : WpG K F (gTup K n gs) (.dat (.tup ds)) ρ kn := fun as σ H G v e r Q q => by
  obtain ⟨a, vs, rfl, hs, hr⟩ := Rep.tupE r
  exact ⟨a, vs, rfl, Same.seqT e.gh hs, by rw [hr.length]; exact hn, h as σ H G vs e hr.as Q q⟩
theorem ws_par {i j : Nat} {ta : TA} (h : WpA K F ta ρ fun xs ρ1 => ∃ x y, xs = [x, y] ∧ ks.nx ((ρ1.put i x).put j y)) : WpS K F (tPar i j ta) ρ ks := fun as σ H G e D q =>
  h as σ H G e _ fun xs ρ1 vs as1 H1 G1 ⟨x, y, ex, h1⟩ e1 g1 r1 => by
    subst ex
    cases r1 with
    | cons a b => cases b with | cons b c => cases c; exact ⟨_, _, rfl, q.nx _ as1 _ H1 G1 h1 ((e1.put a).put b) g1⟩
/-! ### lists and tuples -/
/-- the items of a list: data, or a cell -/
inductive IsL (ρ : En) : AV → List D → Prop
  | dat (ds : List D) : IsL ρ (.dat (.lst ds)) ds
  | scr (ds : List D) : IsL ρ (.dat (.scr ds)) ds
  | cel {j : Nat} {ds : List D} : ρ.ce[j]? = some (.lst ds) → IsL ρ (.cel j) ds
  | tag {j : Nat} {c : Addr} {ds : List D} : ρ.ce[j]? = some (.oth (lstX c ds)) → IsL ρ (.dat (.cls c)) ds
theorem IsL.rep {as : List Addr} {σ : L2.St} {H G : Hp} {x : AV} {ds : List D} {v : V} (e : EnvOk K F ρ as σ H G) (h : IsL ρ x ds) (r : RepA K G as x v) : ∃ a vs, v = .ref a ∧ SqL K H a vs ∧ Reps K G ds vs := by
  cases h with
  | dat => obtain ⟨a, vs, rfl, hs, hr⟩ := Rep.lstE r; exact ⟨a, vs, rfl, SqL.of (e.gh _ _ hs), hr⟩
  | scr => obtain ⟨a, vs, rfl, hs, hr⟩ := Rep.scrE r; exact ⟨a, vs, rfl, Same.seq e.gh hs, hr⟩
  | cel hc =>
    obtain ⟨a, ha, rfl⟩ := r
    obtain ⟨_, _, _, vs, hv, hr⟩ := e.ce _ _ a hc ha
    exact ⟨a, vs, rfl, SqL.of hv, hr⟩
  | @tag j c _ hc =>
    cases (show Rep K G (.cls c) v from r)
    obtain ⟨a, ha⟩ : ∃ a, as[j]? = some a := ⟨_, List.getElem?_eq_getElem (by rw [e.ln]; exact (List.getElem?_eq_some_iff.mp hc).1)⟩
    obtain ⟨_, _, _, o, ho, rfl, vs, rfl, hr⟩ := e.ce _ _ a hc ha
    exact ⟨a, vs, rfl, SqL.of ho, hr K G⟩
theorem atI_reps {G : Hp} {ds : List D} {vs : List V} {i : Int} {d : D} (h : Reps K G ds vs) (e : atI ds i = some d) : ∃ v, atI vs i = some v ∧ Rep K G d v := by
  unfold atI at *
  rw [h.length]
  cases q : ixN ds.length i with
  | none => rw [q] at e; cases e
  | some j =>
    rw [q] at e
    exact h.get e
theorem wr_ixL {x : AV} {ds : List D} {i : Int} {d : D} (hx : IsL ρ x ds) (hi : atI ds i = some d) (hk : k (.dat d) ρ) : WpR K F (rIxL K) x (.dat (.int i)) ρ k := fun as σ H G vx vy e r1 r2 Q q => by
  obtain ⟨a, vs, rfl, hs, hr⟩ := hx.rep e r1
  obtain ⟨v, hv, r⟩ := atI_reps hr hi
  exact ⟨a, vs, i, v, rfl, Rep.intE r2, hs, hv, q _ ρ _ as H G hk e .refl r⟩
theorem wr_ixT {ds : List D} {i : Int} {d : D} (hi : atI ds i = some d) (hk : k (.dat d) ρ) : WpR K F (rIxT K) (.dat (.tup ds)) (.dat (.int i)) ρ k := fun as σ H G vx vy e r1 r2 Q q => by
  obtain ⟨a, vs, rfl, hs, hr⟩ := Rep.tupE r1
  obtain ⟨v, hv, r⟩ := atI_reps hr hi
  exact ⟨a, vs, i, v, rfl, Rep.intE r2, Same.seqT e.gh hs, hv, q _ ρ _ as H G hk e .refl r⟩
theorem wc_lenL {x : AV} {ds : List D} (hx : IsL ρ x ds) (hk : k (.dat (.int ds.length)) ρ) : WpC K F (fun xs H Q => ∃ p ys, xs = [.ref p] ∧ (SqL K H p ys ∨ SqT K H p ys) ∧ Q (.int ys.length) H) [x] ρ k := fun as σ H G vs e r Q q => by
  cases r with
  | cons r c =>
    cases c
    obtain ⟨a, vs, rfl, hs, hr⟩ := hx.rep e r
    refine ⟨a, vs, rfl, .inl hs, ?_⟩
    rw [hr.length]
    exact q _ ρ _ as H G hk e .refl (Rep.int _)
theorem wc_lenT {ds : List D} (hk : k (.dat (.int ds.length)) ρ) : WpC K F (fun xs H Q => ∃ p ys, xs = [.ref p] ∧ (SqL K H p ys ∨ SqT K H p ys) ∧ Q (.int ys.length) H) [.dat (.tup ds)] ρ k := fun as σ H G vs e r Q q => by
  cases r with
  | cons r c =>
    cases c
    obtain ⟨a, vs, rfl, hs, hr⟩ := Rep.tupE r
    refine ⟨a, vs, rfl, .inr (Same.seqT e.gh hs), ?_⟩
    rw [hr.length]
    exact q _ ρ _ as H G hk e .refl (Rep.int _)
/-! new things -/
/-- a new frozen object -/
theorem EnvOk.newG {as : List Addr} {σ : L2.St} {H G : Hp} {p : Addr} {o : HO} (e : EnvOk K F ρ as σ H G) (hp : H p = none) : EnvOk K F ρ as σ (upd H p o) (upd G p o) ∧ Gr G as (upd G p o) as := by
  have gp : G p = none := Same.none e.gh hp
  have fp : F.Fr p = none := Same.none e.fh hp
  have sg : Same G (upd G p o) := Same.new (Same.refl _) gp
  refine ⟨⟨fun a u h => ?_, Same.new e.fh hp, fun a u h => ?_, Same.trans e.g0 sg, e.nd, e.pr, e.ln, fun j c a hc ha => ?_, e.sn, fun i av hi => ?_, ?_⟩, ⟨sg, [], by simp⟩⟩
  · by_cases q : a = p
    · subst q; rw [upd_same] at h ⊢; exact h
    · rw [upd_ne q] at h ⊢; exact e.gh _ _ h
  · by_cases q : a = p
    · subst q; exact .inr fp
    · rw [upd_ne q] at h; exact e.fg _ _ h
  · obtain ⟨f, ⟨u, hu⟩, ok⟩ := e.ce j c a hc ha
    have na : a ≠ p := ne_of_none hu hp
    refine ⟨f, ⟨u, upd_old hp hu⟩, ?_⟩
    cases c with
    | gone => trivial
    | lst ds => obtain ⟨g, vs, h, r⟩ := ok; exact ⟨by rw [upd_ne na]; exact g, vs, upd_old hp h, Reps.mono sg _ _ r⟩
    | ins C9 ns9 ds => obtain ⟨g, dx9, vs, h, ln9, r⟩ := ok; exact ⟨by rw [upd_ne na]; exact g, dx9, vs, upd_old hp h, ln9, Reps.mono sg _ _ r⟩
    | drw => obtain ⟨g, vs, h, r⟩ := ok; exact ⟨by rw [upd_ne na]; exact g, vs, upd_old hp h, r⟩
    | reg t X => show upd G p o a = none; rw [upd_ne na]; exact ok
    | oth X => obtain ⟨g, o9, h, r⟩ := ok; exact ⟨by rw [upd_ne na]; exact g, o9, upd_old hp h, X.mono (fun _ _ z => .inl (sg _ _ z)) r⟩
  · obtain ⟨v, hv, r⟩ := e.sl i av hi
    exact ⟨v, hv, r.mono ⟨sg, [], by simp⟩⟩
  · obtain ⟨Ts, r⟩ := e.rg
    exact ⟨Ts, r.same (fun _ _ _ _ h => upd_old hp h) (fun b u h g => by rw [upd_ne (ne_of_none h hp)]; exact g) (fun _ z => z) fun _ _ z => .inl (sg _ _ z)⟩
/-- a new cell -/
theorem EnvOk.newO {as : List Addr} {σ : L2.St} {H G : Hp} {p : Addr} {o : HO} {c0 : Cell} (e : EnvOk K F ρ as σ H G) (hp : H p = none) (ok0 : G p = none → CellOk K G (upd H p o) p c0) (nr : ∀ t X, c0 ≠ Cell.reg t X := by intro t X z; cases z) : EnvOk K F ⟨ρ.sl, ρ.ce ++ [c0]⟩ (as ++ [p]) σ (upd H p o) G ∧ Gr G as G (as ++ [p]) := by
  have gp : G p = none := Same.none e.gh hp
  have fp : F.Fr p = none := Same.none e.fh hp
  have gr : Gr G as G (as ++ [p]) := ⟨Same.refl _, [p], rfl⟩
  refine ⟨⟨fun a u h => upd_old hp (e.gh _ _ h), Same.new e.fh hp, e.fg, e.g0, ?_, e.pr.trans (List.prefix_append _ _), by rw [List.length_append, List.length_append, e.ln]; rfl, fun j c a hc ha => ?_, e.sn, fun i av hi => ?_, ?_⟩, gr⟩
  · rw [List.nodup_append]
    refine ⟨e.nd, by simp, fun a ha b hb => ?_⟩
    rw [List.mem_singleton] at hb
    subst hb
    obtain ⟨j, hj⟩ := List.getElem?_of_mem ha
    have hl : j < ρ.ce.length := by rw [← e.ln]; exact (List.getElem?_eq_some_iff.mp hj).1
    obtain ⟨_, ⟨u, hu⟩, _⟩ := e.ce j _ a (List.getElem?_eq_getElem hl) hj
    exact ne_of_none hu hp
  · by_cases hj : j < ρ.ce.length
    · rw [List.getElem?_append_left hj] at hc
      rw [List.getElem?_append_left (by rw [e.ln]; exact hj)] at ha
      obtain ⟨f, ⟨u, hu⟩, ok⟩ := e.ce j c a hc ha
      refine ⟨f, ⟨u, upd_old hp hu⟩, ?_⟩
      cases c with
      | gone => trivial
      | lst ds => obtain ⟨g, vs, h, r⟩ := ok; exact ⟨g, vs, upd_old hp h, r⟩
      | ins C9 ns9 ds => obtain ⟨g, dx9, vs, h, ln9, r⟩ := ok; exact ⟨g, dx9, vs, upd_old hp h, ln9, r⟩
      | drw => obtain ⟨g, vs, h, r⟩ := ok; exact ⟨g, vs, upd_old hp h, r⟩
      | reg t X => exact ok
      | oth X => obtain ⟨g, o9, h, r⟩ := ok; exact ⟨g, o9, upd_old hp h, r⟩
    · have hj2 : ρ.ce.length ≤ j := by omega
      rw [List.getElem?_append_right hj2] at hc
      rw [List.getElem?_append_right (by rw [e.ln]; exact hj2), e.ln] at ha
      cases z : j - ρ.ce.length with
      | zero =>
        rw [z] at hc ha
        cases hc
        cases ha
        exact ⟨fp, ⟨_, upd_same⟩, ok0 gp⟩
      | succ m => rw [z] at hc; simp at hc
  · obtain ⟨v, hv, r⟩ := e.sl i av hi
    exact ⟨v, hv, r.mono gr⟩
  · obtain ⟨Ts, r⟩ := e.rg
    exact r.addC e.ln nr (fun i u h => by have := (r.pl i p u h).1; rw [hp] at this; cases this) fun b u _ h => upd_old hp h
theorem EnvOk.newC {as : List Addr} {σ : L2.St} {H G : Hp} {p : Addr} {vs : List V} {ds : List D} (e : EnvOk K F ρ as σ H G) (hp : H p = none) (hr : Reps K G ds vs) : EnvOk K F ⟨ρ.sl, ρ.ce ++ [.lst ds]⟩ (as ++ [p]) σ (upd H p (.lst vs)) G ∧ Gr G as G (as ++ [p]) := e.newO hp fun gp => ⟨gp, vs, upd_same, hr⟩
/-- a cell is written -/
theorem EnvOk.setO {as : List Addr} {σ : L2.St} {H G : Hp} {j : Nat} {a : Addr} {c c' : Cell} {o : HO} (e : EnvOk K F ρ as σ H G) (hj : ρ.ce[j]? = some c) (ha : as[j]? = some a) (g : G a = none) (ok : CellOk K G (upd H a o) a c') (nr : ∀ t X, c' ≠ Cell.reg t X := by intro t X z; cases z) : EnvOk K F ⟨ρ.sl, ρ.ce.set j c'⟩ as σ (upd H a o) G := by
  obtain ⟨fa, ⟨u, hu⟩, _⟩ := e.ce j c a hj ha
  have hl : j < ρ.ce.length := (List.getElem?_eq_some_iff.mp hj).1
  refine ⟨fun b u h => upd_oth (ne_of_none h g) (e.gh _ _ h), fun b u h => upd_oth (ne_of_none h fa) (e.fh _ _ h), e.fg, e.g0, e.nd, e.pr, by rw [e.ln]; exact (List.length_set).symm, fun i c2 b hc hb => ?_, e.sn, e.sl, by obtain ⟨Ts, r⟩ := e.rg; exact r.setC ha nr (fun b u n h => upd_oth n h) (fun _ _ _ _ z => z) (Same.refl _)⟩
  have hc' : (ρ.ce.set j c')[i]? = some c2 := hc
  by_cases hij : j = i
  · subst hij
    rw [List.getElem?_set_self hl] at hc'
    cases hc'
    rw [ha] at hb
    cases hb
    exact ⟨fa, ⟨_, upd_same⟩, ok⟩
  · rw [List.getElem?_set_ne hij] at hc'
    obtain ⟨f, ⟨u2, hu2⟩, ok2⟩ := e.ce i c2 b hc' hb
    have nb : b ≠ a := fun z => by
      subst z
      exact hij ((List.getElem?_inj (List.getElem?_eq_some_iff.mp ha).1 e.nd).mp (ha.trans hb.symm))
    refine ⟨f, ⟨u2, upd_oth nb hu2⟩, ?_⟩
    cases c2 with
    | gone => trivial
    | lst ds => obtain ⟨g, vs, h, r⟩ := ok2; exact ⟨g, vs, upd_oth nb h, r⟩
    | ins C9 ns9 ds => obtain ⟨g, dx9, vs, h, ln9, r⟩ := ok2; exact ⟨g, dx9, vs, upd_oth nb h, ln9, r⟩
    | drw => obtain ⟨g, vs, h, r⟩ := ok2; exact ⟨g, vs, upd_oth nb h, r⟩
    | reg t X => exact ok2
    | oth X => obtain ⟨g, o9, h, r⟩ := ok2; exact ⟨g, o9, upd_oth nb h, r⟩
theorem EnvOk.setC {as : List Addr} {σ : L2.St} {H G : Hp} {j : Nat} {a : Addr} {c c' : Cell} {xs : List V} (e : EnvOk K F ρ as σ H G) (hj : ρ.ce[j]? = some c) (ha : as[j]? = some a) (g : G a = none) (ok : CellOk K G (upd H a (.lst xs)) a c') (nr : ∀ t X, c' ≠ Cell.reg t X := by intro t X z; cases z) : EnvOk K F ⟨ρ.sl, ρ.ce.set j c'⟩ as σ (upd H a (.lst xs)) G := e.setO hj ha g ok nr
mutual
/-- a cell is frozen -/
def frzT (j : Nat) (d : D) : TN → TN
  | .dat e => .dat e
  | .cel i => if i = j then .dat d else .cel i
  | .tup xs => .tup (frzTs j d xs)
def frzTs (j : Nat) (d : D) : List TN → List TN
  | [] => []
  | x :: xs => frzT j d x :: frzTs j d xs
end
def frzA (j : Nat) (d : D) : AV → AV
  | .dat e => .dat e
  | .cel i => if i = j then .dat d else .cel i
  | .tup xs => .tup (frzTs j d xs)
section
variable {G G' : Hp} {as : List Addr} {j : Nat} {a : Addr} {d : D}
mutual
theorem TNr.frz (sg : Same G G') (ha : as[j]? = some a) (ra : Rep K G' d (.ref a)) : ∀ (x : TN) (v : V), TNr K G as x v → TNr K G' as (frzT j d x) v
  | .dat e, v, h => by cases h with | dat r => rw [frzT]; exact .dat (Rep.mono sg _ _ r)
  | .cel i, v, h => by
    cases h with
    | @cel _ b e =>
      rw [frzT]
      by_cases q : i = j
      · subst q
        rw [if_pos rfl]
        rw [ha] at e
        cases e
        exact .dat ra
      · rw [if_neg q]
        exact .cel e
  | .tup xs, v, h => by cases h with | tup s r => rw [frzT]; exact .tup (Same.seqT sg s) (TNs.frz sg ha ra xs _ r)
theorem TNs.frz (sg : Same G G') (ha : as[j]? = some a) (ra : Rep K G' d (.ref a)) : ∀ (xs : List TN) (vs : List V), TNs K G as xs vs → TNs K G' as (frzTs j d xs) vs
  | [], _, h => by cases h; rw [frzTs]; exact .nil
  | x :: xs, _, h => by cases h with | cons a b => rw [frzTs]; exact .cons (TNr.frz sg ha ra x _ a) (TNs.frz sg ha ra xs _ b)
end
end
def En.frzD (ρ : En) (j : Nat) (d : D) : En := ⟨ρ.sl.map (fun o => o.map (frzA j d)), ρ.ce.set j .gone⟩
abbrev En.frz (ρ : En) (j : Nat) (ds : List D) : En := ρ.frzD j (.lst ds)
/-- the data that a cell holds -/
def celD : Cell → Option D
  | .lst ds => some (.lst ds)
  | .ins C ns ds => some (.obj C ns ds)
  | _ => none
theorem EnvOk.frzD {as : List Addr} {σ : L2.St} {H G : Hp} {j : Nat} {a : Addr} {c0 : Cell} {d : D} (e : EnvOk K F ρ as σ H G) (hj : ρ.ce[j]? = some c0) (ha : as[j]? = some a) (hd : celD c0 = some d) : ∃ o, EnvOk K F (ρ.frzD j d) as σ H (upd G a o) ∧ Gr G as (upd G a o) as ∧ Rep K (upd G a o) d (.ref a) := by
  obtain ⟨fa, ⟨u, hu⟩, ok⟩ := e.ce j _ a hj ha
  obtain ⟨g, ra⟩ : G a = none ∧ Rep K (upd G a u) d (.ref a) := by
    cases c0 with
    | gone => cases hd
    | drw => cases hd
    | oth _ => cases hd
    | reg _ _ => cases hd
    | lst ds =>
      cases hd
      obtain ⟨g, vs, hv, hr⟩ := ok
      rw [hu] at hv
      cases hv
      exact ⟨g, .lst upd_same (Reps.mono (Same.new (Same.refl _) g) _ _ hr)⟩
    | ins C ns ds =>
      cases hd
      obtain ⟨g, dx, vs, hv, hl, hr⟩ := ok
      rw [hu] at hv
      cases hv
      exact ⟨g, .obj upd_same hl (Reps.mono (Same.new (Same.refl _) g) _ _ hr)⟩
  have sg : Same G (upd G a u) := Same.new (Same.refl _) g
  have hl : j < ρ.ce.length := (List.getElem?_eq_some_iff.mp hj).1
  refine ⟨u, ⟨fun b o h => ?_, e.fh, fun b o h => ?_, Same.trans e.g0 sg, e.nd, e.pr, by rw [e.ln]; exact (List.length_set).symm, fun i c b hc hb => ?_, by rw [e.sn]; exact (List.length_map _).symm, fun i av hi => ?_, by obtain ⟨Ts, r⟩ := e.rg; exact r.setC ha (fun _ _ z => by cases z) (fun b u _ h => h) (fun b _ n _ z => by rw [upd_ne n]; exact z) sg⟩, ⟨sg, [], by simp⟩, ra⟩
  · by_cases q : b = a
    · subst q; rw [upd_same] at h; cases h; exact hu
    · rw [upd_ne q] at h; exact e.gh _ _ h
  · by_cases q : b = a
    · subst q; exact .inr fa
    · rw [upd_ne q] at h; exact e.fg _ _ h
  · have hc' : (ρ.ce.set j .gone)[i]? = some c := hc
    by_cases hij : j = i
    · subst hij
      rw [List.getElem?_set_self hl] at hc'
      cases hc'
      rw [ha] at hb
      cases hb
      exact ⟨fa, ⟨_, hu⟩, trivial⟩
    · rw [List.getElem?_set_ne hij] at hc'
      obtain ⟨f, hu2, ok2⟩ := e.ce i c b hc' hb
      have nb : b ≠ a := fun z => by
        subst z
        exact hij ((List.getElem?_inj (List.getElem?_eq_some_iff.mp ha).1 e.nd).mp (ha.trans hb.symm))
      refine ⟨f, hu2, ?_⟩
      cases c with
      | gone => trivial
      | lst ds => obtain ⟨g, vs, h, r⟩ := ok2; exact ⟨by rw [upd_ne nb]; exact g, vs, h, Reps.mono sg _ _ r⟩
      | ins C9 ns9 ds => obtain ⟨g, dx9, vs, h, ln9, r⟩ := ok2; exact ⟨by rw [upd_ne nb]; exact g, dx9, vs, h, ln9, Reps.mono sg _ _ r⟩
      | drw => obtain ⟨g, vs, h, r⟩ := ok2; exact ⟨by rw [upd_ne nb]; exact g, vs, h, r⟩
      | reg t X => show upd G a u b = none; rw [upd_ne nb]; exact ok2
      | oth X => obtain ⟨g, o9, h, r⟩ := ok2; exact ⟨by rw [upd_ne nb]; exact g, o9, h, X.mono (fun _ _ z => .inl (sg _ _ z)) r⟩
  · have hi' : (ρ.sl.map (fun o => o.map (frzA j d)))[i]? = some (some av) := hi
    rw [List.getElem?_map] at hi'
    obtain ⟨o, ho, eo⟩ := Option.map_eq_some_iff.mp hi'
    obtain ⟨x, rfl, rfl⟩ := Option.map_eq_some_iff.mp eo
    obtain ⟨v, hv2, r⟩ := e.sl i x ho
    refine ⟨v, hv2, ?_⟩
    cases x with
    | dat d => exact Rep.mono sg _ _ r
    | tup xs =>
      obtain ⟨p, vs, rfl, s, rs⟩ := r
      exact ⟨p, vs, rfl, Same.seqT sg s, TNs.frz sg ha ra _ _ rs⟩
    | cel m =>
      obtain ⟨b, hb, rfl⟩ := r
      show RepA K _ as (if m = j then .dat d else .cel m) _
      by_cases q : m = j
      · subst q
        rw [if_pos rfl]
        rw [ha] at hb
        cases hb
        exact ra
      · rw [if_neg q]
        exact ⟨b, hb, rfl⟩
theorem EnvOk.frz {as : List Addr} {σ : L2.St} {H G : Hp} {j : Nat} {a : Addr} {ds : List D} (e : EnvOk K F ρ as σ H G) (hj : ρ.ce[j]? = some (.lst ds)) (ha : as[j]? = some a) : ∃ o, EnvOk K F (ρ.frz j ds) as σ H (upd G a o) ∧ Gr G as (upd G a o) as ∧ Rep K (upd G a o) (.lst ds) (.ref a) := e.frzD hj ha rfl
/-- values that become data -/
inductive Frz : List AV → En → List D → En → Prop
  | nil {ρ : En} : Frz [] ρ [] ρ
  | dat {d : D} {xs : List AV} {ρ ρ' : En} {ds : List D} : Frz xs ρ ds ρ' → Frz (.dat d :: xs) ρ (d :: ds) ρ'
  | cel {j : Nat} {es : List D} {xs : List AV} {ρ ρ' : En} {ds : List D} : ρ.ce[j]? = some (.lst es) → Frz xs (ρ.frz j es) ds ρ' → Frz (.cel j :: xs) ρ (.lst es :: ds) ρ'
  | ins {j : Nat} {C : Addr} {ns : List Str} {es : List D} {xs : List AV} {ρ ρ' : En} {ds : List D} : ρ.ce[j]? = some (.ins C ns es) → Frz xs (ρ.frzD j (.obj C ns es)) ds ρ' → Frz (.cel j :: xs) ρ (.obj C ns es :: ds) ρ'
theorem Frz.run {xs : List AV} {ρ' : En} {ds : List D} (f : Frz xs ρ ds ρ') : ∀ {as : List Addr} {σ : L2.St} {H G : Hp} {vs : List V}, EnvOk K F ρ as σ H G → RepAs K G as xs vs → ∃ G', EnvOk K F ρ' as σ H G' ∧ Gr G as G' as ∧ Reps K G' ds vs := by
  induction f with
  | nil => intro as σ H G vs e r; cases r; exact ⟨G, e, .refl, .nil⟩
  | dat _ ih =>
    intro as σ H G vs e r
    cases r with
    | cons a b =>
      obtain ⟨G', e', g, r'⟩ := ih e b
      exact ⟨G', e', g, .cons (Rep.mono g.g _ _ a) r'⟩
  | cel hc _ ih =>
    intro as σ H G vs e r
    cases r with
    | cons a b =>
      obtain ⟨p, hp, rfl⟩ := a
      obtain ⟨ws, e1, g1, r1⟩ := e.frz hc hp
      obtain ⟨G', e', g, r'⟩ := ih e1 (b.mono g1)
      exact ⟨G', e', g1.trans g, .cons (Rep.mono g.g _ _ r1) r'⟩
  | ins hc _ ih =>
    intro as σ H G vs e r
    cases r with
    | cons a b =>
      obtain ⟨p, hp, rfl⟩ := a
      obtain ⟨ws, e1, g1, r1⟩ := e.frzD hc hp rfl
      obtain ⟨G', e', g, r'⟩ := ih e1 (b.mono g1)
      exact ⟨G', e', g1.trans g, .cons (Rep.mono g.g _ _ r1) r'⟩
theorem we_tup {t : TA} (h : WpA K F t ρ fun xs ρ1 => ∃ ds ρ2, Frz xs ρ1 ds ρ2 ∧ Nat.ble ds.length 1000 = true ∧ k (.dat (.tup ds)) ρ2) : WpE K F (tTup t) ρ k := fun as σ H G e Q q =>
  h as σ H G e _ fun xs ρ1 vs as1 H1 G1 ⟨ds, ρ2, fz, hl, hk⟩ e1 g1 r1 => by
    obtain ⟨G2, e2, g2, r2⟩ := fz.run e1 r1
    refine ⟨sz (by rw [r2.length]; exact hl), fun p hp => ?_⟩
    obtain ⟨e3, g3⟩ := e2.newG (o := .tup vs) hp
    exact q _ _ _ _ _ _ hk e3 (g1.trans (g2.trans g3)) (Rep.tup (SqT.of upd_same) (Reps.mono g3.g _ _ r2))
def En.add (ρ : En) (ds : List D) : En := ⟨ρ.sl, ρ.ce ++ [.lst ds]⟩
theorem RepA.last {as : List Addr} {G : Hp} {p : Addr} {n : Nat} (h : as.length = n) : RepA K G (as ++ [p]) (.cel n) (.ref p) := ⟨p, by rw [List.getElem?_append_right (by omega), h]; simp, rfl⟩
theorem we_lst {t : TA} (h : WpA K F t ρ fun xs ρ1 => ∃ ds ρ2, Frz xs ρ1 ds ρ2 ∧ Nat.ble ds.length 1000 = true ∧ k (.cel ρ2.ce.length) (ρ2.add ds)) : WpE K F (tLst t) ρ k := fun as σ H G e Q q =>
  h as σ H G e _ fun xs ρ1 vs as1 H1 G1 ⟨ds, ρ2, fz, hl, hk⟩ e1 g1 r1 => by
    obtain ⟨G2, e2, g2, r2⟩ := fz.run e1 r1
    refine ⟨sz (by rw [r2.length]; exact hl), fun p hp => ?_⟩
    obtain ⟨e3, g3⟩ := e2.newC hp r2
    exact q _ _ _ _ _ _ hk e3 (g1.trans (g2.trans g3)) (RepA.last e2.ln)
end
/-! ### rules of the data layer: lists that are written to, loops, comprehensions -/
section
variable {K : PySem.W.Frag} {F : Fx} {ρ : En} {k : AV → En → Prop} {kb : Bool → En → Prop} {ks : KS} {t u : TS} {ta tb te : TE} {tt tu : TT}
def lstC : Cell → Bool
  | .lst _ => true
  | .drw => true
  | _ => false
def En.cell (ρ : En) (j : Nat) (c : Cell) : En := ⟨ρ.sl, ρ.ce.set j c⟩
theorem we_bm {r : V → List V → Hp → VK → Prop} {t : TA} (h : WpE K F ta ρ fun x ρ1 => (∃ j c, x = .cel j ∧ ρ1.ce[j]? = some c ∧ lstC c = true) ∧ WpA K F t ρ1 fun xs ρ2 => WpM K F r x xs ρ2 k) : WpE K F (tBM K "list" r ta t) ρ k := fun as σ H G e Q q =>
  h as σ H G e _ fun x ρ1 vx as1 H1 G1 ⟨⟨j, c, ex, hc, hg⟩, h1⟩ e1 g1 r1 => by
    subst ex
    obtain ⟨a, ha, rfl⟩ := id r1
    refine ⟨.inl ⟨rfl, ?_⟩, h1 as1 σ H1 G1 e1 _ fun xs ρ2 vs as2 H2 G2 h2 e2 g2 r2 => h2 as2 σ H2 G2 _ vs e2 (r1.mono g2) r2 Q (q.imp (g1.trans g2) fun _ _ z => z)⟩
    obtain ⟨_, _, ok⟩ := e1.ce j c a hc ha
    cases c with
    | gone => cases hg
    | oth _ => cases hg
    | reg _ _ => cases hg
    | ins _ _ _ => cases hg
    | lst ds => obtain ⟨_, vs, h, _⟩ := ok; exact ⟨vs, SqL.of h⟩
    | drw => obtain ⟨_, vs, h, _⟩ := ok; exact ⟨vs, SqL.of h⟩
theorem we_bm0 {r : V → List V → Hp → VK → Prop} (h : WpE K F ta ρ fun x ρ1 => (∃ j c, x = .cel j ∧ ρ1.ce[j]? = some c ∧ lstC c = true) ∧ WpM K F r x [] ρ1 k) : WpE K F (tBM0 K "list" r ta) ρ k := fun as σ H G e Q q =>
  h as σ H G e _ fun x ρ1 vx as1 H1 G1 ⟨⟨j, c, ex, hc, hg⟩, h1⟩ e1 g1 r1 => by
    subst ex
    obtain ⟨a, ha, rfl⟩ := id r1
    refine ⟨.inl ⟨rfl, ?_⟩, h1 as1 σ H1 G1 _ [] e1 r1 .nil Q (q.imp g1 fun _ _ z => z)⟩
    obtain ⟨_, _, ok⟩ := e1.ce j c a hc ha
    cases c with
    | gone => cases hg
    | oth _ => cases hg
    | reg _ _ => cases hg
    | ins _ _ _ => cases hg
    | lst ds => obtain ⟨_, vs, h, _⟩ := ok; exact ⟨vs, SqL.of h⟩
    | drw => obtain ⟨_, vs, h, _⟩ := ok; exact ⟨vs, SqL.of h⟩
theorem wm_append {j : Nat} {x : AV} {ds : List D} {d : D} {ρ2 : En} (fz : Frz [x] ρ [d] ρ2) (hc : ρ2.ce[j]? = some (.lst ds)) (hl : ds.length < 16000000) (hk : k (.dat .non) (ρ2.cell j (.lst (ds ++ [d])))) : WpM K F rAppend (.cel j) [x] ρ k := fun as σ H G v vs e r1 r2 Q q => by
  obtain ⟨G2, e2, g2, r3⟩ := fz.run e r2
  obtain ⟨a, ha, rfl⟩ := r1
  cases r3 with
  | cons y z =>
    cases z
    obtain ⟨_, _, g, ws, hw, hr⟩ := e2.ce j _ a hc ha
    refine ⟨a, ws, _, rfl, rfl, hw, szbl (by rw [hr.length]; omega), q _ _ _ as _ G2 hk (e2.setC hc ha g ⟨g, _, upd_same, hr.append (.cons y .nil)⟩) g2 Rep.non⟩
theorem wm_clear {j : Nat} {ds : List D} (hc : ρ.ce[j]? = some (.lst ds)) (hk : k (.dat .non) (ρ.cell j (.lst []))) : WpM K F rClear (.cel j) [] ρ k := fun as σ H G v vs e r1 r2 Q q => by
  obtain ⟨a, ha, rfl⟩ := r1
  cases r2
  obtain ⟨_, _, g, ws, hw, hr⟩ := e.ce j _ a hc ha
  exact ⟨a, ws, rfl, rfl, hw, q _ _ _ as _ G hk (e.setC hc ha g ⟨g, _, upd_same, .nil⟩) .refl Rep.non⟩
/-- the answer is a new list -/
theorem new_list {as : List Addr} {σ : L2.St} {H G : Hp} {p : Addr} {vs : List V} {ds : List D} {Q : VK} (e : EnvOk K F ρ as σ H G) (q : Got K F ρ as σ G k Q) (hr : Reps K G ds vs) (hk : k (.cel ρ.ce.length) (ρ.add ds)) (hp : H p = none) : Q (.ref p) (upd H p (.lst vs)) := by
  obtain ⟨e3, g3⟩ := e.newC hp hr
  exact q _ _ _ _ _ _ hk e3 g3 (RepA.last e.ln)
theorem wc_list {x : AV} {ds : List D} (hx : IsL ρ x ds) (hk : k (.cel ρ.ce.length) (ρ.add ds)) : WpC K F (fun xs H Q => ∃ p ys, xs = [.ref p] ∧ (SqL K H p ys ∨ SqT K H p ys) ∧ ∀ l, H l = none → Q (.ref l) (upd H l (.lst ys))) [x] ρ k := fun as σ H G vs e r Q q => by
  cases r with
  | cons r c =>
    cases c
    obtain ⟨a, vs, rfl, hs, hr⟩ := hx.rep e r
    exact ⟨a, vs, rfl, .inl hs, fun p hp => new_list e q hr hk hp⟩
theorem wc_listT {ds : List D} (hk : k (.cel ρ.ce.length) (ρ.add ds)) : WpC K F (fun xs H Q => ∃ p ys, xs = [.ref p] ∧ (SqL K H p ys ∨ SqT K H p ys) ∧ ∀ l, H l = none → Q (.ref l) (upd H l (.lst ys))) [.dat (.tup ds)] ρ k := fun as σ H G vs e r Q q => by
  cases r with
  | cons r c =>
    cases c
    obtain ⟨a, vs, rfl, hs, hr⟩ := Rep.tupE r
    exact ⟨a, vs, rfl, .inr (Same.seqT e.gh hs), fun p hp => new_list e q hr hk hp⟩
theorem wc_tuple {x : AV} {ds : List D} (hx : IsL ρ x ds) (hk : k (.dat (.tup ds)) ρ) : WpC K F (fun xs H Q => ∃ p ys, xs = [.ref p] ∧ ((SqL K H p ys ∧ ∀ l, H l = none → Q (.ref l) (upd H l (.tup ys))) ∨ (SqT K H p ys ∧ Q (.ref p) H))) [x] ρ k := fun as σ H G vs e r Q q => by
  cases r with
  | cons r c =>
    cases c
    obtain ⟨a, vs, rfl, hs, hr⟩ := hx.rep e r
    refine ⟨a, vs, rfl, .inl ⟨hs, fun p hp => ?_⟩⟩
    obtain ⟨e3, g3⟩ := e.newG (o := .tup vs) hp
    exact q _ _ _ _ _ _ hk e3 g3 (Rep.tup (SqT.of upd_same) (Reps.mono g3.g _ _ hr))
theorem wr_cat {x y : AV} {ds es : List D} (hx : IsL ρ x ds) (hy : IsL ρ y es) (hl : ds.length + es.length ≤ 16000000) (hk : k (.cel ρ.ce.length) (ρ.add (ds ++ es))) : WpR K F (rCatF K) x y ρ k := fun as σ H G vx vy e r1 r2 Q q => by
  obtain ⟨a, vs, rfl, hs, hr⟩ := hx.rep e r1
  obtain ⟨b, ws, rfl, hs2, hr2⟩ := hy.rep e r2
  exact ⟨a, b, vs, ws, rfl, rfl, hs, hs2, szb (by rw [hr.length, hr2.length]; exact hl), fun p hp => new_list e q (hr.append hr2) hk hp⟩
/-- a list that may be copied whole: data, or a cell -/
inductive IsP (ρ : En) : AV → List D → Prop
  | dat (ds : List D) : IsP ρ (.dat (.lst ds)) ds
  | cel {j : Nat} {ds : List D} : ρ.ce[j]? = some (.lst ds) → IsP ρ (.cel j) ds
theorem IsP.rep {as : List Addr} {σ : L2.St} {H G : Hp} {x : AV} {ds : List D} {v : V} (e : EnvOk K F ρ as σ H G) (h : IsP ρ x ds) (r : RepA K G as x v) : ∃ a vs, v = .ref a ∧ H a = some (.lst vs) ∧ Reps K G ds vs := by
  cases h with
  | dat => obtain ⟨a, vs, rfl, hs, hr⟩ := Rep.lstE r; exact ⟨a, vs, rfl, e.gh _ _ hs, hr⟩
  | cel hc =>
    obtain ⟨a, ha, rfl⟩ := r
    obtain ⟨_, _, _, vs, hv, hr⟩ := e.ce _ _ a hc ha
    exact ⟨a, vs, rfl, hv, hr⟩
theorem wr_rep {x : AV} {ds : List D} {n : Int} (hx : IsP ρ x ds) (h0 : 0 ≤ n) (h1 : n < 1000000) (hl : ds.length * n.toNat ≤ 16000000) (hk : k (.cel ρ.ce.length) (ρ.add (List.replicate n.toNat ds).flatten)) : WpR K F rRep x (.dat (.int n)) ρ k := fun as σ H G vx vy e r1 r2 Q q => by
  obtain ⟨a, vs, rfl, hs, hr⟩ := hx.rep e r1
  exact ⟨a, n, vs, rfl, Rep.intE r2, hs, by omega, by omega, szb (by rw [hr.length]; exact hl), fun p hp => new_list e q (hr.rep n.toNat) hk hp⟩
theorem wm_extend {j : Nat} {x : AV} {ds es : List D} (hx : IsP ρ x es) (hc : ρ.ce[j]? = some (.lst ds)) (hl : ds.length + es.length ≤ 16000000) (hk : k (.dat .non) (ρ.cell j (.lst (ds ++ es)))) : WpM K F rExtend (.cel j) [x] ρ k := fun as σ H G v vs e r1 r2 Q q => by
  obtain ⟨a, ha, rfl⟩ := r1
  cases r2 with
  | cons r2 r3 =>
    cases r3
    obtain ⟨b, ws, rfl, hw, hr⟩ := hx.rep e r2
    obtain ⟨_, _, g, us, hu, hr2⟩ := e.ce j _ a hc ha
    exact ⟨a, b, us, ws, rfl, rfl, hu, hw, szb (by rw [hr.length, hr2.length]; omega), q _ _ _ as _ G hk (e.setC hc ha g ⟨g, _, upd_same, hr2.append hr⟩) .refl Rep.non⟩
def cutD (xs : List D) (lo hi : Option Int) : List D := (xs.drop (HT.sIx xs.length 0 lo)).take (HT.sIx xs.length xs.length hi - HT.sIx xs.length 0 lo)
theorem Reps.cut {G : Hp} {ds : List D} {vs : List V} (h : Reps K G ds vs) (lo hi : Option Int) : Reps K G (cutD ds lo hi) (cutV vs lo hi) := by
  unfold cutD cutV
  rw [h.length]
  exact (h.drop _).take _
def WpO (K : PySem.W.Frag) (F : Fx) (t : TO) (ρ : En) (k : Option Int → En → Prop) : Prop := ∀ as σ H G, EnvOk K F ρ as σ H G → ∀ Q : Option Int → Hp → Prop, (∀ b ρ' as' H' G', k b ρ' → EnvOk K F ρ' as' σ H' G' → Gr G as G' as' → Q b H') → t σ H Q
theorem wo_none {ko : Option Int → En → Prop} (h : ko none ρ) : WpO K F tNoPart ρ ko := fun as σ H G e Q q => q _ _ _ _ _ h e .refl
theorem wo_some {ko : Option Int → En → Prop} (h : WpE K F te ρ fun x ρ1 => ∃ i, x = .dat (.int i) ∧ ko (some i) ρ1) : WpO K F (tPart te) ρ ko := fun as σ H G e Q q =>
  h as σ H G e _ fun x ρ1 vx as1 H1 G1 ⟨c, ex, hc⟩ e1 g1 r1 => by
    subst ex
    exact ⟨c, Rep.intE r1, q _ _ _ _ _ hc e1 g1⟩
theorem we_slL {tl th : TO} (h : WpE K F te ρ fun x ρ1 => WpO K F tl ρ1 fun lo ρ2 => WpO K F th ρ2 fun hi ρ3 => ∃ ds, IsL ρ3 x ds ∧ k (.cel ρ3.ce.length) (ρ3.add (cutD ds lo hi))) : WpE K F (tSl (rSlL K) te tl th) ρ k := fun as σ H G e Q q =>
  h as σ H G e _ fun x ρ1 vx as1 H1 G1 h1 e1 g1 r1 => h1 as1 σ H1 G1 e1 _ fun lo ρ2 as2 H2 G2 h2 e2 g2 => h2 as2 σ H2 G2 e2 _ fun hi ρ3 as3 H3 G3 ⟨ds, hd, h3⟩ e3 g3 => by
    obtain ⟨a, vs, rfl, hs, hr⟩ := hd.rep e3 (r1.mono (g2.trans g3))
    exact ⟨a, vs, rfl, hs, fun p hp => new_list e3 (q.imp (g1.trans (g2.trans g3)) fun _ _ z => z) (hr.cut lo hi) h3 hp⟩
/-! what is walked -/
def ItS (K : PySem.W.Frag) (F : Fx) (J : It) (ds : List D) (gd : En → Prop) (as0 : List Addr) (G0 : Hp) : Prop := ∀ ρ as σ H G, EnvOk K F ρ as σ H G → Gr G0 as0 G as → gd ρ →
  (∀ i, i < ds.length → J.go i H) ∧ J.stop ds.length H ∧ ∀ i x H', i < ds.length → J.yld i H x H' → ∃ d G', ds[i]? = some d ∧ (∀ σ', EnvOk K F ρ as σ' H G → EnvOk K F ρ as σ' H' G') ∧ Gr G as G' as ∧ Rep K G' d x
def WpI (K : PySem.W.Frag) (F : Fx) (wi : TI) (ρ : En) (k : List D → (En → Prop) → En → Prop) : Prop := ∀ as σ H G, EnvOk K F ρ as σ H G → ∀ R : It → Hp → Prop, (∀ ds gd J ρ' as' H' G', k ds gd ρ' → EnvOk K F ρ' as' σ H' G' → Gr G as G' as' → ItS K F J ds gd as' G' → R J H') → wi σ H R
theorem wi_list {ki : List D → (En → Prop) → En → Prop} {tl : TE} (h : WpE K F tl ρ fun x ρ1 => ∃ ds, IsL ρ1 x ds ∧ ki ds (fun ρ2 => IsL ρ2 x ds) ρ1) : WpI K F (iList K tl) ρ ki := fun as σ H G e R q =>
  h as σ H G e _ fun x ρ1 vx as1 H1 G1 ⟨ds, hx, h1⟩ e1 g1 r1 => by
    obtain ⟨a, vs, rfl, hs, hr⟩ := hx.rep e1 r1
    refine ⟨a, rfl, ⟨vs, hs⟩, q _ _ _ _ _ _ _ h1 e1 g1 fun ρ2 as2 σ2 H2 G2 e2 g2 hx2 => ?_⟩
    obtain ⟨a2, ws, ea, hs2, hr2⟩ := hx2.rep e2 (r1.mono g2)
    cases ea
    have w := walk_list (K := K) (a := a) (xs := ws)
    rw [hr2.length] at w
    refine ⟨fun i hi => w.goes i H2 hi hs2, w.stops H2 hs2, fun i x H' hi y => ?_⟩
    obtain ⟨rfl, hx⟩ := w.yields i H2 x H' hi hs2 y
    obtain ⟨d, hd⟩ : ∃ d, ds[i]? = some d := ⟨_, List.getElem?_eq_getElem hi⟩
    obtain ⟨v, hv, rv⟩ := hr2.get hd
    rw [hx] at hv
    cases hv
    exact ⟨d, G2, hd, fun _ z => z, .refl, rv⟩
theorem wi_tup {ki : List D → (En → Prop) → En → Prop} {tl : TE} (h : WpE K F tl ρ fun x ρ1 => ∃ ds, x = .dat (.tup ds) ∧ ki ds (fun _ => True) ρ1) : WpI K F (iTup K tl) ρ ki := fun as σ H G e R q =>
  h as σ H G e _ fun x ρ1 vx as1 H1 G1 ⟨ds, ex, h1⟩ e1 g1 r1 => by
    subst ex
    obtain ⟨a, vs, rfl, hs, hr⟩ := Rep.tupE r1
    refine ⟨a, rfl, ⟨vs, Same.seqT e1.gh hs⟩, q _ _ _ _ _ _ _ h1 e1 g1 fun ρ2 as2 σ2 H2 G2 e2 g2 _ => ?_⟩
    have hs2 := Same.seqT (Same.trans g2.g e2.gh) hs
    have w := walk_tup (K := K) (a := a) (xs := vs)
    rw [hr.length] at w
    refine ⟨fun i hi => w.goes i H2 hi hs2, w.stops H2 hs2, fun i x H' hi y => ?_⟩
    obtain ⟨rfl, hx⟩ := w.yields i H2 x H' hi hs2 y
    obtain ⟨d, hd⟩ : ∃ d, ds[i]? = some d := ⟨_, List.getElem?_eq_getElem hi⟩
    obtain ⟨v, hv, rv⟩ := hr.get hd
    rw [hx] at hv
    cases hv
    exact ⟨d, G2, hd, fun _ z => z, .refl, Rep.mono g2.g _ _ rv⟩
def rngD (lo : Int) (n : Nat) : List D := (List.range n).map fun (i : Nat) => D.int (lo + i)
theorem its_range {lo : Int} {n : Nat} {as : List Addr} {G : Hp} : ItS K F (Itr lo n) (rngD lo n) (fun _ => True) as G := fun ρ2 as2 σ2 H2 G2 e2 g2 _ => by
  have w := walk_range (lo := lo) (n := n)
  have ln : (rngD lo n).length = n := by unfold rngD; rw [List.length_map, List.length_range]
  refine ⟨fun i hi => w.goes i H2 (ln ▸ hi) trivial, by rw [ln]; exact w.stops H2 trivial, fun i x H' hi y => ?_⟩
  obtain ⟨rfl, rfl⟩ := w.yields i H2 x H' (ln ▸ hi) trivial y
  exact ⟨.int (lo + i), G2, by unfold rngD; rw [List.getElem?_map, List.getElem?_range (ln ▸ hi)]; rfl, fun _ z => z, .refl, Rep.int _⟩
theorem wi_rng1 {ki : List D → (En → Prop) → En → Prop} {t : TA} (h : WpA K F t ρ fun xs ρ1 => ∃ j : Int, xs = [.dat (.int j)] ∧ (-(2 ^ 62) ≤ j ∧ j < 2 ^ 62) ∧ ki (rngD 0 j.toNat) (fun _ => True) ρ1) : WpI K F (iRng1 t) ρ ki := fun as σ H G e R q =>
  h as σ H G e _ fun xs ρ1 vs as1 H1 G1 ⟨j, ex, hj, h1⟩ e1 g1 r1 => by
    subst ex
    cases r1 with
    | cons a b => cases b; exact ⟨j, by rw [Rep.intE a], hj.1, hj.2, q _ _ _ _ _ _ _ h1 e1 g1 its_range⟩
theorem wi_rng2 {ki : List D → (En → Prop) → En → Prop} {t : TA} (h : WpA K F t ρ fun xs ρ1 => ∃ i j : Int, xs = [.dat (.int i), .dat (.int j)] ∧ (-(2 ^ 62) ≤ i ∧ i < 2 ^ 62 ∧ -(2 ^ 62) ≤ j ∧ j < 2 ^ 62) ∧ ki (rngD i (j - i).toNat) (fun _ => True) ρ1) : WpI K F (iRng2 t) ρ ki := fun as σ H G e R q =>
  h as σ H G e _ fun xs ρ1 vs as1 H1 G1 ⟨i, j, ex, hj, h1⟩ e1 g1 r1 => by
    subst ex
    cases r1 with
    | cons a b => cases b with | cons b c => cases c; exact ⟨i, j, by rw [Rep.intE a, Rep.intE b], hj, q _ _ _ _ _ _ _ h1 e1 g1 its_range⟩
/-! for -/
/-- cells that a turn made are forgotten -/
def truA (n : Nat) : AV → Option AV
  | .cel j => if j < n then some (.cel j) else none
  | .dat d => some (.dat d)
  | .tup _ => none
theorem pre_take {α : Type} {xs ys : List α} {n : Nat} (h : xs <+: ys) (hn : xs.length ≤ n) : xs <+: ys.take n := by
  obtain ⟨r, rfl⟩ := h
  rw [List.take_append, List.take_of_length_le hn]
  exact List.prefix_append _ _
def En.trunc (ρ : En) (n : Nat) : En := ⟨ρ.sl.map (fun o => o.bind (truA n)), ρ.ce.take n⟩
theorem EnvOk.trunc {as : List Addr} {σ : L2.St} {H G : Hp} (e : EnvOk K F ρ as σ H G) (n : Nat) (hn : F.as0.length ≤ n) : EnvOk K F (ρ.trunc n) (as.take n) σ H G := by
  refine ⟨e.gh, e.fh, e.fg, e.g0, List.Nodup.sublist (List.take_sublist n as) e.nd, pre_take e.pr hn, ?_, fun j c a hc ha => ?_, ?_, fun i av hi => ?_, ?_⟩
  · show (as.take n).length = (ρ.ce.take n).length
    rw [List.length_take, List.length_take, e.ln]
  · have hc : (ρ.ce.take n)[j]? = some c := hc
    rw [List.getElem?_take] at hc ha
    split at hc
    · rename_i h
      rw [if_pos h] at ha
      exact e.ce j c a hc ha
    · cases hc
  · show σ.length = (ρ.sl.map _).length
    rw [List.length_map]
    exact e.sn
  · have hi : (ρ.sl.map (fun o => o.bind (truA n)))[i]? = some (some av) := hi
    rw [List.getElem?_map] at hi
    obtain ⟨o, ho, eo⟩ := Option.map_eq_some_iff.mp hi
    obtain ⟨x, rfl, ex⟩ := Option.bind_eq_some_iff.mp eo
    obtain ⟨v, hv, r⟩ := e.sl i x ho
    refine ⟨v, hv, ?_⟩
    cases x with
    | dat d => cases ex; exact r
    | tup xs => cases ex
    | cel j =>
      have ex : (if j < n then some (AV.cel j) else none) = some av := ex
      split at ex
      · rename_i h
        cases ex
        obtain ⟨a, ha, rfl⟩ := r
        exact ⟨a, by rw [List.getElem?_take, if_pos h]; exact ha, rfl⟩
      · cases ex
  · obtain ⟨Ts, r⟩ := e.rg
    refine r.sub (fun i t X h => ?_) (fun i b h => ?_) (fun i t X b o _ hb => ⟨(r.pl i b o hb).1, (r.pl i b o hb).2.1, (r.pl i b o hb).2.2.1⟩) (fun _ _ z => .inl z)
    · have h : (ρ.ce.take n)[i]? = some (Cell.reg t X) := h
      rw [List.getElem?_take] at h
      split at h
      · rename_i hi
        exact ⟨h, by rw [List.getElem?_take, if_pos hi]⟩
      · cases h
    · rw [List.getElem?_take] at h
      split at h
      · exact .inr h
      · cases h
theorem Gr.trunc {G0 G : Hp} {as0 as : List Addr} {n : Nat} (g : Gr G0 as0 G as) (h : as0.length ≤ n) : Gr G0 as0 G (as.take n) := by
  obtain ⟨g, r, rfl⟩ := g
  exact ⟨g, r.take (n - as0.length), by rw [List.take_append, List.take_of_length_le h]⟩
/-- .. all but one, which is then the next -/
def kepA (n j : Nat) : AV → Option AV
  | .cel i => if i = j then some (.cel n) else if i < n then some (.cel i) else none
  | .dat d => some (.dat d)
  | .tup _ => none
def En.keep (ρ : En) (n j : Nat) : En := ⟨ρ.sl.map (fun o => o.bind (kepA n j)), ρ.ce.take n ++ (ρ.ce[j]?).toList⟩
theorem EnvOk.keep {as : List Addr} {σ : L2.St} {H G : Hp} (e : EnvOk K F ρ as σ H G) {n j : Nat} (hn : F.as0.length ≤ n) (h1 : n ≤ j) (h2 : j < ρ.ce.length) : EnvOk K F (ρ.keep n j) (as.take n ++ (as[j]?).toList) σ H G := by
  have ja : j < as.length := by rw [e.ln]; exact h2
  have ea : as[j]? = some as[j] := List.getElem?_eq_getElem ja
  have ec : ρ.ce[j]? = some ρ.ce[j] := List.getElem?_eq_getElem h2
  have la : (as.take n).length = n := by rw [List.length_take]; omega
  have lc : (ρ.ce.take n).length = n := by rw [List.length_take]; omega
  have at_a : ∀ i, (as.take n ++ (as[j]?).toList)[i]? = if i < n then as[i]? else if i = n then some as[j] else none := fun i => by
    rw [ea]
    by_cases c : i < n
    · rw [if_pos c, List.getElem?_append_left (by rw [la]; exact c), List.getElem?_take, if_pos c]
    · rw [if_neg c, List.getElem?_append_right (by rw [la]; omega), la]
      by_cases c2 : i = n
      · rw [if_pos c2, c2, Nat.sub_self]; rfl
      · rw [if_neg c2]
        exact List.getElem?_eq_none (by show 1 ≤ i - n; omega)
  have at_c : ∀ i, (ρ.ce.take n ++ (ρ.ce[j]?).toList)[i]? = if i < n then ρ.ce[i]? else if i = n then some ρ.ce[j] else none := fun i => by
    rw [ec]
    by_cases c : i < n
    · rw [if_pos c, List.getElem?_append_left (by rw [lc]; exact c), List.getElem?_take, if_pos c]
    · rw [if_neg c, List.getElem?_append_right (by rw [lc]; omega), lc]
      by_cases c2 : i = n
      · rw [if_pos c2, c2, Nat.sub_self]; rfl
      · rw [if_neg c2]
        exact List.getElem?_eq_none (by show 1 ≤ i - n; omega)
  have sub : (as.take n ++ (as[j]?).toList).Sublist as := by
    rw [ea]
    conv => rhs; rw [← List.take_append_drop n as]
    refine List.Sublist.append (List.Sublist.refl _) (List.singleton_sublist.mpr ?_)
    refine List.mem_of_getElem? (i := j - n) ?_
    rw [List.getElem?_drop, show n + (j - n) = j by omega]
    exact ea
  refine ⟨e.gh, e.fh, e.fg, e.g0, List.Nodup.sublist sub e.nd, (pre_take e.pr hn).trans (List.prefix_append _ _), ?_, fun i c a hc ha => ?_, ?_, fun i av hi => ?_, ?_⟩
  · show (as.take n ++ _).length = (ρ.ce.take n ++ _).length
    rw [List.length_append, List.length_append, la, lc, ea, ec]; rfl
  · have hc : (ρ.ce.take n ++ (ρ.ce[j]?).toList)[i]? = some c := hc
    rw [at_c] at hc
    rw [at_a] at ha
    split at hc
    · rename_i h
      rw [if_pos h] at ha
      exact e.ce i c a hc ha
    · rename_i h
      rw [if_neg h] at ha
      split at hc
      · rename_i h3
        rw [if_pos h3] at ha
        exact e.ce j c a (ec.trans hc) (ea.trans ha)
      · cases hc
  · show σ.length = (ρ.sl.map _).length
    rw [List.length_map]
    exact e.sn
  · have hi : (ρ.sl.map (fun o => o.bind (kepA n j)))[i]? = some (some av) := hi
    rw [List.getElem?_map] at hi
    obtain ⟨o, ho, eo⟩ := Option.map_eq_some_iff.mp hi
    obtain ⟨x, rfl, ex⟩ := Option.bind_eq_some_iff.mp eo
    obtain ⟨v, hv, r⟩ := e.sl i x ho
    refine ⟨v, hv, ?_⟩
    cases x with
    | dat d => cases ex; exact r
    | tup xs => cases ex
    | cel k =>
      have ex : (if k = j then some (AV.cel n) else if k < n then some (AV.cel k) else none) = some av := ex
      obtain ⟨a, ha, rfl⟩ := r
      split at ex
      · rename_i h
        cases ex
        subst h
        exact ⟨a, by rw [at_a, if_neg (Nat.lt_irrefl _), if_pos rfl]; exact ea.symm.trans ha, rfl⟩
      · split at ex
        · rename_i h
          cases ex
          exact ⟨a, by rw [at_a, if_pos h]; exact ha, rfl⟩
        · cases ex
  · obtain ⟨Ts, r⟩ := e.rg
    have at_g : ∀ i t X, (ρ.keep n j).ce[i]? = some (Cell.reg t X) → (i < n ∧ ρ.ce[i]? = some (Cell.reg t X)) ∨ (i = n ∧ ρ.ce[j]? = some (Cell.reg t X)) := fun i t X h => by
      have h : (ρ.ce.take n ++ (ρ.ce[j]?).toList)[i]? = some (Cell.reg t X) := h
      rw [at_c] at h
      split at h
      · rename_i q; exact .inl ⟨q, h⟩
      · split at h
        · rename_i q; exact .inr ⟨q, by rw [ec]; exact h⟩
        · cases h
    refine ⟨_, r.map (fun i => match (ρ.keep n j).ce[i]? with | some (.reg _ _) => (if i < n then some i else some j) | _ => none) (fun i t X h => ?_) (fun i i0 h => ?_) (fun i k l h1 h2 => ?_) (fun i b h => ?_) (fun i i0 b o h hb => ⟨(r.pl i0 b o hb).1, (r.pl i0 b o hb).2.1, (r.pl i0 b o hb).2.2.1⟩) (fun _ _ z => .inl z)⟩
    · rcases at_g i t X h with ⟨q, z⟩ | ⟨q, z⟩
      · exact ⟨i, by simp only [h, if_pos q], z, by rw [at_a, if_pos q]⟩
      · subst q
        exact ⟨j, by simp only [h, if_neg (Nat.lt_irrefl _)], z, by rw [at_a, if_neg (Nat.lt_irrefl _), if_pos rfl, ea]⟩
    · split at h
      · rename_i t X z; exact ⟨t, X, z⟩
      · cases h
    · have lt : ∀ {i l}, (match (ρ.keep n j).ce[i]? with | some (.reg _ _) => (if i < n then some i else some j) | _ => none) = some l → (i < n ∧ l = i) ∨ (i = n ∧ l = j) := fun {i l} h => by
        split at h
        · rename_i t X z
          rcases at_g i t X z with ⟨q, _⟩ | ⟨q, _⟩
          · rw [if_pos q] at h; cases h; exact .inl ⟨q, rfl⟩
          · rw [if_neg (by omega)] at h; cases h; exact .inr ⟨q, rfl⟩
        · cases h
      rcases lt h1 with ⟨a1, a2⟩ | ⟨a1, a2⟩ <;> rcases lt h2 with ⟨b1, b2⟩ | ⟨b1, b2⟩ <;> omega
    · refine .inr ?_
      rw [at_a] at h
      split at h
      · rename_i q
        refine ⟨i, h, fun k hk => ?_⟩
        split at hk
        · split at hk
          · cases hk; rfl
          · cases hk; omega
        · cases hk
      · split at h
        · rename_i q
          refine ⟨j, by rw [ea]; exact h, fun k hk => ?_⟩
          split at hk
          · rename_i t X z
            rcases at_g k t X z with ⟨q2, _⟩ | ⟨q2, _⟩
            · rw [if_pos q2] at hk; cases hk; omega
            · omega
          · cases hk
        · cases h
theorem Gr.keep {G0 G : Hp} {as0 as r : List Addr} {n : Nat} (g : Gr G0 as0 G as) (h : as0.length ≤ n) : Gr G0 as0 G (as.take n ++ r) := by
  obtain ⟨g, s, rfl⟩ := g
  exact ⟨g, s.take (n - as0.length) ++ r, by rw [List.take_append, List.take_of_length_le h, List.append_assoc]⟩
/-- .. the cells from n to j are forgotten, what stands behind them moves up -/
def drpA (n j : Nat) : AV → Option AV
  | .cel i => if i < n then some (.cel i) else if i < j then none else some (.cel (i - (j - n)))
  | .dat d => some (.dat d)
  | .tup _ => none
def En.drp (ρ : En) (n j : Nat) : En := ⟨ρ.sl.map (fun o => o.bind (drpA n j)), ρ.ce.take n ++ ρ.ce.drop j⟩
theorem EnvOk.drp {as : List Addr} {σ : L2.St} {H G : Hp} (e : EnvOk K F ρ as σ H G) {n j : Nat} (hn : F.as0.length ≤ n) (h1 : n ≤ j) (h2 : j ≤ ρ.ce.length) : EnvOk K F (ρ.drp n j) (as.take n ++ as.drop j) σ H G := by
  have gen : ∀ {α : Type} (l : List α) (i : Nat), j ≤ l.length → (l.take n ++ l.drop j)[i]? = if i < n then l[i]? else l[i + (j - n)]? := fun l i hl => by
    have lt : (l.take n).length = n := by rw [List.length_take]; omega
    by_cases c : i < n
    · rw [if_pos c, List.getElem?_append_left (by rw [lt]; exact c), List.getElem?_take, if_pos c]
    · rw [if_neg c, List.getElem?_append_right (by rw [lt]; omega), lt, List.getElem?_drop]
      congr 1
      omega
  have ja : j ≤ as.length := by rw [e.ln]; exact h2
  have at_a := fun i => gen as i ja
  have at_c := fun i => gen ρ.ce i h2
  have sub : (as.take n ++ as.drop j).Sublist as := by
    conv => rhs; rw [← List.take_append_drop n as]
    refine List.Sublist.append (List.Sublist.refl _) ?_
    rw [show j = n + (j - n) by omega, ← List.drop_drop]
    exact List.drop_sublist _ _
  refine ⟨e.gh, e.fh, e.fg, e.g0, List.Nodup.sublist sub e.nd, (pre_take e.pr hn).trans (List.prefix_append _ _), ?_, fun i c a hc ha => ?_, ?_, fun i av hi => ?_, ?_⟩
  · show (as.take n ++ as.drop j).length = (ρ.ce.take n ++ ρ.ce.drop j).length
    rw [List.length_append, List.length_append, List.length_take, List.length_take, List.length_drop, List.length_drop, e.ln]
  · have hc : (ρ.ce.take n ++ ρ.ce.drop j)[i]? = some c := hc
    rw [at_c] at hc
    rw [at_a] at ha
    split at hc
    · rename_i q; rw [if_pos q] at ha; exact e.ce i c a hc ha
    · rename_i q; rw [if_neg q] at ha; exact e.ce _ c a hc ha
  · show σ.length = (ρ.sl.map _).length
    rw [List.length_map]
    exact e.sn
  · have hi : (ρ.sl.map (fun o => o.bind (drpA n j)))[i]? = some (some av) := hi
    rw [List.getElem?_map] at hi
    obtain ⟨o, ho, eo⟩ := Option.map_eq_some_iff.mp hi
    obtain ⟨x, rfl, ex⟩ := Option.bind_eq_some_iff.mp eo
    obtain ⟨v, hv, r⟩ := e.sl i x ho
    refine ⟨v, hv, ?_⟩
    cases x with
    | dat d => cases ex; exact r
    | tup xs => cases ex
    | cel k =>
      have ex : (if k < n then some (AV.cel k) else if k < j then none else some (AV.cel (k - (j - n)))) = some av := ex
      obtain ⟨a, ha, rfl⟩ := r
      split at ex
      · rename_i q
        cases ex
        exact ⟨a, by rw [at_a, if_pos q]; exact ha, rfl⟩
      · split at ex
        · cases ex
        · rename_i q1 q2
          cases ex
          exact ⟨a, by rw [at_a, if_neg (by omega), show k - (j - n) + (j - n) = k by omega]; exact ha, rfl⟩
  · obtain ⟨Ts, r⟩ := e.rg
    refine ⟨_, r.map (fun i => match (ρ.drp n j).ce[i]? with | some (.reg _ _) => (if i < n then some i else some (i + (j - n))) | _ => none) (fun i t X h => ?_) (fun i i0 h => ?_) (fun i k l h1 h2 => ?_) (fun i b h => ?_) (fun i i0 b o h hb => ⟨(r.pl i0 b o hb).1, (r.pl i0 b o hb).2.1, (r.pl i0 b o hb).2.2.1⟩) (fun _ _ z => .inl z)⟩
    · have hc : (ρ.ce.take n ++ ρ.ce.drop j)[i]? = some (Cell.reg t X) := h
      rw [at_c] at hc
      by_cases q : i < n
      · rw [if_pos q] at hc
        exact ⟨i, by simp only [h, if_pos q], hc, by rw [at_a, if_pos q]⟩
      · rw [if_neg q] at hc
        exact ⟨_, by simp only [h, if_neg q], hc, by rw [at_a, if_neg q]⟩
    · split at h
      · rename_i t X z; exact ⟨t, X, z⟩
      · cases h
    · have lt : ∀ {i l}, (match (ρ.drp n j).ce[i]? with | some (.reg _ _) => (if i < n then some i else some (i + (j - n))) | _ => none) = some l → (i < n ∧ l = i) ∨ (n ≤ i ∧ l = i + (j - n)) := fun {i l} h => by
        split at h
        · by_cases q : i < n
          · rw [if_pos q] at h; cases h; exact .inl ⟨q, rfl⟩
          · rw [if_neg q] at h; cases h; exact .inr ⟨by omega, rfl⟩
        · cases h
      rcases lt h1 with ⟨a1, a2⟩ | ⟨a1, a2⟩ <;> rcases lt h2 with ⟨b1, b2⟩ | ⟨b1, b2⟩ <;> omega
    · refine .inr ?_
      rw [at_a] at h
      split at h
      · rename_i q
        refine ⟨i, h, fun k hk => ?_⟩
        split at hk
        · split at hk
          · cases hk; rfl
          · cases hk; omega
        · cases hk
      · rename_i q
        refine ⟨_, h, fun k hk => ?_⟩
        split at hk
        · split at hk
          · have := Option.some.inj hk; omega
          · have := Option.some.inj hk; omega
        · cases hk
/-- a turn's end: as it is, or without the turn's own cells -/
inductive Tr (n : Nat) (ρ : En) : En → Prop
  | all : Tr n ρ ρ
  | cut : Tr n ρ (ρ.trunc n)
  | keep (j : Nat) (h1 : n ≤ j) (h2 : j < ρ.ce.length) : Tr n ρ (ρ.keep n j)
  | drop (j : Nat) (h1 : n ≤ j) (h2 : j ≤ ρ.ce.length) : Tr n ρ (ρ.drp n j)
theorem Tr.run {n : Nat} {ρ' : En} {as as0 : List Addr} {σ : L2.St} {H G G0 : Hp} (t : Tr n ρ ρ') (e : EnvOk K F ρ as σ H G) (g : Gr G0 as0 G as) (h : as0.length ≤ n) (h0 : F.as0.length ≤ n) : ∃ as', EnvOk K F ρ' as' σ H G ∧ Gr G0 as0 G as' := by
  cases t with
  | all => exact ⟨as, e, g⟩
  | cut => exact ⟨_, e.trunc n h0, g.trunc h⟩
  | keep j h1 h2 => exact ⟨_, e.keep h0 h1 h2, g.keep h⟩
  | drop j h1 h2 => exact ⟨_, e.drp h0 h1 h2, g.keep h⟩
def Loop (K : PySem.W.Frag) (F : Fx) (n : Nat) (gd : En → Prop) (g : TG) (tb : TS) (ks : KS) : List D → En → Prop
  | [], ρ => gd ρ ∧ ks.nx ρ
  | d :: ds, ρ => gd ρ ∧ WpG K F g (.dat d) ρ fun ρ1 => WpS K F tb ρ1 { nx := fun ρ2 => ∃ ρ3, Tr n ρ2 ρ3 ∧ Loop K F n gd g tb ks ds ρ3, rt := ks.rt, ct := fun ρ2 => ∃ ρ3, Tr n ρ2 ρ3 ∧ Loop K F n gd g tb ks ds ρ3, bk := ks.nx }
theorem Loop.gd {n : Nat} {gd : En → Prop} {g : TG} {tb : TS} : ∀ {ds : List D} {ρ : En}, Loop K F n gd g tb ks ds ρ → gd ρ
  | [], _, h => h.1
  | _ :: _, _, h => h.1
theorem ws_for {wi : TI} {g : TG} {tb : TS} (h : WpI K F wi ρ fun ds gd ρ1 => Loop K F ρ1.ce.length gd g tb ks ds ρ1) : WpS K F (tFor wi g tb) ρ ks := fun as σ H G e D q =>
  h as σ H G e _ fun ds gd J ρ1 as1 H1 G1 h1 e1 g1 its => by
    have ln1 : as1.length ≤ ρ1.ce.length := by rw [e1.ln]; exact Nat.le_refl _
    have ln0 : F.as0.length ≤ ρ1.ce.length := Nat.le_trans e1.pr.length_le ln1
    refine ⟨fun i m σ' H' => m = ds.length - i ∧ i ≤ ds.length ∧ ∃ ρ2 as2 G2, EnvOk K F ρ2 as2 σ' H' G2 ∧ Gr G1 as1 G2 as2 ∧ Loop K F ρ1.ce.length gd g tb ks (ds.drop i) ρ2, ⟨_, rfl, Nat.zero_le _, ρ1, as1, G1, e1, .refl, h1⟩, ?_⟩
    rintro i m σ' H' ⟨rfl, hi, ρ2, as2, G2, e2, g2, lp⟩
    obtain ⟨go, st, yl⟩ := its ρ2 as2 σ' H' G2 e2 g2 lp.gd
    by_cases hlt : i < ds.length
    · obtain ⟨d, hd⟩ : ∃ d, ds[i]? = some d := ⟨_, List.getElem?_eq_getElem hlt⟩
      have ed : ds.drop i = d :: ds.drop (i + 1) := by
        rw [List.drop_eq_getElem_cons hlt]
        rw [List.getElem?_eq_getElem hlt] at hd
        cases hd
        rfl
      rw [ed] at lp
      refine .inr ⟨go i hlt, fun σ3 H3 => ∃ ρ3 as3 G3, EnvOk K F ρ3 as3 σ3 H3 G3 ∧ Gr G1 as1 G3 as3 ∧ Loop K F ρ1.ce.length gd g tb ks (ds.drop (i + 1)) ρ3, fun σ3 H3 ⟨ρ3, as3, G3, e3, g3, l3⟩ => ⟨_, by omega, rfl, hlt, ρ3, as3, G3, e3, g3, l3⟩, fun x H3 y => ?_⟩
      obtain ⟨d', G3, hd', e3, g3, rx⟩ := yl i x H3 hlt y
      rw [hd] at hd'
      cases hd'
      refine lp.2 as2 σ' H3 G3 x (e3 _ e2) rx _ fun ρ4 as4 σ4 H4 G4 h4 e4 g4 => ?_
      refine h4 as4 σ4 H4 G4 e4 _ ⟨fun ρ5 as5 σ5 H5 G5 ⟨ρ6, tr, h5⟩ e5 g5 => ?_, fun av ρ5 v as5 σ5 H5 G5 h5 e5 g5 r5 => q.rt av ρ5 v as5 σ5 H5 G5 h5 e5 (g1.trans (g2.trans (g3.trans (g4.trans g5)))) r5, fun ρ5 as5 σ5 H5 G5 h5 e5 g5 => q.nx ρ5 as5 σ5 H5 G5 h5 e5 (g1.trans (g2.trans (g3.trans (g4.trans g5)))), fun ρ5 as5 σ5 H5 G5 ⟨ρ6, tr, h5⟩ e5 g5 => ?_, q.fr⟩
      · obtain ⟨as6, e6, g6⟩ := tr.run e5 (g2.trans (g3.trans (g4.trans g5))) ln1 ln0
        exact ⟨ρ6, as6, G5, e6, g6, h5⟩
      · obtain ⟨as6, e6, g6⟩ := tr.run e5 (g2.trans (g3.trans (g4.trans g5))) ln1 ln0
        exact ⟨ρ6, as6, G5, e6, g6, h5⟩
    · have ei : i = ds.length := by omega
      subst ei
      rw [List.drop_length] at lp
      exact .inl ⟨st, q.nx ρ2 as2 σ' H' G2 lp.2 e2 (g1.trans g2)⟩
/-! while -/
theorem ws_while {tc : TT} {tb : TS} (W : Nat → En → Prop) (m0 : Nat) (h0 : W m0 ρ) (hs : ∀ m ρ1, W m ρ1 → WpT K F tc ρ1 fun b ρ2 => if b = true then WpS K F tb ρ2 { nx := fun ρ3 => ∃ m', m' < m ∧ W m' ρ3, rt := ks.rt, ct := fun ρ3 => ∃ m', m' < m ∧ W m' ρ3, bk := ks.nx } else ks.nx ρ2) : WpS K F (tWhile tc tb) ρ ks := fun as σ H G e D q => by
  refine ⟨fun m σ' H' => ∃ ρ2 as2 G2, EnvOk K F ρ2 as2 σ' H' G2 ∧ Gr G as G2 as2 ∧ W m ρ2, ⟨m0, ρ, as, G, e, .refl, h0⟩, ?_⟩
  rintro m σ' H' ⟨ρ2, as2, G2, e2, g2, hw⟩
  refine hs m ρ2 hw as2 σ' H' G2 e2 _ fun b ρ3 as3 H3 G3 h3 e3 g3 => ?_
  cases b with
  | true =>
    refine ⟨fun σ4 H4 => ∃ m', m' < m ∧ ∃ ρ4 as4 G4, EnvOk K F ρ4 as4 σ4 H4 G4 ∧ Gr G as G4 as4 ∧ W m' ρ4, fun σ4 H4 z => z, ?_⟩
    refine (show WpS K F tb ρ3 _ from h3) as3 σ' H3 G3 e3 _ ⟨fun ρ4 as4 σ4 H4 G4 ⟨m', hm, w4⟩ e4 g4 => ⟨m', hm, ρ4, as4, G4, e4, g2.trans (g3.trans g4), w4⟩, fun av ρ4 v as4 σ4 H4 G4 h4 e4 g4 r4 => q.rt av ρ4 v as4 σ4 H4 G4 h4 e4 (g2.trans (g3.trans g4)) r4, fun ρ4 as4 σ4 H4 G4 h4 e4 g4 => q.nx ρ4 as4 σ4 H4 G4 h4 e4 (g2.trans (g3.trans g4)), fun ρ4 as4 σ4 H4 G4 ⟨m', hm, w4⟩ e4 g4 => ⟨m', hm, ρ4, as4, G4, e4, g2.trans (g3.trans g4), w4⟩, q.fr⟩
  | false => exact q.nx ρ3 as3 σ' H3 G3 h3 e3 (g2.trans g3)
end
/-! ### rules of the data layer: promises and calls -/
inductive RV where
  | dat (d : D)
  | new (ds : List D)
  | prt (xs ds ys : List D)
  | reg (X : RegX)
  | ext (d : D) (X : CellX)
def FrX (as : List Addr) (Ts : Nat → Hp) (H H' : Hp) : Prop := ∀ a o, a ∉ as → (∀ i, Ts i a = none) → H a = some o → H' a = some o
def NewA (H : Hp) (as : List Addr) (Ts : Nat → Hp) (a : Addr) : Prop := (H a = none ∨ ∃ i, Ts i a ≠ none) ∧ a ∉ as
def NewG (H G G' : Hp) (Ts : Nat → Hp) : Prop := ∀ a o, G' a = some o → G a = some o ∨ H a = none ∨ ∃ i, Ts i a ≠ none
def noGone : List Cell → Bool
  | [] => true
  | .gone :: _ => false
  | .lst _ :: r => noGone r
  | .drw :: r => noGone r
  | .oth _ :: r => noGone r
  | .reg _ _ :: r => noGone r
  | .ins _ _ _ :: r => noGone r
structure CellsOk (K : PySem.W.Frag) (G H : Hp) (as : List Addr) (cs : List Cell) : Prop where
  ln : as.length = cs.length
  nd : as.Nodup
  ok : ∀ (j : Nat) (c : Cell) (a : Addr), cs[j]? = some c → as[j]? = some a → (∃ o, H a = some o) ∧ CellOk K G H a c
def RepR (K : PySem.W.Frag) (H G' H' : Hp) (as : List Addr) (Ts Ts' : Nat → Hp) : RV → V → Prop
  | .dat d, v => Rep K G' d v
  | .new ds, v => ∃ a vs, v = .ref a ∧ NewA H as Ts a ∧ (∀ i, Ts' i a = none) ∧ G' a = none ∧ H' a = some (.lst vs) ∧ Reps K G' ds vs
  | .prt xs ds ys, v => ∃ p a ws us vs, v = .ref p ∧ SqT K G' p (ws ++ .ref a :: us) ∧ Reps K G' xs ws ∧ Reps K G' ys us ∧ NewA H as Ts a ∧ (∀ i, Ts' i a = none) ∧ G' a = none ∧ H' a = some (.lst vs) ∧ Reps K G' ds vs
  | .reg X, v => ∃ a T, v = .ref a ∧ NewA H as Ts a ∧ (∀ i, Ts' i a = none) ∧ G' a = none ∧ (∃ o, H' a = some o) ∧ X.ok T G' a ∧ ∀ b o, T b = some o → H' b = some o ∧ G' b = none ∧ NewA H as Ts b ∧ ∀ i, Ts' i b = none
  | .ext d X, v => Rep K G' d v ∧ ∃ a o, NewA H as Ts a ∧ (∀ i, Ts' i a = none) ∧ G' a = none ∧ H' a = some o ∧ X.ok G' a o
abbrev PW0 := List AV → List Cell → (RV → List Cell → Prop) → (Addr → Prop) → Prop
/-- a def's promise by data: W tells what is asked of the arguments and what comes -/
def spG (K : PySem.W.Frag) (W : PW0) : Sp := fun vs H Q E => ∃ G as Ts xs cs post exc, Same G H ∧ CellsOk K G H as cs ∧ RegsAt Ts (fun _ => none) G H as cs ∧ RepAs K G as xs vs ∧ W xs cs post exc ∧
  (∀ r cs' v H' G' Ts', post r cs' → FrX as Ts H H' → Same G G' → Same G' H' → NewG H G G' Ts → CellsOk K G' H' as cs' → RegsAt Ts' (fun _ => none) G' H' as cs' → (∀ i b o, Ts' i b = some o → H b = none ∨ b ∈ as ∨ ∃ j, Ts j b ≠ none) → RepR K H G' H' as Ts Ts' r v → Q v H') ∧ (∀ C H', exc C → FrX as Ts H H' → E (.ref C) none H')
theorem RegsAt.noreg {Ts : Nat → Hp} {Fr G H : Hp} {as : List Addr} {cs cs' : List Cell} (r : RegsAt Ts Fr G H as cs) (h : ∀ (j : Nat) t X, cs[j]? ≠ some (Cell.reg t X)) (h' : ∀ (j : Nat) t X, cs'[j]? ≠ some (Cell.reg t X)) : RegsAt Ts Fr G H as cs' := ⟨fun j _ b => r.em j (h j) b, r.dj, r.pl, fun j t X a hc => absurd hc (h' j t X)⟩
theorem RegsAt.no {Fr G H : Hp} {as : List Addr} {cs : List Cell} (h : ∀ (j : Nat) t X, cs[j]? ≠ some (Cell.reg t X)) : RegsAt (fun _ _ => none) Fr G H as cs := ⟨fun _ _ _ => rfl, (fun i j b o u h => nomatch h), (fun i b o h => nomatch h), fun j t X a hc => absurd hc (h j t X)⟩
section
variable {K : PySem.W.Frag} {F : Fx} {ρ : En} {k : AV → En → Prop} {kb : Bool → En → Prop} {ks : KS} {t u : TS} {ta tb te : TE} {tt tu : TT}
/-- what a def hands back: data, or a list that it made -/
inductive FinR (n : Nat) (ρ : En) : AV → RV → Prop
  | dat (d : D) : FinR n ρ (.dat d) (.dat d)
  | cel {j : Nat} {ds : List D} : n ≤ j → ρ.ce[j]? = some (.lst ds) → FinR n ρ (.cel j) (.new ds)
  | prt {j : Nat} {xs ds ys : List D} : n ≤ j → ρ.ce[j]? = some (.lst ds) → FinR n ρ (.tup (xs.map .dat ++ .cel j :: ys.map .dat)) (.prt xs ds ys)
  | ext {j : Nat} {d : D} {X : CellX} : n ≤ j → ρ.ce[j]? = some (.oth X) → FinR n ρ (.dat d) (.ext d X)
  | reg {j : Nat} {t : Option Addr} {X : RegX} : n ≤ j → ρ.ce[j]? = some (Cell.reg t X) → FinR n ρ (.cel j) (.reg X)
def KS.fin (n : Nat) (post : RV → List Cell → Prop) : KS where
  nx := fun ρ => noGone (ρ.ce.take n) = true ∧ post (.dat .non) (ρ.ce.take n)
  rt := fun x ρ => ∃ r, FinR n ρ x r ∧ noGone (ρ.ce.take n) = true ∧ post r (ρ.ce.take n)
theorem noGone_at {cs : List Cell} (h : noGone cs = true) : ∀ {j : Nat}, cs[j]? ≠ some .gone := by
  induction cs with
  | nil => intro j e; simp at e
  | cons c cs ih =>
    intro j e
    cases j with
    | zero => simp at e; subst e; rw [noGone] at h; cases h
    | succ j =>
      have h' : noGone cs = true := by
        cases c <;> first | (rw [noGone] at h; exact h) | (rw [noGone] at h; cases h)
      exact ih h' (by simpa using e)
theorem CellOk.none {G H : Hp} {a : Addr} {c : Cell} (h : CellOk K G H a c) (n : c ≠ .gone) : G a = none := by
  cases c with
  | gone => exact absurd rfl n
  | reg t X => exact h
  | lst ds => exact h.1
  | drw => exact h.1
  | oth X => exact h.1
  | ins C ns ds => exact h.1
theorem RepAs.get {G : Hp} {as : List Addr} {xs : List AV} {vs : List V} (h : RepAs K G as xs vs) : ∀ {i : Nat} {x : AV}, xs[i]? = some x → ∃ v, vs[i]? = some v ∧ RepA K G as x v := by
  induction h with
  | nil => intro i x e; simp at e
  | cons a _ ih =>
    intro i x e
    cases i with
    | zero => simp at e; subst e; exact ⟨_, rfl, a⟩
    | succ i => obtain ⟨v, q, r⟩ := ih (i := i) (by simpa using e); exact ⟨v, by simpa using q, r⟩
theorem TNs.append {G : Hp} {as : List Addr} {xs ys : List TN} {vs ws : List V} (h : TNs K G as xs vs) (k : TNs K G as ys ws) : TNs K G as (xs ++ ys) (vs ++ ws) := by
  induction xs generalizing vs with
  | nil => cases h; exact k
  | cons x xs ih => cases h with | cons a b => exact .cons a (ih b)
theorem TNs.split {G : Hp} {as : List Addr} {xs ys : List TN} {vs : List V} (h : TNs K G as (xs ++ ys) vs) : ∃ ws us, vs = ws ++ us ∧ TNs K G as xs ws ∧ TNs K G as ys us := by
  induction xs generalizing vs with
  | nil => exact ⟨[], vs, rfl, .nil, h⟩
  | cons x xs ih =>
    cases h with
    | cons a b =>
      obtain ⟨ws, us, rfl, h1, h2⟩ := ih b
      exact ⟨_ :: ws, us, rfl, .cons a h1, h2⟩
theorem TNs.of {G : Hp} {as : List Addr} {ds : List D} {vs : List V} (h : Reps K G ds vs) : TNs K G as (ds.map .dat) vs := by
  induction ds generalizing vs with
  | nil => cases h; exact .nil
  | cons d ds ih => cases h with | cons a b => exact .cons (.dat a) (ih b)
theorem TNs.dats {G : Hp} {as : List Addr} {ds : List D} {vs : List V} (h : TNs K G as (ds.map .dat) vs) : Reps K G ds vs := by
  induction ds generalizing vs with
  | nil => cases h; exact .nil
  | cons d ds ih =>
    cases h with
    | cons a b =>
      cases a with
      | dat r => exact .cons r (ih b)
/-- the slots at a def's begin -/
def En.start (n : Nat) (xs : List AV) (cs : List Cell) : En := ⟨xs.map some ++ List.replicate (n - xs.length) none, cs⟩
open Classical in
/-- a def's body by data -/
theorem enterG {N : List Str} {W : PW0} {vs : List V} {H : Hp} {Q : VK} {E : XK} {t : TS} (frv : V → Prop) (hfr : ∀ v H', frv v → Q v H') (h : spG K W vs H Q E) (body : ∀ F xs cs post, F.fr = frv → F.E = E → RepAs K F.G0 F.as0 xs vs → W xs cs post F.ex → WpS K F t (En.start N.length xs cs) (KS.fin cs.length post)) : t { nx := fun _ H' => Q .non H', rt := Q } (L2.start N vs) H := by
  obtain ⟨G, as, Ts, xs, cs, post, exc, gh, ok, rg, rx, hw, hq, he⟩ := h
  let Own : Addr → Prop := fun a => a ∈ as ∨ ∃ i, Ts i a ≠ none
  have fr : ∀ H', Same (fun a => if Own a then none else H a) H' → FrX as Ts H H' := fun H' s a o na nt ha => s a o (by
    show (if Own a then none else H a) = some o
    rw [if_neg (fun z => z.elim na fun ⟨i, z⟩ => z (nt i))]
    exact ha)
  let F : Fx := ⟨fun a => if Own a then none else H a, G, E, exc, fun C H' hc s => he C H' hc (fr H' s), frv, as⟩
  have frN : ∀ {a : Addr}, F.Fr a = none → H a = none ∨ Own a := fun {a} z => by
    have z' : (if Own a then none else H a) = none := z
    by_cases q : Own a
    · exact .inr q
    · rw [if_neg q] at z'; exact .inl z'
  have ln := rx.length
  have e0 : EnvOk K F (En.start N.length xs cs) as (L2.start N vs) H G := by
    refine ⟨gh, fun a o h => ?_, fun a o h => .inl h, Same.refl _, ok.nd, List.prefix_refl _, ok.ln, fun j c a hc ha => ?_, ?_, fun i av hi => ?_, ⟨Ts, rg.em, rg.dj, fun i b o h => ?_, rg.ok⟩⟩
    · have h' : (if Own a then none else H a) = some o := h
      by_cases q : Own a
      · rw [if_pos q] at h'; cases h'
      · rw [if_neg q] at h'; exact h'
    · refine ⟨?_, ok.ok j c a hc ha⟩
      show (if Own a then none else H a) = none
      rw [if_pos (.inl (List.mem_of_getElem? ha))]
    · show (vs.map some ++ List.replicate (N.length - vs.length) none).length = (xs.map some ++ List.replicate (N.length - xs.length) none).length
      simp only [List.length_append, List.length_map, List.length_replicate]
      omega
    · have hi' : (xs.map some ++ List.replicate (N.length - xs.length) none)[i]? = some (some av) := hi
      by_cases q : i < xs.length
      · rw [List.getElem?_append_left (by rw [List.length_map]; exact q), List.getElem?_map] at hi'
        obtain ⟨x, hx, ex⟩ := Option.map_eq_some_iff.mp hi'
        cases ex
        obtain ⟨v, hv, r⟩ := rx.get hx
        refine ⟨v, ?_, r⟩
        show (vs.map some ++ List.replicate (N.length - vs.length) none)[i]? = some (some v)
        rw [List.getElem?_append_left (by rw [List.length_map]; omega), List.getElem?_map, hv]
        rfl
      · rw [List.getElem?_append_right (by rw [List.length_map]; omega), List.getElem?_replicate] at hi'
        split at hi' <;> cases hi'
    · obtain ⟨x, y, _, w⟩ := rg.pl i b o h
      refine ⟨x, y, ?_, w⟩
      show (if Own b then none else H b) = none
      rw [if_pos (.inr ⟨i, by rw [h]; exact fun z => nomatch z⟩)]
  -- how it ends
  have fin : ∀ {ρ' : En} {as' : List Addr} {σ' : L2.St} {H' G' : Hp} {Ts1 : Nat → Hp} {r : RV} {v : V}, EnvOk K F ρ' as' σ' H' G' → RegsAt Ts1 F.Fr G' H' as' ρ'.ce → Gr G as G' as' → noGone (ρ'.ce.take cs.length) = true → post r (ρ'.ce.take cs.length) → (∀ Ts', (∀ i b, Ts1 i b = none → Ts' i b = none) → (∀ i b, cs.length ≤ i → Ts' i b = none) → RepR K H G' H' as Ts Ts' r v) → Q v H' := by
    intro ρ' as' σ' H' G' Ts1 r v e rg1 g ng hp rr
    obtain ⟨sg, rs, ea⟩ := g
    have lc : cs.length ≤ ρ'.ce.length := by rw [← e.ln, ea, List.length_append, ok.ln]; omega
    have lt : as.length = (ρ'.ce.take cs.length).length := by rw [List.length_take, ok.ln]; omega
    have ce : ∀ (j : Nat) (c : Cell) (a : Addr), (ρ'.ce.take cs.length)[j]? = some c → as[j]? = some a → ρ'.ce[j]? = some c ∧ as'[j]? = some a := fun j c a hc ha => by
      have hj : j < as.length := (List.getElem?_eq_some_iff.mp ha).1
      refine ⟨?_, by rw [ea, List.getElem?_append_left hj]; exact ha⟩
      rw [List.getElem?_take] at hc
      rw [if_pos (by rw [← ok.ln]; exact hj)] at hc
      exact hc
    obtain ⟨Ts', rg2, sub⟩ := rg1.subS (Fr' := fun _ => none) (G' := G') (H' := H') (as' := as) (cs' := ρ'.ce.take cs.length) (fun i t X h => by
        rw [List.getElem?_take] at h
        split at h
        · rename_i q
          exact ⟨h, by rw [ea, List.getElem?_append_left (by rw [ok.ln]; exact q)]⟩
        · cases h) (fun i b h => .inr (by rw [ea, List.getElem?_append_left (List.getElem?_eq_some_iff.mp h).1]; exact h)) (fun i t X b o _ hb => ⟨(rg1.pl i b o hb).1, (rg1.pl i b o hb).2.1, rfl⟩) (fun _ _ z => .inl z)
    have sub2 : ∀ i b, Ts1 i b = none → Ts' i b = none := fun i b z => by
      cases q : Ts' i b with
      | none => rfl
      | some o => rw [sub i b o q] at z; cases z
    have sub3 : ∀ i b, cs.length ≤ i → Ts' i b = none := fun i b q => rg2.em i (fun t X z => by
      rw [List.getElem?_take] at z
      rw [if_neg (by omega)] at z
      cases z) b
    refine hq r _ v H' G' Ts' hp (fr H' e.fh) sg e.gh (fun a o ha => ?_) ⟨lt, ok.nd, fun j c a hc ha => ?_⟩ rg2 (fun i b o hb => ?_) (rr Ts' sub2 sub3)
    · rcases e.fg a o ha with z | z
      · exact .inl z
      · rcases frN z with z | q
        · exact .inr (.inl z)
        · rcases q with q | ⟨i, q⟩
          · exfalso
            obtain ⟨j, hj⟩ := List.getElem?_of_mem q
            have hl : j < (ρ'.ce.take cs.length).length := by rw [← lt]; exact (List.getElem?_eq_some_iff.mp hj).1
            have hc := List.getElem?_eq_getElem hl
            obtain ⟨h1, h2⟩ := ce j _ a hc hj
            obtain ⟨_, _, okc⟩ := e.ce j _ a h1 h2
            have gn := CellOk.none okc fun z => noGone_at ng (by rw [hc, z])
            rw [gn] at ha
            cases ha
          · exact .inr (.inr ⟨i, q⟩)
    · obtain ⟨h1, h2⟩ := ce j c a hc ha
      exact (e.ce j c a h1 h2).2
    · rcases frN (rg1.pl i b o (sub i b o hb)).2.2.1 with z | z | ⟨j, z⟩
      · exact .inl z
      · exact .inr (.inl z)
      · exact .inr (.inr ⟨j, z⟩)
  refine body F xs cs post rfl rfl rx hw as _ H G e0 _ ⟨fun ρ' as' σ' H' G' ⟨ng, hp⟩ e g => ?_, fun av ρ' v as' σ' H' G' ⟨r, fr', ng, hp⟩ e g ra => ?_, fun ρ' as' σ' H' G' h _ _ => h.elim, fun ρ' as' σ' H' G' h _ _ => h.elim, fun v H' z => hfr v H' z⟩
  · obtain ⟨Ts1, rg1⟩ := e.rg
    exact fin (r := .dat .non) e rg1 g ng hp fun _ _ _ => Rep.non
  obtain ⟨Ts1, rg1⟩ := e.rg
  have newA : ∀ {j : Nat} {b a : Addr}, cs.length ≤ j → as'[j]? = some a → (∀ k, as'[k]? = some b → k = j) → F.Fr b = none → NewA H as Ts b := fun {j b a} nj ha hb fb => by
    obtain ⟨_, rs, ea⟩ := g
    have nb : b ∉ as := fun q => by
      obtain ⟨i, hi⟩ := List.getElem?_of_mem q
      have hil : i < as.length := (List.getElem?_eq_some_iff.mp hi).1
      have := hb i (by rw [ea, List.getElem?_append_left hil]; exact hi)
      rw [ok.ln] at hil
      omega
    refine ⟨?_, nb⟩
    rcases frN fb with z | z | z
    · exact .inl z
    · exact absurd z nb
    · exact .inr z
  have inj : ∀ {j : Nat} {a : Addr}, as'[j]? = some a → ∀ k, as'[k]? = some a → k = j := fun {j a} ha k hk => (List.getElem?_inj (List.getElem?_eq_some_iff.mp hk).1 e.nd).mp (hk.trans ha.symm)
  have new : ∀ {j : Nat} {a : Addr} {ds : List D}, cs.length ≤ j → ρ'.ce[j]? = some (.lst ds) → as'[j]? = some a → NewA H as Ts a ∧ (∀ i, Ts1 i a = none) ∧ G' a = none ∧ ∃ ws, H' a = some (.lst ws) ∧ Reps K G' ds ws := by
    intro j a ds nj hc ha
    obtain ⟨fa, _, ga, ws, hw2, hr⟩ := e.ce j _ a hc ha
    refine ⟨newA nj ha (inj ha) fa, fun i => ?_, ga, ws, hw2, hr⟩
    cases q : Ts1 i a with
    | none => rfl
    | some o =>
      have := (rg1.pl i a o q).2.2.2 j ha
      subst this
      obtain ⟨t, X, z⟩ := rg1.is q
      rw [hc] at z
      cases z
  cases fr' with
  | dat d => exact fin (r := .dat d) e rg1 g ng hp fun _ _ _ => ra
  | @cel j ds nj hc =>
    obtain ⟨a, ha, rfl⟩ := ra
    obtain ⟨h1, h0, h2, ws, h3, h4⟩ := new nj hc ha
    exact fin (r := .new ds) e rg1 g ng hp fun Ts' s2 _ => ⟨a, ws, rfl, h1, fun i => s2 i a (h0 i), h2, h3, h4⟩
  | @prt j xs ds ys nj hc =>
    obtain ⟨p, us, rfl, sq, ti⟩ := ra
    obtain ⟨w1, w2, rfl, r1, r2⟩ := TNs.split ti
    cases r2 with
    | cons rc r3 =>
      cases rc with
      | @cel _ a ha =>
        obtain ⟨h1, h0, h2, ws, h3, h4⟩ := new nj hc ha
        exact fin (r := .prt xs ds ys) e rg1 g ng hp fun Ts' s2 _ => ⟨p, a, w1, _, ws, rfl, sq, TNs.dats r1, TNs.dats r3, h1, fun i => s2 i a (h0 i), h2, h3, h4⟩
  | @ext j d X nj hc =>
    obtain ⟨a, ha⟩ : ∃ a, as'[j]? = some a := ⟨_, List.getElem?_eq_getElem (by rw [e.ln]; exact (List.getElem?_eq_some_iff.mp hc).1)⟩
    obtain ⟨fa, _, ga, o, ho, ox⟩ := e.ce j _ a hc ha
    refine fin (r := .ext d X) e rg1 g ng hp fun Ts' s2 _ => ⟨ra, a, o, newA nj ha (inj ha) fa, fun i => s2 i a ?_, ga, ho, ox⟩
    cases q : Ts1 i a with
    | none => rfl
    | some o2 =>
      have := (rg1.pl i a o2 q).2.2.2 j ha
      subst this
      obtain ⟨t, Y, z⟩ := rg1.is q
      rw [hc] at z
      cases z
  | @reg j t X nj hc =>
    obtain ⟨a, ha, rfl⟩ := ra
    obtain ⟨fa, ho, ga⟩ := e.ce j _ a hc ha
    refine fin (r := .reg X) e rg1 g ng hp fun Ts' s2 s3 => ⟨a, Ts1 j, rfl, newA nj ha (inj ha) fa, fun i => ?_, ga, ho, (rg1.ok j t X a hc ha).2, fun b o hb => ?_⟩
    · by_cases q : cs.length ≤ i
      · exact s3 i a q
      · refine s2 i a ?_
        cases z : Ts1 i a with
        | none => rfl
        | some o => have := (rg1.pl i a o z).2.2.2 j ha; omega
    · obtain ⟨x, y, z, w⟩ := rg1.pl j b o hb
      refine ⟨x, y, newA nj ha w z, fun i => ?_⟩
      by_cases q : cs.length ≤ i
      · exact s3 i b q
      · refine s2 i b ?_
        cases u : Ts1 i b with
        | none => rfl
        | some o2 => have := rg1.dj i j b o2 o u hb; omega
theorem enterF {N : List Str} {W : PW0} {vs : List V} {H : Hp} {Q : VK} {E : XK} {t : TS} (frv : V → Prop) (hfr : ∀ v H', frv v → Q v H') (h : spG K W vs H Q E) (body : ∀ F xs cs post, F.fr = frv → F.E = E → W xs cs post F.ex → WpS K F t (En.start N.length xs cs) (KS.fin cs.length post)) : t { nx := fun _ H' => Q .non H', rt := Q } (L2.start N vs) H := enterG frv hfr h fun F xs cs post hf hE _ hw => body F xs cs post hf hE hw
/-- a def that ends without a return -/
theorem enterN {N : List Str} {W : PW0} {vs : List V} {H : Hp} {Q : VK} {E : XK} {t : TS} (h : spG K W vs H Q E) (body : ∀ F xs cs post, F.E = E → W xs cs post F.ex → WpS K F (tSeq t tRetN) (En.start N.length xs cs) (KS.fin cs.length post)) : t { nx := fun _ H' => Q .non H', rt := Q } (L2.start N vs) H := enterF (t := tSeq t tRetN) (fun _ => False) (fun _ _ z => z.elim) h fun F xs cs post _ hE hw => body F xs cs post hE hw
theorem enter {N : List Str} {W : PW0} {vs : List V} {H : Hp} {Q : VK} {E : XK} {t : TS} (h : spG K W vs H Q E) (body : ∀ F xs cs post, F.E = E → W xs cs post F.ex → WpS K F t (En.start N.length xs cs) (KS.fin cs.length post)) : t { nx := fun _ H' => Q .non H', rt := Q } (L2.start N vs) H := enterF (fun _ => False) (fun _ _ z => z.elim) h fun F xs cs post _ hE hw => body F xs cs post hE hw
/-! calls -/
theorem we_call {sp : Sp} {E : XK} {t : TA} (h : WpA K F t ρ fun xs ρ1 => WpSp K F sp (fun _ => E) xs ρ1 k) : WpE K F (tCall sp [] E t) ρ k := fun as σ H G e Q q =>
  h as σ H G e _ fun xs ρ1 vs as1 H1 G1 h1 e1 g1 r1 => by
    rw [List.append_nil]
    exact h1 as1 σ H1 G1 vs e1 r1 Q (q.imp g1 fun _ _ z => z)
theorem we_call1 {sp : Sp} {v : V} {x : AV} {E : XK} {t : TA} (hv : ∀ G as, RepA K G as x v) (h : WpA K F t ρ fun xs ρ1 => WpSp K F sp (fun _ => E) (xs ++ [x]) ρ1 k) : WpE K F (tCall sp [v] E t) ρ k := fun as σ H G e Q q =>
  h as σ H G e _ fun xs ρ1 vs as1 H1 G1 h1 e1 g1 r1 => h1 as1 σ H1 G1 _ e1 (r1.append (.cons (hv _ _) .nil)) Q (q.imp g1 fun _ _ z => z)
theorem we_callS {sp : Sp} {E : L2.St → XK} {t : TA} (h : WpA K F t ρ fun xs ρ1 => WpSp K F sp E xs ρ1 k) : WpE K F (tCallS sp E t) ρ k := fun as σ H G e Q q =>
  h as σ H G e _ fun xs ρ1 vs as1 H1 G1 h1 e1 g1 r1 => h1 as1 σ H1 G1 vs e1 r1 Q (q.imp g1 fun _ _ z => z)
theorem we_callK {sp : Sp} {gV : List V → List V → List V} {gA : List AV → List AV → List AV} {E : XK} {t tk : TA} (hg : ∀ G as xs ys vs ws, RepAs K G as xs vs → RepAs K G as ys ws → RepAs K G as (gA xs ys) (gV vs ws)) (h : WpA K F t ρ fun xs ρ1 => WpA K F tk ρ1 fun ys ρ2 => WpSp K F sp (fun _ => E) (gA xs ys) ρ2 k) : WpE K F (tCallK sp gV E t tk) ρ k := fun as σ H G e Q q =>
  h as σ H G e _ fun xs ρ1 vs as1 H1 G1 h1 e1 g1 r1 => h1 as1 σ H1 G1 e1 _ fun ys ρ2 ws as2 H2 G2 h2 e2 g2 r2 => h2 as2 σ H2 G2 _ e2 (hg _ _ _ _ _ _ (r1.mono g2) r2) Q (q.imp (g1.trans g2) fun _ _ z => z)
/-- a cell of a list that stands already -/
theorem EnvOk.ownC {as : List Addr} {σ : L2.St} {H G : Hp} {p : Addr} {vs : List V} {ds : List D} (e : EnvOk K F ρ as σ H G) (hp : H p = some (.lst vs)) (gp : G p = none) (fp : F.Fr p = none) (np : p ∉ as) (nt : ∃ Ts, RegsAt Ts F.Fr G H as ρ.ce ∧ ∀ i, Ts i p = none) (hr : Reps K G ds vs) : EnvOk K F (ρ.add ds) (as ++ [p]) σ H G := by
  have gr : Gr G as G (as ++ [p]) := ⟨Same.refl _, [p], rfl⟩
  refine ⟨e.gh, e.fh, e.fg, e.g0, ?_, e.pr.trans (List.prefix_append _ _), by show (as ++ [p]).length = (ρ.ce ++ [Cell.lst ds]).length; rw [List.length_append, List.length_append, e.ln]; rfl, fun j c a hc ha => ?_, e.sn, fun i av hi => ?_, by
    obtain ⟨Ts, r, n⟩ := nt
    exact r.addC e.ln (fun _ _ z => nomatch z) (fun i o z => by rw [n i] at z; cases z) fun _ _ _ h => h⟩
  · rw [List.nodup_append]
    refine ⟨e.nd, by simp, fun a ha b hb => ?_⟩
    rw [List.mem_singleton] at hb
    subst hb
    exact fun z => np (z ▸ ha)
  · have hc : (ρ.ce ++ [Cell.lst ds])[j]? = some c := hc
    by_cases hj : j < ρ.ce.length
    · rw [List.getElem?_append_left hj] at hc
      rw [List.getElem?_append_left (by rw [e.ln]; exact hj)] at ha
      exact e.ce j c a hc ha
    · have hj2 : ρ.ce.length ≤ j := by omega
      rw [List.getElem?_append_right hj2] at hc
      rw [List.getElem?_append_right (by rw [e.ln]; exact hj2), e.ln] at ha
      cases z : j - ρ.ce.length with
      | zero =>
        rw [z] at hc ha
        cases hc
        cases ha
        exact ⟨fp, ⟨_, hp⟩, gp, vs, hp, hr⟩
      | succ m => rw [z] at hc; simp at hc
  · obtain ⟨v, hv, r⟩ := e.sl i av hi
    exact ⟨v, hv, r.mono gr⟩
def En.addX (ρ : En) (X : RegX) : En := ⟨ρ.sl, ρ.ce ++ [.reg none X]⟩
def En.addT (ρ : En) (X : CellX) : En := ⟨ρ.sl, ρ.ce ++ [.oth X]⟩
/-- a cell of another thing that stands already -/
theorem EnvOk.ownT {as : List Addr} {σ : L2.St} {H G : Hp} {p : Addr} {o : HO} {X : CellX} (e : EnvOk K F ρ as σ H G) (hp : H p = some o) (gp : G p = none) (fp : F.Fr p = none) (np : p ∉ as) (nt : ∃ Ts, RegsAt Ts F.Fr G H as ρ.ce ∧ ∀ i, Ts i p = none) (ok : X.ok G p o) : EnvOk K F (ρ.addT X) (as ++ [p]) σ H G := by
  have gr : Gr G as G (as ++ [p]) := ⟨Same.refl _, [p], rfl⟩
  refine ⟨e.gh, e.fh, e.fg, e.g0, ?_, e.pr.trans (List.prefix_append _ _), by show (as ++ [p]).length = (ρ.ce ++ [Cell.oth X]).length; rw [List.length_append, List.length_append, e.ln]; rfl, fun j c a hc ha => ?_, e.sn, fun i av hi => ?_, by
    obtain ⟨Ts, r, n⟩ := nt
    exact r.addC e.ln (fun _ _ z => nomatch z) (fun i o z => by rw [n i] at z; cases z) fun _ _ _ h => h⟩
  · rw [List.nodup_append]
    refine ⟨e.nd, by simp, fun a ha b hb => ?_⟩
    rw [List.mem_singleton] at hb
    subst hb
    exact fun z => np (z ▸ ha)
  · have hc : (ρ.ce ++ [Cell.oth X])[j]? = some c := hc
    by_cases hj : j < ρ.ce.length
    · rw [List.getElem?_append_left hj] at hc
      rw [List.getElem?_append_left (by rw [e.ln]; exact hj)] at ha
      exact e.ce j c a hc ha
    · rw [List.getElem?_append_right (by omega)] at hc
      rw [List.getElem?_append_right (by rw [e.ln]; omega), e.ln] at ha
      cases z : j - ρ.ce.length with
      | zero =>
        rw [z] at hc ha
        cases hc
        cases ha
        exact ⟨fp, ⟨_, hp⟩, gp, o, hp, ok⟩
      | succ m => rw [z] at hc; simp at hc
  · obtain ⟨v, hv, r⟩ := e.sl i av hi
    exact ⟨v, hv, r.mono gr⟩
/-- a private part that stands already becomes a cell -/
theorem EnvOk.ownX {as : List Addr} {σ : L2.St} {H G : Hp} {p : Addr} {T : Hp} {X : RegX} {Ts : Nat → Hp} (e : EnvOk K F ρ as σ H G) (r : RegsAt Ts F.Fr G H as ρ.ce) (hp : ∃ o, H p = some o) (gp : G p = none) (fp : F.Fr p = none) (np : p ∉ as) (nt : ∀ i, Ts i p = none) (ok : X.ok T G p)
    (ht : ∀ b o, T b = some o → H b = some o ∧ G b = none ∧ F.Fr b = none ∧ b ∉ as ∧ ∀ i, Ts i b = none) : EnvOk K F (ρ.addX X) (as ++ [p]) σ H G := by
  have gr : Gr G as G (as ++ [p]) := ⟨Same.refl _, [p], rfl⟩
  have ats : ∀ j c a, (ρ.ce ++ [Cell.reg none X])[j]? = some c → (as ++ [p])[j]? = some a → (j < ρ.ce.length ∧ ρ.ce[j]? = some c ∧ as[j]? = some a) ∨ (j = ρ.ce.length ∧ c = .reg none X ∧ a = p) := fun j c a hc ha => by
    by_cases hj : j < ρ.ce.length
    · rw [List.getElem?_append_left hj] at hc
      rw [List.getElem?_append_left (by rw [e.ln]; exact hj)] at ha
      exact .inl ⟨hj, hc, ha⟩
    · rw [List.getElem?_append_right (by omega)] at hc
      rw [List.getElem?_append_right (by rw [e.ln]; omega), e.ln] at ha
      cases z : j - ρ.ce.length with
      | zero => rw [z] at hc ha; cases hc; cases ha; exact .inr ⟨by omega, rfl, rfl⟩
      | succ m => rw [z] at hc; simp at hc
  have le : ∀ i, ρ.ce.length ≤ i → ∀ b, Ts i b = none := fun i hi b => r.em i (fun t X z => by rw [List.getElem?_eq_none hi] at z; cases z) b
  refine ⟨e.gh, e.fh, e.fg, e.g0, ?_, e.pr.trans (List.prefix_append _ _), by show (as ++ [p]).length = (ρ.ce ++ [Cell.reg none X]).length; rw [List.length_append, List.length_append, e.ln]; rfl, fun j c a hc ha => ?_, e.sn, fun i av hi => ?_, fun i b => if i = ρ.ce.length then T b else Ts i b, fun j h b => ?_, fun i j b o u h1 h2 => ?_, fun i b o h => ?_, fun j t X2 a hc ha => ?_⟩
  · rw [List.nodup_append]
    refine ⟨e.nd, by simp, fun a ha b hb => ?_⟩
    rw [List.mem_singleton] at hb
    subst hb
    exact fun z => np (z ▸ ha)
  · rcases ats j c a hc ha with ⟨_, h1, h2⟩ | ⟨_, rfl, rfl⟩
    · exact e.ce j c a h1 h2
    · exact ⟨fp, hp, gp⟩
  · obtain ⟨v, hv, r⟩ := e.sl i av hi
    exact ⟨v, hv, r.mono gr⟩
  · show (if j = ρ.ce.length then T b else Ts j b) = none
    by_cases q : j = ρ.ce.length
    · exact absurd (show (ρ.ce ++ [Cell.reg none X])[j]? = some (.reg none X) by rw [q, List.getElem?_append_right (Nat.le_refl _), Nat.sub_self]; rfl) (h none X)
    · rw [if_neg q]
      refine r.em j (fun t X2 z => h t X2 ?_) b
      show (ρ.ce ++ [Cell.reg none X])[j]? = _
      rw [List.getElem?_append_left (List.getElem?_eq_some_iff.mp z).1]
      exact z
  · have h1 : (if i = ρ.ce.length then T b else Ts i b) = some o := h1
    have h2 : (if j = ρ.ce.length then T b else Ts j b) = some u := h2
    by_cases q1 : i = ρ.ce.length
    · by_cases q2 : j = ρ.ce.length
      · rw [q1, q2]
      · rw [if_pos q1] at h1
        rw [if_neg q2] at h2
        have := (ht b o h1).2.2.2.2 j
        rw [h2] at this
        cases this
    · rw [if_neg q1] at h1
      by_cases q2 : j = ρ.ce.length
      · rw [if_pos q2] at h2
        have := (ht b u h2).2.2.2.2 i
        rw [h1] at this
        cases this
      · rw [if_neg q2] at h2
        exact r.dj i j b o u h1 h2
  · have h : (if i = ρ.ce.length then T b else Ts i b) = some o := h
    by_cases q : i = ρ.ce.length
    · rw [if_pos q] at h
      obtain ⟨x, y, z, w, _⟩ := ht b o h
      refine ⟨x, y, z, fun j hj => ?_⟩
      by_cases l : j < as.length
      · rw [List.getElem?_append_left l] at hj
        exact absurd (List.mem_of_getElem? hj) w
      · have : j < (as ++ [p]).length := (List.getElem?_eq_some_iff.mp hj).1
        rw [List.length_append, e.ln] at this
        simp only [List.length] at this
        rw [e.ln] at l
        omega
    · rw [if_neg q] at h
      obtain ⟨x, y, z, w⟩ := r.pl i b o h
      refine ⟨x, y, z, fun j hj => ?_⟩
      by_cases l : j < as.length
      · rw [List.getElem?_append_left l] at hj
        exact w j hj
      · rw [List.getElem?_append_right (by omega)] at hj
        have := List.mem_singleton.mp (List.mem_of_getElem? hj)
        subst this
        rw [nt i] at h
        cases h
  · rcases ats j _ a hc ha with ⟨hj, h1, h2⟩ | ⟨hj, h1, rfl⟩
    · obtain ⟨x, y⟩ := r.ok j t X2 a h1 h2
      refine ⟨x, ?_⟩
      show X2.ok (fun b => if j = ρ.ce.length then T b else Ts j b) G a
      simp only [if_neg (Nat.ne_of_lt hj)]
      exact y
    · cases h1
      refine ⟨(fun g z => nomatch z), ?_⟩
      show X.ok (fun b => if j = ρ.ce.length then T b else Ts j b) G a
      simp only [if_pos hj]
      exact ok
mutual
/-- the cells that an item holds -/
def TN.cels : TN → List Nat
  | .dat _ => []
  | .cel j => [j]
  | .tup xs => TN.celss xs
def TN.celss : List TN → List Nat
  | [] => []
  | x :: xs => TN.cels x ++ TN.celss xs
end
def AV.cels : AV → List Nat
  | .dat _ => []
  | .cel j => [j]
  | .tup xs => TN.celss xs
mutual
inductive OfT (ρ : En) : TN → D → Prop
  | dat (d : D) : OfT ρ (.dat d) d
  | cel {j : Nat} {ds : List D} : ρ.ce[j]? = some (.lst ds) → OfT ρ (.cel j) (.lst ds)
  | tup {xs : List TN} {ds : List D} : OfTs ρ xs ds → OfT ρ (.tup xs) (.tup ds)
inductive OfTs (ρ : En) : List TN → List D → Prop
  | nil : OfTs ρ [] []
  | cons {x : TN} {d : D} {xs : List TN} {ds : List D} : OfT ρ x d → OfTs ρ xs ds → OfTs ρ (x :: xs) (d :: ds)
end
mutual
theorem OfT.mem {j : Nat} : ∀ (x : TN) (d : D), OfT ρ x d → j ∈ x.cels → ∃ es, ρ.ce[j]? = some (.lst es)
  | .dat e, d, h, m => by rw [TN.cels] at m; cases m
  | .cel i, d, h, m => by
    rw [TN.cels, List.mem_singleton] at m
    subst m
    cases h with | cel hc => exact ⟨_, hc⟩
  | .tup xs, d, h, m => by
    rw [TN.cels] at m
    cases h with | tup h2 => exact OfTs.mem xs _ h2 m
theorem OfTs.mem {j : Nat} : ∀ (xs : List TN) (ds : List D), OfTs ρ xs ds → j ∈ TN.celss xs → ∃ es, ρ.ce[j]? = some (.lst es)
  | [], _, h, m => by rw [TN.celss] at m; cases m
  | x :: xs, _, h, m => by
    rw [TN.celss] at m
    cases h with
    | cons h1 h2 =>
      rcases List.mem_append.mp m with m | m
      · exact OfT.mem x _ h1 m
      · exact OfTs.mem xs _ h2 m
end
/-- arguments as data: cells are lent to be read -/
inductive AsD (ρ : En) : List AV → List D → Prop
  | nil : AsD ρ [] []
  | dat {d : D} {xs : List AV} {ds : List D} : AsD ρ xs ds → AsD ρ (.dat d :: xs) (d :: ds)
  | cel {j : Nat} {es : List D} {xs : List AV} {ds : List D} : ρ.ce[j]? = some (.lst es) → AsD ρ xs ds → AsD ρ (.cel j :: xs) (.lst es :: ds)
  | tup {ts : List TN} {es : List D} {xs : List AV} {ds : List D} : OfTs ρ ts es → AsD ρ xs ds → AsD ρ (.tup ts :: xs) (.tup es :: ds)
def nocel : List AV → Bool
  | [] => true
  | .cel _ :: _ => false
  | .tup _ :: _ => false
  | .dat _ :: r => nocel r
theorem nocel_mem {xs : List AV} (h : nocel xs = true) {j : Nat} : ∀ x ∈ xs, j ∉ x.cels := by
  induction xs with
  | nil => intro x m; cases m
  | cons x xs ih =>
    cases x with
    | cel i => rw [nocel] at h; cases h
    | tup xs => rw [nocel] at h; cases h
    | dat d =>
      rw [nocel] at h
      intro y m
      rcases List.mem_cons.mp m with rfl | m
      · exact fun z => nomatch (show j ∈ ([] : List Nat) from z)
      · exact ih h y m
theorem AsD.mem {xs : List AV} {ds : List D} (h : AsD ρ xs ds) {j : Nat} {x : AV} (m : x ∈ xs) (mj : j ∈ x.cels) : ∃ es, ρ.ce[j]? = some (.lst es) := by
  induction h with
  | nil => cases m
  | dat _ ih =>
    rcases List.mem_cons.mp m with rfl | m
    · exact nomatch (show j ∈ ([] : List Nat) from mj)
    · exact ih m
  | cel hc _ ih =>
    rcases List.mem_cons.mp m with rfl | m
    · have := List.mem_singleton.mp (show j ∈ [_] from mj)
      subst this
      exact ⟨_, hc⟩
    · exact ih m
  | tup ht _ ih =>
    rcases List.mem_cons.mp m with rfl | m
    · exact OfTs.mem _ _ ht mj
    · exact ih m
/-- what follows a call by data -/
def aft (ρ : En) (xs : List AV) (k : AV → En → Prop) : RV → Prop
  | .dat d => (nocel xs || hard d) = true ∧ k (.dat d) ρ
  | .new es => (nocel xs || hards es) = true ∧ k (.cel ρ.ce.length) (ρ.add es)
  | .prt as es bs => (nocel xs || (hards as && hards es && hards bs)) = true ∧ k (.tup (as.map .dat ++ .cel ρ.ce.length :: bs.map .dat)) (ρ.add es)
  | .reg X => k (.cel ρ.ce.length) (ρ.addX X)
  | .ext d X => (nocel xs || hard d) = true ∧ k (.dat d) (ρ.addT X)
mutual
theorem OfT.repG {as : List Addr} {G G1 : Hp} (s1 : Same G G1) : ∀ (x : TN) (d : D) (v : V), (∀ (j : Nat) (p : Addr) (es : List D), j ∈ x.cels → ρ.ce[j]? = some (.lst es) → as[j]? = some p → Rep K G1 (.lst es) (.ref p)) → OfT ρ x d → TNr K G as x v → Rep K G1 d v
  | .dat e, d, v, c, h, r => by cases h; cases r with | dat r => exact Rep.mono s1 _ _ r
  | .cel j, d, v, c, h, r => by
    cases h with
    | cel hc =>
      cases r with
      | cel ha => exact c j _ _ (by rw [TN.cels]; exact List.mem_singleton.mpr rfl) hc ha
  | .tup xs, d, v, c, h, r => by
    cases h with
    | tup h2 =>
      cases r with
      | tup sq r2 => exact .tup (Same.seqT s1 sq) (OfTs.repG0 s1 xs _ _ (fun j p es m => c j p es (by rw [TN.cels]; exact m)) h2 r2)
theorem OfTs.repG0 {as : List Addr} {G G1 : Hp} (s1 : Same G G1) : ∀ (xs : List TN) (ds : List D) (vs : List V), (∀ (j : Nat) (p : Addr) (es : List D), j ∈ TN.celss xs → ρ.ce[j]? = some (.lst es) → as[j]? = some p → Rep K G1 (.lst es) (.ref p)) → OfTs ρ xs ds → TNs K G as xs vs → Reps K G1 ds vs
  | [], _, _, c, h, r => by cases h; cases r; exact .nil
  | x :: xs, _, _, c, h, r => by
    cases h with
    | cons h1 h2 =>
      cases r with
      | cons r1 r2 => exact .cons (OfT.repG s1 x _ _ (fun j p es m => c j p es (by rw [TN.celss]; exact List.mem_append_left _ m)) h1 r1) (OfTs.repG0 s1 xs _ _ (fun j p es m => c j p es (by rw [TN.celss]; exact List.mem_append_right _ m)) h2 r2)
end
open Classical in
theorem wsp0 {W : PW0} {E : L2.St → XK} {xs : List AV} {ds : List D} {exc : Addr → Prop} (ha : AsD ρ xs ds) (hE : ∀ C as σ H G, exc C → EnvOk K F ρ as σ H G → E σ (.ref C) none H) (hw : W (ds.map .dat) [] (fun r _ => aft ρ xs k r) exc) : WpSp K F (spG K W) E xs ρ k := by
  intro as σ H G vs e rx Q q
  let B : Addr → Prop := fun b => ∃ (j : Nat) (x : AV), x ∈ xs ∧ j ∈ x.cels ∧ as[j]? = some b
  have bcell : ∀ b, B b → G b = none ∧ ∃ ws, H b = some (.lst ws) := fun b ⟨j, x, m, mj, hj⟩ => by
    obtain ⟨es, hc⟩ := ha.mem m mj
    obtain ⟨_, _, g, ws, hw, _⟩ := e.ce j _ b hc hj
    exact ⟨g, ws, hw⟩
  have bas : ∀ b, B b → b ∈ as := fun b ⟨_, _, _, _, hj⟩ => List.mem_of_getElem? hj
  let G1 : Hp := fun b => if B b then H b else G b
  have g1 : ∀ b, B b → G1 b = H b := fun b h => if_pos h
  have g2 : ∀ b, ¬ B b → G1 b = G b := fun b h => if_neg h
  have s1 : Same G G1 := fun b o h => by
    rw [g2 b fun z => by rw [(bcell b z).1] at h; cases h]; exact h
  have h1 : Same G1 H := fun b o h => by
    by_cases z : B b
    · rw [g1 b z] at h; exact h
    · rw [g2 b z] at h; exact e.gh _ _ h
  have rd : RepAs K G1 [] (ds.map .dat) vs := by
    have cell : ∀ {j : Nat} {p : Addr} {es : List D}, B p → ρ.ce[j]? = some (.lst es) → as[j]? = some p → Rep K G1 (.lst es) (.ref p) := fun {j p es} hb hc hp => by
      obtain ⟨_, _, g, us, hu, hr⟩ := e.ce j _ p hc hp
      exact Rep.lst (by rw [g1 p hb]; exact hu) (Reps.mono s1 _ _ hr)
    have main : ∀ (ys : List AV) (es : List D) (ws : List V), (∀ y ∈ ys, y ∈ xs) → AsD ρ ys es → RepAs K G as ys ws → RepAs K G1 [] (es.map .dat) ws := by
      intro ys es ws sub hd
      induction hd generalizing ws with
      | nil => intro r; cases r; exact .nil
      | dat _ ih =>
        intro r
        cases r with
        | cons a b => exact .cons (Rep.mono s1 _ _ a) (ih _ (fun y m => sub y (List.mem_cons_of_mem _ m)) b)
      | @cel j es2 ys2 ds2 hc _ ih =>
        intro r
        cases r with
        | cons a b =>
          obtain ⟨p, hp, rfl⟩ := a
          exact .cons (cell ⟨j, _, sub _ List.mem_cons_self, List.mem_singleton.mpr rfl, hp⟩ hc hp) (ih _ (fun y m => sub y (List.mem_cons_of_mem _ m)) b)
      | @tup ts es2 ys2 ds2 ht _ ih =>
        intro r
        cases r with
        | cons a b =>
          obtain ⟨p, us, rfl, sq, rs⟩ := a
          refine .cons (Rep.tup (Same.seqT s1 sq) ?_) (ih _ (fun y m => sub y (List.mem_cons_of_mem _ m)) b)
          exact OfTs.repG0 s1 ts _ _ (fun j p es mj hc hp => cell ⟨j, _, sub _ List.mem_cons_self, mj, hp⟩ hc hp) ht rs
    exact main xs ds vs (fun _ m => m) ha rx
  obtain ⟨Ts0, r0⟩ := e.rg
  refine ⟨G1, [], fun _ _ => none, ds.map .dat, [], _, exc, h1, ⟨rfl, List.nodup_nil, fun j c a hc => by simp at hc⟩, RegsAt.no (fun j t X z => by simp at z), rd, hw, ?_, ?_⟩
  · intro r cs' v H' G1' Ts' hp fr sg gh' nw _ _ _ rr
    have hh : Same H H' := fun a o h => fr a o (by simp) (fun _ => rfl) h
    let G' : Hp := fun b => if B b then none else G1' b
    have k1 : ∀ b, B b → G' b = none := fun b h => if_pos h
    have k2 : ∀ b, ¬ B b → G' b = G1' b := fun b h => if_neg h
    have sG : Same G G' := fun b o h => by
      have nb : ¬ B b := fun z => by rw [(bcell b z).1] at h; cases h
      rw [k2 b nb]; exact sg _ _ (s1 _ _ h)
    have keep : ∀ a o, G' a = some o → G a = some o ∨ H a = none := fun a o h => by
      by_cases z : B a
      · rw [k1 a z] at h; cases h
      · rw [k2 a z] at h
        rcases nw a o h with y | y | ⟨_, y⟩
        · rw [g2 a z] at y; exact .inl y
        · exact .inr y
        · exact absurd rfl y
    have gn : ∀ {a : Addr} {o : HO}, H a = some o → G a = none → G' a = none := fun {a o} ho g => by
      cases z : G' a with
      | none => rfl
      | some o2 =>
        rcases keep a o2 z with y | y
        · rw [g] at y; cases y
        · rw [ho] at y; cases y
    have r1 : RegsAt Ts0 F.Fr G' H' as ρ.ce := r0.same (fun _ _ _ _ h => hh _ _ h) (fun b o ho g => gn ho g) (fun _ z => z) fun _ _ z => .inl (sG _ _ z)
    have e' : EnvOk K F ρ as σ H' G' := by
      refine ⟨fun a o h => ?_, Same.trans e.fh hh, fun a o h => ?_, Same.trans e.g0 sG, e.nd, e.pr, e.ln, fun j c a hc hj => ?_, e.sn, fun i av hi => ?_, ⟨Ts0, r1⟩⟩
      · by_cases z : B a
        · rw [k1 a z] at h; cases h
        · rw [k2 a z] at h; exact gh' _ _ h
      · rcases keep a o h with y | y
        · exact e.fg _ _ y
        · exact .inr (Same.none e.fh y)
      · obtain ⟨fa, ⟨o, ho⟩, ok⟩ := e.ce j c a hc hj
        refine ⟨fa, ⟨o, hh _ _ ho⟩, ?_⟩
        cases c with
        | gone => trivial
        | reg t X => exact gn ho ok
        | lst es => obtain ⟨g, ws, hw, r⟩ := ok; exact ⟨gn ho g, ws, hh _ _ hw, Reps.mono sG _ _ r⟩
        | ins C9 ns9 es => obtain ⟨g, dx9, ws, hw, ln9, r⟩ := ok; exact ⟨gn ho g, dx9, ws, hh _ _ hw, ln9, Reps.mono sG _ _ r⟩
        | drw => obtain ⟨g, ws, hw, r⟩ := ok; exact ⟨gn ho g, ws, hh _ _ hw, r⟩
        | oth X => obtain ⟨g, o9, hw, r⟩ := ok; exact ⟨gn ho g, o9, hh _ _ hw, X.mono (fun _ _ z => .inl (sG _ _ z)) r⟩
      · obtain ⟨v, hv, r⟩ := e.sl i av hi
        exact ⟨v, hv, r.mono ⟨sG, [], by simp⟩⟩
    have back : ∀ a o, G1' a = some o → G' a = some o ∨ ∃ xs, o = HO.lst xs := fun a o h => by
      by_cases z : B a
      · obtain ⟨_, ws, hw⟩ := bcell a z
        rw [sg a _ (by rw [g1 a z]; exact hw)] at h
        cases h
        exact .inr ⟨_, rfl⟩
      · exact .inl (by rw [k2 a z]; exact h)
    have all : nocel xs = true → Same G1' G' := fun nc a o h => by
      rw [k2 a fun ⟨j, x, m, mj, _⟩ => nocel_mem nc x m mj]; exact h
    have noT : ∀ {p : Addr}, H p = none → ∀ i, Ts0 i p = none := fun {p} hp0 i => by
      cases z : Ts0 i p with
      | none => rfl
      | some o => rw [(r0.pl i p o z).1] at hp0; cases hp0
    have noAs : ∀ {p : Addr}, H p = none → p ∉ as := fun {p} hp0 m => by
      obtain ⟨j, hj⟩ := List.getElem?_of_mem m
      have hl : j < ρ.ce.length := by rw [← e.ln]; exact (List.getElem?_eq_some_iff.mp hj).1
      obtain ⟨_, ⟨o, ho⟩, _⟩ := e.ce j _ p (List.getElem?_eq_getElem hl) hj
      rw [ho] at hp0
      cases hp0
    have noB : ∀ {p : Addr}, H p = none → ¬ B p := fun {p} hp0 z => by
      obtain ⟨_, ws, hw⟩ := bcell p z
      rw [hw] at hp0
      cases hp0
    cases r with
    | ext d X =>
      obtain ⟨rd2, p, o, ⟨hp0, _⟩, _, gp, ho, okX⟩ := rr
      have hp0 : H p = none := hp0.elim id fun ⟨_, z⟩ => absurd rfl z
      refine q _ _ _ _ H' G' hp.2 (e'.ownT ho (by rw [k2 p (noB hp0)]; exact gp) (Same.none e.fh hp0) (noAs hp0) ⟨Ts0, r1, noT hp0⟩ (X.mono back okX)) ⟨sG, [p], rfl⟩ ?_
      rcases Bool.or_eq_true_iff.mp hp.1 with z | z
      · exact Rep.mono (all z) _ _ rd2
      · exact Rep.hard back _ _ z rd2
    | reg X =>
      obtain ⟨p, T, rfl, ⟨hp0, _⟩, _, gp, ho, okX, ht⟩ := rr
      have hp0 : H p = none := hp0.elim id fun ⟨_, z⟩ => absurd rfl z
      refine q _ _ _ _ H' G' hp (e'.ownX r1 ho (by rw [k2 p (noB hp0)]; exact gp) (Same.none e.fh hp0) (noAs hp0) (noT hp0) (X.mono back okX) fun b o hb => ?_) ⟨sG, [p], rfl⟩ (RepA.last e.ln)
      obtain ⟨h1, h2, ⟨h3, _⟩, _⟩ := ht b o hb
      have h3 : H b = none := h3.elim id fun ⟨_, z⟩ => absurd rfl z
      exact ⟨h1, by rw [k2 b (noB h3)]; exact h2, Same.none e.fh h3, noAs h3, noT h3⟩
    | dat d =>
      obtain ⟨hc, hk⟩ := hp
      refine q _ ρ v as H' G' hk e' ⟨sG, [], by simp⟩ ?_
      rcases Bool.or_eq_true_iff.mp hc with z | z
      · exact Rep.mono (all z) _ _ rr
      · exact Rep.hard back _ _ z rr
    | new es =>
      obtain ⟨hc, hk⟩ := hp
      obtain ⟨p, ws, rfl, ⟨hp0, _⟩, _, gp, hp1, hr⟩ := rr
      have hp0 : H p = none := hp0.elim id fun ⟨_, z⟩ => absurd rfl z
      have np : p ∉ as := fun m => by
        obtain ⟨j, hj⟩ := List.getElem?_of_mem m
        have hl : j < ρ.ce.length := by rw [← e.ln]; exact (List.getElem?_eq_some_iff.mp hj).1
        obtain ⟨_, ⟨o, ho⟩, _⟩ := e.ce j _ p (List.getElem?_eq_getElem hl) hj
        rw [ho] at hp0
        cases hp0
      have nb : ¬ B p := fun z => np (bas p z)
      have hr' : Reps K G' es ws := by
        rcases Bool.or_eq_true_iff.mp hc with z | z
        · exact Reps.mono (all z) _ _ hr
        · exact Reps.hard back _ _ z hr
      exact q _ _ _ _ H' G' hk (e'.ownC hp1 (by rw [k2 p nb]; exact gp) (Same.none e.fh hp0) np ⟨Ts0, r1, fun i => noT hp0 i⟩ hr') ⟨sG, [p], rfl⟩ (RepA.last e.ln)
    | prt as1 es bs1 =>
      obtain ⟨hc, hk⟩ := hp
      obtain ⟨t, p, w1, w2, ws, rfl, sq, ra1, ra2, ⟨hp0, _⟩, _, gp, hp1, hr⟩ := rr
      have hp0 : H p = none := hp0.elim id fun ⟨_, z⟩ => absurd rfl z
      have np : p ∉ as := fun m => by
        obtain ⟨j, hj⟩ := List.getElem?_of_mem m
        have hl : j < ρ.ce.length := by rw [← e.ln]; exact (List.getElem?_eq_some_iff.mp hj).1
        obtain ⟨_, ⟨o, ho⟩, _⟩ := e.ce j _ p (List.getElem?_eq_getElem hl) hj
        rw [ho] at hp0
        cases hp0
      have nb : ¬ B p := fun z => np (bas p z)
      obtain ⟨sq', ra1', ra2', hr'⟩ : SqT K G' t (w1 ++ .ref p :: w2) ∧ Reps K G' as1 w1 ∧ Reps K G' bs1 w2 ∧ Reps K G' es ws := by
        rcases Bool.or_eq_true_iff.mp hc with z | z
        · exact ⟨Same.seqT (all z) sq, Reps.mono (all z) _ _ ra1, Reps.mono (all z) _ _ ra2, Reps.mono (all z) _ _ hr⟩
        · rw [Bool.and_eq_true, Bool.and_eq_true] at z
          exact ⟨SqT.hard back sq, Reps.hard back _ _ z.1.1 ra1, Reps.hard back _ _ z.2 ra2, Reps.hard back _ _ z.1.2 hr⟩
      refine q _ _ _ _ H' G' hk (e'.ownC hp1 (by rw [k2 p nb]; exact gp) (Same.none e.fh hp0) np ⟨Ts0, r1, fun i => noT hp0 i⟩ hr') ⟨sG, [p], rfl⟩ ⟨t, _, rfl, sq', ?_⟩
      exact TNs.append (TNs.of ra1') (.cons (.cel (by rw [List.getElem?_append_right (by rw [e.ln]; exact Nat.le_refl _), e.ln, Nat.sub_self]; rfl)) (TNs.of ra2'))
  · intro C H' hc fr
    have hh : Same H H' := fun a o h => fr a o (by simp) (fun _ => rfl) h
    refine hE C as σ H' G hc ⟨Same.trans e.gh hh, Same.trans e.fh hh, e.fg, e.g0, e.nd, e.pr, e.ln, fun j c a hc hj => ?_, e.sn, e.sl, ⟨Ts0, r0.same (fun _ _ _ _ h => hh _ _ h) (fun _ _ _ g => g) (fun _ z => z) fun _ _ z => .inl z⟩⟩
    obtain ⟨fa, ⟨o, ho⟩, ok⟩ := e.ce j c a hc hj
    refine ⟨fa, ⟨o, hh _ _ ho⟩, ?_⟩
    cases c with
    | gone => trivial
    | reg t X => exact ok
    | lst es => obtain ⟨g, ws, hw, r⟩ := ok; exact ⟨g, ws, hh _ _ hw, r⟩
    | ins C9 ns9 es => obtain ⟨g, dx9, ws, hw, ln9, r⟩ := ok; exact ⟨g, dx9, ws, hh _ _ hw, ln9, r⟩
    | drw => obtain ⟨g, ws, hw, r⟩ := ok; exact ⟨g, ws, hh _ _ hw, r⟩
    | oth X => obtain ⟨g, o9, hw, r⟩ := ok; exact ⟨g, o9, hh _ _ hw, r⟩
/-- the same where the caller lets nothing out -/
theorem wspE {W : PW0} {E : L2.St → XK} {xs : List AV} {ds : List D} (ha : AsD ρ xs ds) (hw : W (ds.map .dat) [] (fun r _ => aft ρ xs k r) (fun _ => False)) : WpSp K F (spG K W) E xs ρ k := wsp0 ha (fun _ _ _ _ _ z => z.elim) hw
/-- and where it lets the callee's errors out -/
theorem wspX {W : PW0} {xs : List AV} {ds : List D} (ha : AsD ρ xs ds) (hw : W (ds.map .dat) [] (fun r _ => aft ρ xs k r) F.ex) : WpSp K F (spG K W) (fun _ => F.E) xs ρ k := wsp0 ha (fun C as σ H G h e => F.hE C H h e.fh) hw
/-- a cell is lent to be written -/
def lend : AV → AV
  | .cel _ => .cel 0
  | x => x
def onlyC (j : Nat) : List AV → Bool
  | [] => true
  | .cel i :: r => decide (i = j) && onlyC j r
  | .tup _ :: _ => false
  | .dat _ :: r => onlyC j r
def aft1 (ρ : En) (j : Nat) (k : AV → En → Prop) (r : RV) (cs : List Cell) : Prop := ∃ c, cs = [c] ∧ noGone cs = true ∧ match r with
  | .dat d => k (.dat d) (ρ.cell j c)
  | .new es => k (.cel ρ.ce.length) ((ρ.cell j c).add es)
  | .prt as1 es bs1 => k (.tup (as1.map .dat ++ .cel ρ.ce.length :: bs1.map .dat)) ((ρ.cell j c).add es)
  | .reg X => k (.cel ρ.ce.length) ((ρ.cell j c).addX X)
  | .ext d X => k (.dat d) ((ρ.cell j c).addT X)
theorem wsp1Q {W : PW0} {E : L2.St → XK} {xs : List AV} {j : Nat} {c : Cell} {post : RV → List Cell → Prop} {exc : Addr → Prop} (hX : ∀ C σ H, exc C → Same F.Fr H → E σ (.ref C) none H) (hj : ρ.ce[j]? = some c) (hn : noGone [c] = true) (ho : onlyC j xs = true) (hw : W (xs.map lend) [c] post exc) (hpo : ∀ r cs, post r cs → aft1 ρ j k r cs) : WpSp K F (spG K W) E xs ρ k := by
  intro as σ H G vs e rx Q q
  have hl : j < as.length := by rw [e.ln]; exact (List.getElem?_eq_some_iff.mp hj).1
  obtain ⟨a, ha⟩ : ∃ a, as[j]? = some a := ⟨_, List.getElem?_eq_getElem hl⟩
  obtain ⟨fa, hx, ok⟩ := e.ce j c a hj ha
  have rl : RepAs K G [a] (xs.map lend) vs := by
    have main : ∀ (ys : List AV) (ws : List V), onlyC j ys = true → RepAs K G as ys ws → RepAs K G [a] (ys.map lend) ws := by
      intro ys
      induction ys with
      | nil => intro ws _ r; cases r; exact .nil
      | cons y ys ih =>
        intro ws ho r
        cases r with
        | cons r1 r2 =>
          cases y with
          | tup xs => rw [onlyC] at ho; cases ho
          | dat d => exact .cons (Rep.mono (Same.refl _) _ _ r1) (ih _ ho r2)
          | cel i =>
            rw [onlyC, Bool.and_eq_true] at ho
            have ei := of_decide_eq_true ho.1
            subst ei
            obtain ⟨p, hp, rfl⟩ := r1
            rw [ha] at hp
            cases hp
            exact .cons ⟨a, rfl, rfl⟩ (ih _ ho.2 r2)
    exact main xs vs ho rx
  obtain ⟨TsE, rE⟩ := e.rg
  let Ts : Nat → Hp := fun i b => if i = 0 then TsE j b else none
  have tz : ∀ {i b}, Ts i b ≠ none → TsE j b ≠ none := fun {i b} h => by
    have h : (if i = 0 then TsE j b else none) ≠ none := h
    by_cases q : i = 0
    · rw [if_pos q] at h; exact h
    · rw [if_neg q] at h; exact absurd rfl h
  have tn : ∀ {b}, TsE j b = none → ∀ i, Ts i b = none := fun {b} h i => by
    show (if i = 0 then TsE j b else none) = none
    split
    · exact h
    · rfl
  have tp : ∀ {b}, TsE j b ≠ none → H b ≠ none ∧ G b = none ∧ F.Fr b = none ∧ ∀ k, as[k]? = some b → k = j := fun {b} h => by
    cases q : TsE j b with
    | none => exact absurd q h
    | some o =>
      obtain ⟨x, y, z, w⟩ := rE.pl j b o q
      exact ⟨by rw [x]; exact fun z => (nomatch z), y, z, w⟩
  have rL : RegsAt Ts (fun _ => none) G H [a] [c] := by
    refine ⟨fun i h b => ?_, fun i k b o u h1 h2 => ?_, fun i b o h => ?_, fun k t X p hc hp => ?_⟩
    · show (if i = 0 then TsE j b else none) = none
      by_cases q : i = 0
      · rw [if_pos q]
        refine rE.em j (fun t X z => h t X ?_) b
        rw [hj] at z
        cases z
        rw [q]
        rfl
      · rw [if_neg q]
    · have h1 : (if i = 0 then TsE j b else none) = some o := h1
      have h2 : (if k = 0 then TsE j b else none) = some u := h2
      split at h1
      · split at h2
        · omega
        · cases h2
      · cases h1
    · have h : (if i = 0 then TsE j b else none) = some o := h
      split at h
      · rename_i q
        obtain ⟨x, y, z, w⟩ := rE.pl j b o h
        refine ⟨x, y, rfl, fun k hk => ?_⟩
        cases k with
        | zero => exact q.symm
        | succ k => simp at hk
      · cases h
    · cases k with
      | zero =>
        simp at hc hp
        subst hc hp
        exact rE.ok j t X a hj ha
      | succ k => simp at hc
  refine ⟨G, [a], Ts, xs.map lend, [c], _, _, e.gh, ⟨rfl, by simp, fun i c2 b hc hb => ?_⟩, rL, rl, hw, ?_, fun C H' hc fr => hX C σ H' hc fun b o h => fr b o (by simpa using ne_of_none h fa) (tn (by
    cases q : TsE j b with
    | none => rfl
    | some u => have := (tp (b := b) (by rw [q]; exact fun z => (nomatch z))).2.2.1; rw [h] at this; cases this)) (e.fh _ _ h)⟩
  · cases i with
    | zero => simp at hc hb; subst hc hb; exact ⟨hx, ok⟩
    | succ i => simp at hc
  · rintro r cs' v H' G' Ts' hp0 fr sG gh' nw ck rg' nwT rr
    obtain ⟨c', rfl, ng, hp⟩ := hpo r cs' hp0
    have fr' : ∀ b o, b ≠ a → TsE j b = none → H b = some o → H' b = some o := fun b o n n2 h => fr b o (by simpa using n) (tn n2) h
    obtain ⟨hx', ok'⟩ := ck.ok 0 c' a rfl rfl
    have frT : ∀ {b : Addr} {o : HO}, F.Fr b = some o → TsE j b = none := fun {b o} h => by
      cases q : TsE j b with
      | none => rfl
      | some u => have := (tp (b := b) (by rw [q]; exact fun z => (nomatch z))).2.2.1; rw [h] at this; cases this
    have asT : ∀ {i : Nat} {b : Addr}, i ≠ j → as[i]? = some b → TsE j b = none := fun {i b} ne hb => by
      cases q : TsE j b with
      | none => rfl
      | some u => exact absurd ((tp (b := b) (by rw [q]; exact fun z => (nomatch z))).2.2.2 i hb) ne
    have gn : ∀ {b : Addr} {o : HO}, TsE j b = none → H b = some o → G b = none → G' b = none := fun {b o} n ho g => by
      cases z : G' b with
      | none => rfl
      | some o2 =>
        rcases nw b o2 z with y | y | ⟨i, y⟩
        · rw [g] at y; cases y
        · rw [ho] at y; cases y
        · exact absurd n (tz y)
    have alo : ∀ {i : Nat} {b : Addr}, as[i]? = some b → ∃ o, H b = some o := fun {i b} hb => by
      have hil : i < ρ.ce.length := by rw [← e.ln]; exact (List.getElem?_eq_some_iff.mp hb).1
      exact (e.ce i _ b (List.getElem?_eq_getElem hil) hb).2.1
    have injA : ∀ {i : Nat} {b : Addr}, as[i]? = some b → b = a → i = j := fun {i b} hb z => by
      subst z
      exact (List.getElem?_inj (List.getElem?_eq_some_iff.mp hb).1 e.nd).mp (hb.trans ha.symm)
    have rN : RegsAt (fun i b => if i = j then Ts' 0 b else TsE i b) F.Fr G' H' as (ρ.ce.set j c') := by
      refine ⟨fun i h b => ?_, fun i k b o u h1 h2 => ?_, fun i b o h => ?_, fun k t X p hc hp => ?_⟩
      · show (if i = j then Ts' 0 b else TsE i b) = none
        by_cases q : i = j
        · rw [if_pos q]
          refine rg'.em 0 (fun t X z => h t X ?_) b
          simp at z
          rw [q, List.getElem?_set_self (by rw [← e.ln]; exact hl), z]
        · rw [if_neg q]
          refine rE.em i (fun t X z => h t X ?_) b
          rw [List.getElem?_set_ne (fun z => q z.symm)]
          exact z
      · have h1 : (if i = j then Ts' 0 b else TsE i b) = some o := h1
        have h2 : (if k = j then Ts' 0 b else TsE k b) = some u := h2
        have mix : ∀ {k : Nat} {o u : HO}, k ≠ j → Ts' 0 b = some o → TsE k b = some u → False := fun {k o u} ne x y => by
          obtain ⟨y1, _, _, y4⟩ := rE.pl k b u y
          rcases nwT 0 b o x with z | z | ⟨m, z⟩
          · rw [y1] at z; cases z
          · rw [List.mem_singleton] at z
            subst z
            exact ne (y4 j ha).symm
          · have z := tz z
            cases q : TsE j b with
            | none => exact z q
            | some w => exact ne (rE.dj k j b u w y q)
        by_cases q1 : i = j
        · by_cases q2 : k = j
          · rw [q1, q2]
          · rw [if_pos q1] at h1
            rw [if_neg q2] at h2
            exact (mix q2 h1 h2).elim
        · rw [if_neg q1] at h1
          by_cases q2 : k = j
          · rw [if_pos q2] at h2
            exact (mix q1 h2 h1).elim
          · rw [if_neg q2] at h2
            exact rE.dj i k b o u h1 h2
      · have h : (if i = j then Ts' 0 b else TsE i b) = some o := h
        by_cases q : i = j
        · rw [if_pos q] at h
          obtain ⟨x, y, _, _⟩ := rg'.pl 0 b o h
          refine ⟨x, y, ?_, fun k hk => ?_⟩
          · rcases nwT 0 b o h with z | z | ⟨m, z⟩
            · exact Same.none e.fh z
            · rw [List.mem_singleton] at z; subst z; exact fa
            · exact (tp (tz z)).2.2.1
          · rw [q]
            rcases nwT 0 b o h with z | z | ⟨m, z⟩
            · obtain ⟨u, hu⟩ := alo hk
              rw [hu] at z; cases z
            · rw [List.mem_singleton] at z; exact injA hk z
            · exact (tp (tz z)).2.2.2 k hk
        · rw [if_neg q] at h
          obtain ⟨x, y, z, w⟩ := rE.pl i b o h
          have nb : b ≠ a := fun u => by subst u; exact q (w j ha).symm
          have nT : TsE j b = none := by
            cases u : TsE j b with
            | none => rfl
            | some o2 => exact absurd (rE.dj i j b o o2 h u) q
          exact ⟨fr' b o nb nT x, gn nT x y, z, w⟩
      · by_cases q : k = j
        · have hc : (ρ.ce.set j c')[k]? = some (Cell.reg t X) := hc
          rw [q, List.getElem?_set_self (by rw [← e.ln]; exact hl)] at hc
          rw [q, ha] at hp
          cases hp
          have := rg'.ok 0 t X a (by simpa using hc) rfl
          refine ⟨this.1, ?_⟩
          show X.ok (fun b => if k = j then Ts' 0 b else TsE k b) G' a
          simp only [if_pos q]
          exact this.2
        · rw [List.getElem?_set_ne (fun z => q z.symm)] at hc
          obtain ⟨x, y⟩ := rE.ok k t X p hc hp
          refine ⟨x, ?_⟩
          show X.ok (fun b => if k = j then Ts' 0 b else TsE k b) G' p
          simp only [if_neg q]
          exact X.mono (fun _ _ z => .inl (sG _ _ z)) y
    have e' : EnvOk K F (ρ.cell j c') as σ H' G' := by
      refine ⟨gh', fun b o h => fr' b o (ne_of_none h fa) (frT h) (e.fh _ _ h), fun b o h => ?_, Same.trans e.g0 sG, e.nd, e.pr, by rw [e.ln]; exact (List.length_set).symm, fun i c2 b hc hb => ?_, e.sn, fun i av hi => ?_, ⟨_, rN⟩⟩
      · rcases nw b o h with y | y | ⟨i, y⟩
        · exact e.fg _ _ y
        · exact .inr (Same.none e.fh y)
        · exact .inr (tp (tz y)).2.2.1
      · have hc' : (ρ.ce.set j c')[i]? = some c2 := hc
        by_cases hij : j = i
        · subst hij
          rw [List.getElem?_set_self (by rw [← e.ln]; exact hl)] at hc'
          cases hc'
          rw [ha] at hb
          cases hb
          exact ⟨fa, hx', ok'⟩
        · rw [List.getElem?_set_ne hij] at hc'
          obtain ⟨fb, ⟨o, ho⟩, okb⟩ := e.ce i c2 b hc' hb
          have nb : b ≠ a := fun z => hij (injA hb z).symm
          have nT := asT (fun z => hij z.symm) hb
          have fr2 : ∀ o, H b = some o → H' b = some o := fun o h => fr' b o nb nT h
          refine ⟨fb, ⟨o, fr2 _ ho⟩, ?_⟩
          cases c2 with
          | gone => trivial
          | reg t X => exact gn nT ho okb
          | lst es => obtain ⟨g, ws, hw, r⟩ := okb; exact ⟨gn nT ho g, ws, fr2 _ hw, Reps.mono sG _ _ r⟩
          | ins C9 ns9 es => obtain ⟨g, dx9, ws, hw, ln9, r⟩ := okb; exact ⟨gn nT ho g, dx9, ws, fr2 _ hw, ln9, Reps.mono sG _ _ r⟩
          | drw => obtain ⟨g, ws, hw, r⟩ := okb; exact ⟨gn nT ho g, ws, fr2 _ hw, r⟩
          | oth X => obtain ⟨g, o9, hw, r⟩ := okb; exact ⟨gn nT ho g, o9, fr2 _ hw, X.mono (fun _ _ z => .inl (sG _ _ z)) r⟩
      · obtain ⟨v, hv, r⟩ := e.sl i av hi
        exact ⟨v, hv, r.mono ⟨sG, [], by simp⟩⟩
    have eln : as.length = (ρ.cell j c').ce.length := e'.ln
    have newF : ∀ {p : Addr}, NewA H [a] Ts p → F.Fr p = none ∧ p ∉ as ∧ ∀ i, i ≠ j → TsE i p = none := fun {p} ⟨h1, h2⟩ => by
      have na : p ≠ a := by simpa using h2
      rcases h1 with h1 | ⟨i, h1⟩
      · refine ⟨Same.none e.fh h1, fun m => ?_, fun i _ => ?_⟩
        · obtain ⟨i, hi⟩ := List.getElem?_of_mem m
          obtain ⟨o, ho⟩ := alo hi
          rw [ho] at h1
          cases h1
        · cases z : TsE i p with
          | none => rfl
          | some o => rw [(rE.pl i p o z).1] at h1; cases h1
      · have h1 := tz h1
        obtain ⟨_, _, x, y⟩ := tp h1
        refine ⟨x, fun m => ?_, fun i ne => ?_⟩
        · obtain ⟨i, hi⟩ := List.getElem?_of_mem m
          have := y i hi
          subst this
          rw [ha] at hi
          exact na (Option.some.inj hi).symm
        · cases z : TsE i p with
          | none => rfl
          | some o =>
            cases u : TsE j p with
            | none => exact absurd u h1
            | some o2 => exact absurd (rE.dj i j p o o2 z u) ne
    have noT : ∀ {p : Addr}, NewA H [a] Ts p → (∀ i, Ts' i p = none) → ∀ i, (if i = j then Ts' 0 p else TsE i p) = none := fun {p} h1 h2 i => by
      by_cases q : i = j
      · rw [if_pos q]; exact h2 0
      · rw [if_neg q]; exact (newF h1).2.2 i q
    cases r with
    | dat d => exact q _ _ v as H' G' hp e' ⟨sG, [], by simp⟩ rr
    | ext d X =>
      obtain ⟨rd2, p, o, hp0, tz0, gp, ho, okX⟩ := rr
      obtain ⟨f1, f2, f3⟩ := newF hp0
      exact q _ _ _ _ H' G' hp (e'.ownT ho gp f1 f2 ⟨_, rN, noT hp0 tz0⟩ okX) ⟨sG, [p], rfl⟩ rd2
    | reg X =>
      obtain ⟨p, T, rfl, hp0, tz0, gp, ho, okX, ht⟩ := rr
      obtain ⟨f1, f2, f3⟩ := newF hp0
      exact q _ _ _ _ H' G' hp (e'.ownX rN ho gp f1 f2 (noT hp0 tz0) okX fun b o hb => by
        obtain ⟨h1, h2, h3, h4⟩ := ht b o hb
        obtain ⟨x1, x2, x3⟩ := newF h3
        exact ⟨h1, h2, x1, x2, noT h3 h4⟩) ⟨sG, [p], rfl⟩ (RepA.last e.ln)
    | prt as1 es bs1 =>
      obtain ⟨t, p, w1, w2, ws, rfl, sq, ra1, ra2, hp0, tz0, gp, hp1, hr⟩ := rr
      obtain ⟨f1, f2, f3⟩ := newF hp0
      refine q _ _ _ _ H' G' hp (e'.ownC hp1 gp f1 f2 ⟨_, rN, noT hp0 tz0⟩ hr) ⟨sG, [p], rfl⟩ ⟨t, _, rfl, sq, ?_⟩
      exact TNs.append (TNs.of ra1) (.cons (.cel (by rw [List.getElem?_append_right (by rw [e.ln]; exact Nat.le_refl _), e.ln, Nat.sub_self]; rfl)) (TNs.of ra2))
    | new es =>
      obtain ⟨p, ws, rfl, hp0, tz0, gp, hp1, hr⟩ := rr
      obtain ⟨f1, f2, f3⟩ := newF hp0
      exact q _ _ _ _ H' G' hp (e'.ownC hp1 gp f1 f2 ⟨_, rN, noT hp0 tz0⟩ hr) ⟨sG, [p], rfl⟩ (RepA.last e.ln)
theorem wsp1P {W : PW0} {E : L2.St → XK} {xs : List AV} {j : Nat} {c : Cell} {post : RV → List Cell → Prop} (hj : ρ.ce[j]? = some c) (hn : noGone [c] = true) (ho : onlyC j xs = true) (hw : W (xs.map lend) [c] post (fun _ => False)) (hpo : ∀ r cs, post r cs → aft1 ρ j k r cs) : WpSp K F (spG K W) E xs ρ k := wsp1Q (fun _ _ _ z _ => z.elim) hj hn ho hw hpo
/-- .. its errors are let out -/
theorem wsp1X {W : PW0} {xs : List AV} {j : Nat} {c : Cell} (hj : ρ.ce[j]? = some c) (hn : noGone [c] = true) (ho : onlyC j xs = true) (hw : W (xs.map lend) [c] (fun r cs => aft1 ρ j k r cs) F.ex) : WpSp K F (spG K W) (fun _ => F.E) xs ρ k := wsp1Q (fun C _ H hc s => F.hE C H hc s) hj hn ho hw fun _ _ z => z
theorem wsp1 {W : PW0} {E : L2.St → XK} {xs : List AV} {j : Nat} {c : Cell} (hj : ρ.ce[j]? = some c) (hn : noGone [c] = true) (ho : onlyC j xs = true) (hw : W (xs.map lend) [c] (fun r cs => aft1 ρ j k r cs) (fun _ => False)) : WpSp K F (spG K W) E xs ρ k := wsp1P hj hn ho hw fun _ _ z => z
/-- one cell lent to be written, others to be read -/
inductive AsL (ρ : En) (j : Nat) : List AV → List AV → Prop
  | nil : AsL ρ j [] []
  | dat {d : D} {xs ys : List AV} : AsL ρ j xs ys → AsL ρ j (.dat d :: xs) (.dat d :: ys)
  | own {xs ys : List AV} : AsL ρ j xs ys → AsL ρ j (.cel j :: xs) (.cel 0 :: ys)
  | cel {i : Nat} {es : List D} {xs ys : List AV} : i ≠ j → ρ.ce[i]? = some (.lst es) → AsL ρ j xs ys → AsL ρ j (.cel i :: xs) (.dat (.lst es) :: ys)
theorem AsL.mem {j : Nat} {xs ys : List AV} (h : AsL ρ j xs ys) {i : Nat} (m : .cel i ∈ xs) : i = j ∨ ∃ es, ρ.ce[i]? = some (.lst es) := by
  induction h with
  | nil => cases m
  | dat _ ih => rcases List.mem_cons.mp m with z | z; (cases z); exact ih z
  | own _ ih => rcases List.mem_cons.mp m with z | z; (cases z; exact .inl rfl); exact ih z
  | cel _ hc _ ih => rcases List.mem_cons.mp m with z | z; (cases z; exact .inr ⟨_, hc⟩); exact ih z
def aft2 (ρ : En) (j : Nat) (k : AV → En → Prop) (r : RV) (cs : List Cell) : Prop := cs = [.drw] ∧ match r with
  | .dat d => hard d = true ∧ k (.dat d) (ρ.cell j .drw)
  | .new es => hards es = true ∧ k (.cel ρ.ce.length) ((ρ.cell j .drw).add es)
  | .prt _ _ _ => False
  | .reg _ => False
  | .ext _ _ => False
open Classical in
theorem wsp2P {W : PW0} {E : L2.St → XK} {xs ys : List AV} {j : Nat} {c : Cell} {post : RV → List Cell → Prop} (hj : ρ.ce[j]? = some c) (hn : noGone [c] = true) (nr : ∀ t X, c ≠ Cell.reg t X) (ha : AsL ρ j xs ys) (hw : W ys [c] post (fun _ => False)) (hpo : ∀ r cs, post r cs → aft2 ρ j k r cs) : WpSp K F (spG K W) E xs ρ k := by
  intro as σ H G vs e rx Q q
  have hl : j < as.length := by rw [e.ln]; exact (List.getElem?_eq_some_iff.mp hj).1
  obtain ⟨a, haj⟩ : ∃ a, as[j]? = some a := ⟨_, List.getElem?_eq_getElem hl⟩
  obtain ⟨fa, hx, ok⟩ := e.ce j c a hj haj
  have cg : c ≠ .gone := fun z => by subst z; rw [noGone] at hn; cases hn
  have apart : ∀ {i : Nat} {b : Addr}, i ≠ j → as[i]? = some b → b ≠ a := fun ne hb z => by
    subst z
    exact ne ((List.getElem?_inj (List.getElem?_eq_some_iff.mp hb).1 e.nd).mp (hb.trans haj.symm))
  let B : Addr → Prop := fun b => ∃ i : Nat, i ≠ j ∧ .cel i ∈ xs ∧ as[i]? = some b
  have bcell : ∀ b, B b → G b = none ∧ ∃ ws, H b = some (.lst ws) := fun b ⟨i, ne, m, hi⟩ => by
    rcases ha.mem m with z | ⟨es, hc⟩
    · exact absurd z ne
    obtain ⟨_, _, g, ws, hw, _⟩ := e.ce i _ b hc hi
    exact ⟨g, ws, hw⟩
  have nBa : ¬ B a := fun ⟨i, ne, _, hi⟩ => apart ne hi rfl
  let G1 : Hp := fun b => if B b then H b else G b
  have g1 : ∀ b, B b → G1 b = H b := fun b h => if_pos h
  have g2 : ∀ b, ¬ B b → G1 b = G b := fun b h => if_neg h
  have s1 : Same G G1 := fun b o h => by
    rw [g2 b fun z => by rw [(bcell b z).1] at h; cases h]; exact h
  have h1 : Same G1 H := fun b o h => by
    by_cases z : B b
    · rw [g1 b z] at h; exact h
    · rw [g2 b z] at h; exact e.gh _ _ h
  have ok1 : CellOk K G1 H a c := by
    cases c with
    | gone => trivial
    | reg t X => exact absurd rfl (nr t X)
    | lst es => obtain ⟨g, ws, hw, r⟩ := ok; exact ⟨by rw [g2 a nBa]; exact g, ws, hw, Reps.mono s1 _ _ r⟩
    | ins C9 ns9 es => obtain ⟨g, dx9, ws, hw, ln9, r⟩ := ok; exact ⟨by rw [g2 a nBa]; exact g, dx9, ws, hw, ln9, Reps.mono s1 _ _ r⟩
    | drw => obtain ⟨g, ws, hw, r⟩ := ok; exact ⟨by rw [g2 a nBa]; exact g, ws, hw, r⟩
    | oth X => obtain ⟨g, o9, hw, r⟩ := ok; exact ⟨by rw [g2 a nBa]; exact g, o9, hw, X.mono (fun _ _ z => .inl (s1 _ _ z)) r⟩
  have rd : RepAs K G1 [a] ys vs := by
    have main : ∀ (zs es : List AV) (ws : List V), (∀ i, .cel i ∈ zs → .cel i ∈ xs) → AsL ρ j zs es → RepAs K G as zs ws → RepAs K G1 [a] es ws := by
      intro zs es ws sub hd
      induction hd generalizing ws with
      | nil => intro r; cases r; exact .nil
      | dat _ ih =>
        intro r
        cases r with
        | cons a b => exact .cons (Rep.mono s1 _ _ a) (ih _ (fun j m => sub j (List.mem_cons_of_mem _ m)) b)
      | own _ ih =>
        intro r
        cases r with
        | cons r1 b =>
          obtain ⟨p, hp, rfl⟩ := r1
          rw [haj] at hp
          cases hp
          exact .cons ⟨a, rfl, rfl⟩ (ih _ (fun j m => sub j (List.mem_cons_of_mem _ m)) b)
      | @cel i es2 ys2 ds2 ne hc _ ih =>
        intro r
        cases r with
        | cons r1 b =>
          obtain ⟨p, hp, rfl⟩ := r1
          obtain ⟨_, _, g, us, hu, hr⟩ := e.ce i _ p hc hp
          refine .cons ?_ (ih _ (fun j m => sub j (List.mem_cons_of_mem _ m)) b)
          exact Rep.lst (by rw [g1 p ⟨i, ne, sub i List.mem_cons_self, hp⟩]; exact hu) (Reps.mono s1 _ _ hr)
    exact main xs ys vs (fun _ m => m) ha rx
  obtain ⟨Ts0, r0⟩ := e.rg
  refine ⟨G1, [a], fun _ _ => none, ys, [c], _, _, h1, ⟨rfl, by simp, fun i c2 b hc hb => ?_⟩, RegsAt.no (fun k t X z => ?_), rd, hw, ?_, fun _ _ z => z.elim⟩
  · cases i with
    | zero => simp at hc hb; subst hc hb; exact ⟨hx, ok1⟩
    | succ i => simp at hc
  · cases k with
    | zero => simp at z; exact nr t X z
    | succ k => simp at z
  rintro r cs' v H' G1' Ts' hp0 fr sg gh' nw ck _ _ rr
  obtain ⟨rfl, hp⟩ := hpo r cs' hp0
  have fr' : ∀ b o, b ≠ a → H b = some o → H' b = some o := fun b o n h => fr b o (by simpa using n) (fun _ => rfl) h
  obtain ⟨hx', ok'⟩ := ck.ok 0 .drw a rfl rfl
  let G' : Hp := fun b => if B b then none else G1' b
  have k1 : ∀ b, B b → G' b = none := fun b h => if_pos h
  have k2 : ∀ b, ¬ B b → G' b = G1' b := fun b h => if_neg h
  have sG : Same G G' := fun b o h => by
    have nb : ¬ B b := fun z => by rw [(bcell b z).1] at h; cases h
    rw [k2 b nb]; exact sg _ _ (s1 _ _ h)
  have keep : ∀ a o, G' a = some o → G a = some o ∨ H a = none := fun a o h => by
    by_cases z : B a
    · rw [k1 a z] at h; cases h
    · rw [k2 a z] at h
      rcases nw a o h with y | y | ⟨_, y⟩
      · rw [g2 a z] at y; exact .inl y
      · exact .inr y
      · exact absurd rfl y
  have back : ∀ a o, G1' a = some o → G' a = some o ∨ ∃ xs, o = HO.lst xs := fun a o h => by
    by_cases z : B a
    · obtain ⟨_, ws, hw⟩ := bcell a z
      rw [sg a _ (by rw [g1 a z]; exact hw)] at h
      cases h
      exact .inr ⟨_, rfl⟩
    · exact .inl (by rw [k2 a z]; exact h)
  have gn : ∀ {b : Addr} {o : HO}, H b = some o → G b = none → G' b = none := fun {b o} ho g => by
    cases z : G' b with
    | none => rfl
    | some o2 =>
      rcases keep b o2 z with y | y
      · rw [g] at y; cases y
      · rw [ho] at y; cases y
  have rN : ∃ Ts', RegsAt Ts' F.Fr G' H' as (ρ.ce.set j .drw) ∧ ∀ i b o, Ts' i b = some o → Ts0 i b = some o := r0.setCS haj (fun _ _ z => nomatch z) fr' (fun b o _ ho g => gn ho g) sG
  have okc : CellOk K G' H' a .drw → EnvOk K F (ρ.cell j .drw) as σ H' G' := fun okk => by
    refine ⟨fun a o h => ?_, fun b o h => fr' b o (ne_of_none h fa) (e.fh _ _ h), fun b o h => ?_, Same.trans e.g0 sG, e.nd, e.pr, by rw [e.ln]; exact (List.length_set).symm, fun i c2 b hc hb => ?_, e.sn, fun i av hi => ?_, let ⟨T, h, _⟩ := rN; ⟨T, h⟩⟩
    · by_cases z : B a
      · rw [k1 a z] at h; cases h
      · rw [k2 a z] at h; exact gh' _ _ h
    · rcases keep b o h with y | y
      · exact e.fg _ _ y
      · exact .inr (Same.none e.fh y)
    · have hc' : (ρ.ce.set j .drw)[i]? = some c2 := hc
      by_cases hij : j = i
      · subst hij
        rw [List.getElem?_set_self (by rw [← e.ln]; exact hl)] at hc'
        cases hc'
        rw [haj] at hb
        cases hb
        exact ⟨fa, hx', okk⟩
      · rw [List.getElem?_set_ne hij] at hc'
        obtain ⟨fb, ⟨o, ho⟩, okb⟩ := e.ce i c2 b hc' hb
        have nb : b ≠ a := apart (fun z => hij z.symm) hb
        refine ⟨fb, ⟨o, fr' _ _ nb ho⟩, ?_⟩
        cases c2 with
        | gone => trivial
        | reg t X => exact gn ho okb
        | lst es => obtain ⟨g, ws, hw, r⟩ := okb; exact ⟨gn ho g, ws, fr' _ _ nb hw, Reps.mono sG _ _ r⟩
        | ins C9 ns9 es => obtain ⟨g, dx9, ws, hw, ln9, r⟩ := okb; exact ⟨gn ho g, dx9, ws, fr' _ _ nb hw, ln9, Reps.mono sG _ _ r⟩
        | drw => obtain ⟨g, ws, hw, r⟩ := okb; exact ⟨gn ho g, ws, fr' _ _ nb hw, r⟩
        | oth X => obtain ⟨g, o9, hw, r⟩ := okb; exact ⟨gn ho g, o9, fr' _ _ nb hw, X.mono (fun _ _ z => .inl (sG _ _ z)) r⟩
    · obtain ⟨v, hv, r⟩ := e.sl i av hi
      exact ⟨v, hv, r.mono ⟨sG, [], by simp⟩⟩
  have gA : G1' a = none → G' a = none := fun z => by rw [k2 a nBa]; exact z
  have finish : EnvOk K F (ρ.cell j .drw) as σ H' G' → Q v H' := fun e' => by
    cases r with
    | dat d => exact q _ _ v as H' G' hp.2 e' ⟨sG, [], by simp⟩ (Rep.hard back _ _ hp.1 rr)
    | prt _ _ _ => exact hp.elim
    | reg _ => exact hp.elim
    | ext _ _ => exact hp.elim
    | new es =>
      obtain ⟨p, ws, rfl, ⟨hp0, _⟩, _, gp, hp1, hr⟩ := rr
      have hp0 : H p = none := hp0.elim id fun ⟨_, z⟩ => absurd rfl z
      have np : p ∉ as := fun m => by
        obtain ⟨i, hi⟩ := List.getElem?_of_mem m
        have hil : i < ρ.ce.length := by rw [← e.ln]; exact (List.getElem?_eq_some_iff.mp hi).1
        obtain ⟨_, ⟨o, ho⟩, _⟩ := e.ce i _ p (List.getElem?_eq_getElem hil) hi
        rw [ho] at hp0
        cases hp0
      have nb : ¬ B p := fun ⟨i, _, _, hi⟩ => np (List.mem_of_getElem? hi)
      exact q _ _ _ _ H' G' hp.2 (e'.ownC hp1 (by rw [k2 p nb]; exact gp) (Same.none e.fh hp0) np (by
        obtain ⟨Ts1, r1, s1⟩ := rN
        exact ⟨Ts1, r1, fun i => by
          cases z : Ts1 i p with
          | none => rfl
          | some o => rw [(r0.pl i p o (s1 i p o z)).1] at hp0; cases hp0⟩) (Reps.hard back _ _ hp.1 hr)) ⟨sG, [p], rfl⟩ (RepA.last e.ln)
  obtain ⟨g, ws, hw, r⟩ := ok'
  exact finish (okc ⟨gA g, ws, hw, r⟩)
end
section
variable {K : PySem.W.Frag} {F : Fx} {ρ : En} {k : AV → En → Prop}
def aftD (ρ : En) (j : Nat) (xs : List AV) (k : AV → En → Prop) : RV → Prop
  | .dat d => (onlyC j xs || hard d) = true ∧ k (.dat d) ρ
  | .new es => (onlyC j xs || hards es) = true ∧ k (.cel ρ.ce.length) (ρ.add es)
  | .prt as1 es bs1 => onlyC j xs = true ∧ k (.tup (as1.map .dat ++ .cel ρ.ce.length :: bs1.map .dat)) (ρ.add es)
  | .reg X => onlyC j xs = true ∧ k (.cel ρ.ce.length) (ρ.addX X)
  | .ext _ _ => False
theorem AsL.lend {j : Nat} {xs ys : List AV} (h : AsL ρ j xs ys) (o : onlyC j xs = true) : ys = xs.map LK.lend := by
  induction h with
  | nil => rfl
  | dat _ ih => rw [ih o]; rfl
  | own _ ih => rw [onlyC, Bool.and_eq_true] at o; rw [ih o.2]; rfl
  | cel ne _ _ ih => rw [onlyC, Bool.and_eq_true] at o; exact absurd (of_decide_eq_true o.1) ne
/-- a call that draws from the state at j -/
theorem wspD {W : PW0} {E : L2.St → XK} {xs ys : List AV} {j : Nat} (hj : ρ.ce[j]? = some .drw) (ha : AsL ρ j xs ys) (hw : W ys [.drw] (fun r cs => cs = [.drw] ∧ aftD ρ j xs k r) (fun _ => False)) : WpSp K F (spG K W) E xs ρ k := by
  have es : ρ.cell j .drw = ρ := by
    obtain ⟨sl, ce⟩ := ρ
    show En.mk sl (ce.set j .drw) = ⟨sl, ce⟩
    have hl : j < ce.length := (List.getElem?_eq_some_iff.mp hj).1
    have he : ce[j] = .drw := (List.getElem?_eq_some_iff.mp hj).2
    rw [← he, List.set_getElem_self]
  cases o : onlyC j xs with
  | true =>
    refine wsp1P hj rfl o (by rw [← ha.lend o]; exact hw) ?_
    rintro r cs ⟨rfl, h⟩
    refine ⟨.drw, rfl, rfl, ?_⟩
    cases r with
    | dat d => rw [es]; exact h.2
    | prt _ _ _ => rw [es]; exact h.2
    | reg _ => rw [es]; exact h.2
    | ext _ _ => exact h.elim
    | new es2 => rw [es]; exact h.2
  | false =>
    refine wsp2P hj rfl (fun _ _ z => nomatch z) ha hw ?_
    rintro r cs ⟨rfl, h⟩
    refine ⟨rfl, ?_⟩
    cases r with
    | prt _ _ _ => exact absurd h.1 (by rw [o]; decide)
    | reg _ => exact absurd h.1 (by rw [o]; decide)
    | ext _ _ => exact h.elim
    | dat d =>
      obtain ⟨h1, h2⟩ := h
      rw [o, Bool.false_or] at h1
      rw [es]
      exact ⟨h1, h2⟩
    | new es2 =>
      obtain ⟨h1, h2⟩ := h
      rw [o, Bool.false_or] at h1
      rw [es]
      exact ⟨h1, h2⟩
end
theorem spG_len {K : PySem.W.Frag} {W : PW0} {vs : List V} {H : Hp} {Q : VK} {E : XK} {n : Nat} (h : spG K W vs H Q E) (hl : ∀ xs cs post exc, W xs cs post exc → xs.length = n) : vs.length = n := by
  obtain ⟨G, as, Ts, xs, cs, post, exc, _, _, _, rx, hw, _⟩ := h
  rw [rx.length]
  exact hl _ _ _ _ hw
/-! ### rules of the data layer: kinds, ==, comprehensions, errors -/
section
variable {K : PySem.W.Frag} {F : Fx} {ρ : En} {k : AV → En → Prop} {kb : Bool → En → Prop} {ks : KS} {t u : TS} {ta tb te : TE} {tt tu : TT}
/-- the built-in class of data -/
def tyD : D → Option String
  | .non => some "NoneType" | .bl _ => some "bool" | .int _ => some "int" | .str _ => some "str" | .tup _ => some "tuple" | .lst _ => some "list" | .scr _ => some "list" | .dic => some "dict" | _ => none
theorem SqL.ty {H : Hp} {a : Addr} {vs : List V} (h : SqL K H a vs) : TyX K H (.ref a) (.type "list") := by
  rcases h with (h | ⟨o, h⟩) | ⟨o, its, n, h1, h2, _⟩
  · exact .base (.lst h)
  · exact .base (.frz h)
  · exact .kList h1 h2
theorem SqT.ty {H : Hp} {a : Addr} {vs : List V} (h : SqT K H a vs) : TyX K H (.ref a) (.type "tuple") := by
  rcases h with (h | ⟨o, h⟩) | ⟨o, its, n, h1, h2, _⟩
  · exact .base (.tup h)
  · exact .fTuple h
  · exact .kTuple h1 h2
theorem tyD_rep {H G : Hp} {d : D} {v : V} {T : String} (gh : Same G H) (r : Rep K G d v) (h : tyD d = some T) : TyX K H v (.type T) := by
  cases d with
  | non => cases h; cases r; exact .base .non
  | bl b => cases h; cases r; exact .base (.bl b)
  | int i => cases h; cases r; exact .base (.int i)
  | str x => cases h; cases r; exact .base (.str x)
  | tup ds => cases h; obtain ⟨a, vs, rfl, hs, _⟩ := Rep.tupE r; exact SqT.ty (Same.seqT gh hs)
  | lst ds => cases h; obtain ⟨a, vs, rfl, hs, _⟩ := Rep.lstE r; exact SqL.ty (SqL.of (gh _ _ hs))
  | scr ds => cases h; obtain ⟨a, vs, rfl, hs, _⟩ := Rep.scrE r; exact SqL.ty (Same.seq gh hs)
  | obj C ns ds => cases h
  | dic => cases h; obtain ⟨a, kvs, rfl, hs⟩ := Rep.dicE r; exact .base (.dK (gh _ _ hs))
  | ty n => cases h
  | cls C => cases h
/-- isinstance by built-in classes -/
def isT (T : String) (d : D) : Bool := match tyD d with
  | some "int" => T == "int"
  | some "bool" => T == "int" || T == "bool"
  | some s => T == s
  | none => false
def isA (T : String) : AV → Bool
  | .dat d => isT T d
  | .cel _ => T == "list"
  | .tup _ => T == "tuple"
theorem wc_isiB {T s : String} {d : D} {b : Bool} (h1 : tyD d = some s) (h2 : kitB s T = some b) (hk : k (.dat (.bl b)) ρ) : WpC K F (rIsi K) [.dat d, .dat (.ty T)] ρ k := fun as σ H G vs e r Q q => by
  cases r with
  | cons r1 c =>
    cases c with
    | cons r2 c =>
      cases c
      cases (show Rep K G (.ty T) _ from r2)
      exact ⟨_, _, _, _, b, rfl, .ty _, tyD_rep e.gh r1 h1, kit_ty h2, q _ ρ _ as H G hk e .refl (Rep.bl _)⟩
theorem wc_isi {T : String} {d : D} (hT : T ∈ ["int", "bool", "str", "tuple", "list"]) (hd : (tyD d).isSome = true) (hk : k (.dat (.bl (isT T d))) ρ) : WpC K F (rIsi K) [.dat d, .dat (.ty T)] ρ k := by
  have go : ∀ s, tyD d = some s → kitB s T = some (isT T d) → WpC K F (rIsi K) [.dat d, .dat (.ty T)] ρ k := fun s h1 h2 => wc_isiB h1 h2 hk
  simp only [List.mem_cons, List.not_mem_nil, or_false] at hT
  cases d <;> first
    | (exact Bool.noConfusion (show false = true from hd))
    | (refine go _ rfl ?_; rcases hT with rfl | rfl | rfl | rfl | rfl <;> (simp only [isT, tyD]; decide +kernel))
theorem wc_isiC {T : String} {j : Nat} {ds : List D} (hT : T ∈ ["int", "bool", "str", "tuple", "list"]) (hc : ρ.ce[j]? = some (.lst ds)) (hk : k (.dat (.bl (T == "list"))) ρ) : WpC K F (rIsi K) [.cel j, .dat (.ty T)] ρ k := fun as σ H G vs e r Q q => by
  cases r with
  | cons r1 c =>
    cases c with
    | cons r2 c =>
      cases c
      cases (show Rep K G (.ty T) _ from r2)
      obtain ⟨a, ha, rfl⟩ := r1
      obtain ⟨_, _, _, ws, hw, _⟩ := e.ce j _ a hc ha
      have h2 : kitB "list" T = some (T == "list") := by
        simp only [List.mem_cons, List.not_mem_nil, or_false] at hT
        rcases hT with rfl | rfl | rfl | rfl | rfl <;> decide +kernel
      exact ⟨_, _, _, _, _, rfl, .ty _, .base (.lst hw), kit_ty h2, q _ ρ _ as H G hk e .refl (Rep.bl _)⟩
/-! == -/
mutual
def py : D → PyData
  | .non => .none
  | .bl b => .bool b
  | .int i => .int i
  | .str x => .str x
  | .tup ds => .tuple (pys ds)
  | .lst ds => .list (pys ds)
  | .scr ds => .list (pys ds)
  | .obj _ _ _ => .none
  | .dic => .none
  | .ty _ => .none
  | .cls _ => .none
def pys : List D → List PyData
  | [] => []
  | d :: ds => py d :: pys ds
end
mutual
/-- data of at most this depth that == may look at -/
def fine : Nat → D → Bool
  | _, .non => true
  | _, .bl _ => true
  | _, .int _ => true
  | _, .str x => PyData.strOk x
  | n + 1, .tup ds => fines n ds
  | n + 1, .lst ds => fines n ds
  | n + 1, .scr ds => fines n ds
  | _, _ => false
def fines : Nat → List D → Bool
  | _, [] => true
  | n, d :: ds => fine n d && fines n ds
end
mutual
theorem fine_dp {G : Hp} : ∀ (n : Nat) (d : D) (v : V), fine n d = true → Rep K G d v → Dp K G v (py d) ∧ PyData.canLay0 (py d) = true ∧ PyData.depth (py d) ≤ n
  | _, .non, _, _, r => by cases r; exact ⟨.non, rfl, by simp [py, PyData.depth]⟩
  | _, .bl _, _, _, r => by cases r; exact ⟨.bl _, rfl, by simp [py, PyData.depth]⟩
  | _, .int _, _, _, r => by cases r; exact ⟨.int _, rfl, by simp [py, PyData.depth]⟩
  | n, .str x, _, h, r => by
    cases r
    refine ⟨.str _, ?_, by simp [py, PyData.depth]⟩
    have h' : PyData.strOk x = true := by cases n <;> (rw [fine] at h; exact h)
    simp [py, PyData.canLay0, h']
  | n + 1, .tup ds, _, h, r => by
    cases r with
    | tup a b =>
      obtain ⟨x, y, z⟩ := fine_dps n ds _ (by rw [fine] at h; exact h) b
      exact ⟨.tup a x, by simp [py, PyData.canLay0, y], by simp [py, PyData.depth]; omega⟩
  | n + 1, .lst ds, _, h, r => by
    cases r with
    | lst a b =>
      obtain ⟨x, y, z⟩ := fine_dps n ds _ (by rw [fine] at h; exact h) b
      exact ⟨.lst (SqL.of a) x, by simp [py, PyData.canLay0, y], by simp [py, PyData.depth]; omega⟩
  | n + 1, .scr ds, _, h, r => by
    cases r with
    | scr a b =>
      obtain ⟨x, y, z⟩ := fine_dps n ds _ (by rw [fine] at h; exact h) b
      exact ⟨.lst a x, by simp [py, PyData.canLay0, y], by simp [py, PyData.depth]; omega⟩
  | 0, .tup ds, _, h, r => by simp [fine] at h
  | 0, .lst ds, _, h, r => by simp [fine] at h
  | 0, .scr ds, _, h, r => by simp [fine] at h
  | n, .obj _ _ _, _, h, r => by cases n <;> simp [fine] at h
  | n, .dic, _, h, r => by cases n <;> simp [fine] at h
  | n, .ty _, _, h, r => by cases n <;> simp [fine] at h
  | n, .cls _, _, h, r => by cases n <;> simp [fine] at h
theorem fine_dps {G : Hp} : ∀ (n : Nat) (ds : List D) (vs : List V), fines n ds = true → Reps K G ds vs → DpAll K G vs (pys ds) ∧ PyData.canLayAll0 (pys ds) = true ∧ PyData.depthAll (pys ds) ≤ n
  | _, [], _, _, r => by cases r; exact ⟨.nil, rfl, by simp [pys, PyData.depthAll]⟩
  | n, d :: ds, _, h, r => by
    cases r with
    | cons a b =>
      have h' : fine n d = true ∧ fines n ds = true := by cases n <;> (rw [fines, Bool.and_eq_true] at h; exact h)
      obtain ⟨x, y, z⟩ := fine_dp n d _ h'.1 a
      obtain ⟨x2, y2, z2⟩ := fine_dps n ds _ h'.2 b
      exact ⟨.cons x x2, by simp [pys, PyData.canLayAll0, y, y2], by simp [pys, PyData.depthAll]; omega⟩
end
def eqD (d e : D) : Bool := PyData.eqv (py d) (py e)
section
variable {as : List Addr} {σ : L2.St} {H G : Hp}
mutual
theorem OfT.rep (e : EnvOk K F ρ as σ H G) : ∀ (x : TN) (d : D) (v : V), OfT ρ x d → TNr K G as x v → Rep K H d v
  | .dat e0, d, v, h, r => by cases h; cases r with | dat r => exact Rep.mono e.gh _ _ r
  | .cel j, d, v, h, r => by
    cases h with
    | cel hc =>
      cases r with
      | cel ha =>
        obtain ⟨_, _, _, ws, hw, hr⟩ := e.ce _ _ _ hc ha
        exact .lst hw (Reps.mono e.gh _ _ hr)
  | .tup xs, d, v, h, r => by
    cases h with
    | tup h2 =>
      cases r with
      | tup s r2 => exact .tup (Same.seqT e.gh s) (OfTs.rep e xs _ _ h2 r2)
theorem OfTs.rep (e : EnvOk K F ρ as σ H G) : ∀ (xs : List TN) (ds : List D) (vs : List V), OfTs ρ xs ds → TNs K G as xs vs → Reps K H ds vs
  | [], _, _, h, r => by cases h; cases r; exact .nil
  | x :: xs, _, _, h, r => by
    cases h with
    | cons h1 h2 =>
      cases r with
      | cons r1 r2 => exact .cons (OfT.rep e x _ _ h1 r1) (OfTs.rep e xs _ _ h2 r2)
end
end
/-- data of a value: a cell is its list -/
inductive OfD (ρ : En) : AV → D → Prop
  | dat (d : D) : OfD ρ (.dat d) d
  | cel {j : Nat} {ds : List D} : ρ.ce[j]? = some (.lst ds) → OfD ρ (.cel j) (.lst ds)
theorem OfD.dp {as : List Addr} {σ : L2.St} {H G : Hp} {x : AV} {d : D} {v : V} {n : Nat} (e : EnvOk K F ρ as σ H G) (h : OfD ρ x d) (r : RepA K G as x v) (hf : fine n d = true) (hn : n ≤ 64) : Dp K H v (py d) ∧ SeqAt.shaped (py d) = true := by
  have rr : Rep K H d v := by
    cases h with
    | dat => exact Rep.mono e.gh _ _ r
    | cel hc =>
      obtain ⟨a, ha, rfl⟩ := r
      obtain ⟨_, _, _, ws, hw, hr⟩ := e.ce _ _ a hc ha
      exact .lst hw (Reps.mono e.gh _ _ hr)
  obtain ⟨x, y, z⟩ := fine_dp n d v hf rr
  refine ⟨x, ?_⟩
  unfold SeqAt.shaped
  rw [y, decide_eq_true (by omega : PyData.depth (py d) ≤ 64)]
  rfl
theorem wr_eqD {x y : AV} {d e : D} (n : Nat) (hx : OfD ρ x d) (hy : OfD ρ y e) (h1 : fine n d = true) (h2 : fine n e = true) (hn : n ≤ 64) (hk : k (.dat (.bl (eqD d e))) ρ) : WpR K F (rEqD K) x y ρ k := fun as σ H G vx vy en r1 r2 Q q => by
  obtain ⟨a, b⟩ := hx.dp en r1 h1 hn
  obtain ⟨a2, b2⟩ := hy.dp en r2 h2 hn
  exact ⟨_, _, a, a2, b, b2, q _ ρ _ as H G hk en .refl (Rep.bl _)⟩
theorem wr_neD {x y : AV} {d e : D} (n : Nat) (hx : OfD ρ x d) (hy : OfD ρ y e) (h1 : fine n d = true) (h2 : fine n e = true) (hn : n ≤ 64) (hk : k (.dat (.bl (!eqD d e))) ρ) : WpR K F (rNeD K) x y ρ k := fun as σ H G vx vy en r1 r2 Q q => by
  obtain ⟨a, b⟩ := hx.dp en r1 h1 hn
  obtain ⟨a2, b2⟩ := hy.dp en r2 h2 hn
  exact ⟨_, _, a, a2, b, b2, q _ ρ _ as H G hk en .refl (Rep.bl _)⟩
/-- .. also of a tuple that holds cells -/
inductive OfX (ρ : En) : AV → D → Prop
  | of {x : AV} {d : D} : OfD ρ x d → OfX ρ x d
  | tup {xs : List TN} {ds : List D} : OfTs ρ xs ds → OfX ρ (.tup xs) (.tup ds)
theorem OfX.dp {as : List Addr} {σ : L2.St} {H G : Hp} {x : AV} {d : D} {v : V} {n : Nat} (e : EnvOk K F ρ as σ H G) (h : OfX ρ x d) (r : RepA K G as x v) (hf : fine n d = true) (hn : n ≤ 64) : Dp K H v (py d) ∧ SeqAt.shaped (py d) = true := by
  cases h with
  | of h => exact h.dp e r hf hn
  | tup ht =>
    obtain ⟨a, ws, rfl, s, rs⟩ := r
    obtain ⟨x, y, z⟩ := fine_dp n _ _ hf (Rep.tup (Same.seqT e.gh s) (OfTs.rep e _ _ _ ht rs))
    refine ⟨x, ?_⟩
    unfold SeqAt.shaped
    rw [y, decide_eq_true (by omega)]
    rfl
theorem wr_eqX {x y : AV} {d e : D} (n : Nat) (hx : OfX ρ x d) (hy : OfX ρ y e) (h1 : fine n d = true) (h2 : fine n e = true) (hn : n ≤ 64) (hk : k (.dat (.bl (eqD d e))) ρ) : WpR K F (rEqD K) x y ρ k := fun as σ H G vx vy en r1 r2 Q q => by
  obtain ⟨a, b⟩ := hx.dp en r1 h1 hn
  obtain ⟨a2, b2⟩ := hy.dp en r2 h2 hn
  exact ⟨_, _, a, a2, b, b2, q _ ρ _ as H G hk en .refl (Rep.bl _)⟩
theorem wr_neX {x y : AV} {d e : D} (n : Nat) (hx : OfX ρ x d) (hy : OfX ρ y e) (h1 : fine n d = true) (h2 : fine n e = true) (hn : n ≤ 64) (hk : k (.dat (.bl (!eqD d e))) ρ) : WpR K F (rNeD K) x y ρ k := fun as σ H G vx vy en r1 r2 Q q => by
  obtain ⟨a, b⟩ := hx.dp en r1 h1 hn
  obtain ⟨a2, b2⟩ := hy.dp en r2 h2 hn
  exact ⟨_, _, a, a2, b, b2, q _ ρ _ as H G hk en .refl (Rep.bl _)⟩
/-! == without truths in it is being alike -/
mutual
def noB : D → Bool
  | .bl _ => false
  | .tup ds => noBs ds
  | .lst ds => noBs ds
  | .scr _ => false
  | .obj _ _ _ => false
  | .dic => false
  | .ty _ => false
  | .cls _ => false
  | _ => true
def noBs : List D → Bool
  | [] => true
  | d :: ds => noB d && noBs ds
end
mutual
theorem eqD_iff : ∀ (d e : D), noB d = true → noB e = true → (eqD d e = true ↔ d = e)
  | .non, e, _, h => by cases e <;> simp [eqD, py, PyData.eqv, noB] at h ⊢
  | .int i, e, _, h => by cases e <;> simp [eqD, py, PyData.eqv, noB] at h ⊢
  | .str i, e, _, h => by cases e <;> simp [eqD, py, PyData.eqv, noB] at h ⊢
  | .bl _, _, h, _ => by simp [noB] at h
  | .obj _ _ _, _, h, _ => by simp [noB] at h
  | .scr _, _, h, _ => by simp [noB] at h
  | .dic, _, h, _ => by simp [noB] at h
  | .ty _, _, h, _ => by simp [noB] at h
  | .cls _, _, h, _ => by simp [noB] at h
  | .tup ds, e, h, h2 => by
    cases e with
    | tup es =>
      have := eqDs_iff ds es (by rw [noB] at h; exact h) (by rw [noB] at h2; exact h2)
      simp only [eqD, py, PyData.eqv, D.tup.injEq]
      exact this
    | _ => simp [eqD, py, PyData.eqv, noB] at h2 ⊢
  | .lst ds, e, h, h2 => by
    cases e with
    | lst es =>
      have := eqDs_iff ds es (by rw [noB] at h; exact h) (by rw [noB] at h2; exact h2)
      simp only [eqD, py, PyData.eqv, D.lst.injEq]
      exact this
    | _ => simp [eqD, py, PyData.eqv, noB] at h2 ⊢
theorem eqDs_iff : ∀ (ds es : List D), noBs ds = true → noBs es = true → (PyData.eqvAll (pys ds) (pys es) = true ↔ ds = es)
  | [], es, _, _ => by cases es <;> simp [pys, PyData.eqvAll]
  | d :: ds, [], _, _ => by simp [pys, PyData.eqvAll]
  | d :: ds, e :: es, h, h2 => by
    rw [noBs, Bool.and_eq_true] at h h2
    have a := eqD_iff d e h.1 h2.1
    have b := eqDs_iff ds es h.2 h2.2
    simp only [pys, PyData.eqvAll, Bool.and_eq_true, List.cons.injEq]
    unfold eqD at a
    rw [a, b]
end
/-! comprehensions -/
def wipeA (sl : List (Option AV)) : List Nat → List (Option AV)
  | [] => sl
  | v :: vs => (wipeA sl vs).set v none
def En.wipe (ρ : En) (vs : List Nat) : En := ⟨wipeA ρ.sl vs, ρ.ce⟩
theorem wipeA_len (sl : List (Option AV)) : ∀ vs, (wipeA sl vs).length = sl.length
  | [] => rfl
  | v :: vs => by rw [wipeA, List.length_set, wipeA_len sl vs]
theorem wipeA_get (sl : List (Option AV)) {i : Nat} {x : AV} : ∀ vs, (wipeA sl vs)[i]? = some (some x) → i ∉ vs ∧ sl[i]? = some (some x)
  | [], h => ⟨by simp, h⟩
  | v :: vs, h => by
    rw [wipeA] at h
    by_cases q : v = i
    · subst q
      rw [List.getElem?_set] at h
      simp at h
    · rw [List.getElem?_set_ne q] at h
      obtain ⟨a, b⟩ := wipeA_get sl vs h
      exact ⟨by simp only [List.mem_cons, not_or]; exact ⟨fun z => q z.symm, a⟩, b⟩
theorem wipe_get (σ : L2.St) {i : Nat} : ∀ {vs : List Nat}, i ∉ vs → (wipe σ vs)[i]? = σ[i]?
  | [], _ => rfl
  | v :: vs, h => by
    simp only [List.mem_cons, not_or] at h
    show ((wipe σ vs).set v none)[i]? = σ[i]?
    rw [List.getElem?_set_ne (fun z => h.1 z.symm), wipe_get σ h.2]
theorem EnvOk.wipe {as : List Addr} {σ σ2 : L2.St} {H G : Hp} {vs : List Nat} (e : EnvOk K F ρ as σ H G) (h : L2.wipe σ2 vs = L2.wipe σ vs) : EnvOk K F (ρ.wipe vs) as σ2 H G := by
  refine ⟨e.gh, e.fh, e.fg, e.g0, e.nd, e.pr, e.ln, e.ce, ?_, fun i x hi => ?_, e.rg⟩
  · show σ2.length = (wipeA ρ.sl vs).length
    rw [wipeA_len, ← e.sn, ← wipe_length σ2 vs, h, wipe_length]
  · obtain ⟨a, b⟩ := wipeA_get ρ.sl vs hi
    obtain ⟨v, hv, r⟩ := e.sl i x b
    exact ⟨v, by rw [← wipe_get σ2 a, h, wipe_get σ a]; exact hv, r⟩
/-- a target that writes to these slots alone -/
def Only (g : TG) (vs : List Nat) : Prop := ∀ x σ H (Q Q2 : L2.St → Hp → Prop), (∀ σ' H', Q σ' H' → L2.wipe σ' vs = L2.wipe σ vs → Q2 σ' H') → g x σ H Q → g x σ H Q2
def OnlyS (g : TGs) (vs : List Nat) : Prop := ∀ x σ H (Q Q2 : L2.St → Hp → Prop), (∀ σ' H', Q σ' H' → L2.wipe σ' vs = L2.wipe σ vs → Q2 σ' H') → g x σ H Q → g x σ H Q2
theorem wipe_set (σ : L2.St) {i : Nat} {x : Option V} : ∀ {vs : List Nat}, i ∈ vs → L2.wipe (σ.set i x) vs = L2.wipe σ vs
  | v :: vs, h => by
    show (L2.wipe (σ.set i x) vs).set v none = (L2.wipe σ vs).set v none
    by_cases q : i ∈ vs
    · rw [wipe_set σ q]
    · have e : i = v := by rcases List.mem_cons.mp h with z | z; exact z; exact absurd z q
      subst e
      refine List.ext_getElem? fun j => ?_
      by_cases z : i = j
      · subst z; rw [List.getElem?_set, List.getElem?_set]; simp [wipe_length]
      · rw [List.getElem?_set_ne z, List.getElem?_set_ne z]
        by_cases y : j ∈ vs
        · have zero : ∀ (τ : L2.St) (ws : List Nat), j ∈ ws → (L2.wipe τ ws)[j]? = if j < τ.length then some none else none := by
            intro τ ws
            induction ws with
            | nil => intro m; cases m
            | cons w ws ih =>
              intro m
              show ((L2.wipe τ ws).set w none)[j]? = _
              by_cases b : w = j
              · subst b; rw [List.getElem?_set]; simp [wipe_length]
              · rw [List.getElem?_set_ne b]
                exact ih (by rcases List.mem_cons.mp m with c | c; exact absurd c.symm b; exact c)
          rw [zero _ _ y, zero _ _ y, List.length_set]
        · rw [wipe_get _ y, wipe_get _ y, List.getElem?_set_ne z]
theorem only_name {i : Nat} {vs : List Nat} (h : i ∈ vs) : Only (gName i) vs := fun x σ H Q Q2 i q => i _ _ q (wipe_set σ h)
theorem onlys_nil {vs : List Nat} : OnlyS gNil vs := fun x σ H Q Q2 i ⟨e, q⟩ => ⟨e, i _ _ q rfl⟩
theorem onlys_cons {i : Nat} {gs : TGs} {vs : List Nat} (h : i ∈ vs) (h2 : OnlyS gs vs) : OnlyS (gCons (gName i) gs) vs := fun x σ H Q Q2 im ⟨v, r, e, q⟩ => by
  subst e
  exact ⟨v, r, rfl, h2 r (σ.set i (some v)) H Q Q2 (fun σ' H' a b => im σ' H' a (by rw [b, wipe_set σ h])) q⟩
theorem only_tup {n : Nat} {gs : TGs} {vs : List Nat} (h2 : OnlyS gs vs) : Only (gTup K n gs) vs := fun x σ H Q Q2 im ⟨a, xs, e, s, l, q⟩ => ⟨a, xs, e, s, l, h2 xs σ H Q Q2 im q⟩
/-- the turns of a comprehension: n the cell of what is made -/
def LoopC (K : PySem.W.Frag) (F : Fx) (gd : En → Prop) (g : TG) (tt : TT) (te : TE) (vs : List Nat) (n : Nat) (k : AV → En → Prop) : List D → En → Prop
  | [], ρ => gd ρ ∧ k (.cel n) ρ
  | d :: ds, ρ => gd ρ ∧ WpG K F g (.dat d) ρ fun ρ1 => WpT K F tt ρ1 fun b ρ2 => if b = true then WpE K F te ρ2 fun y ρ3 => ∃ e ρ4 acc, Frz [y] ρ3 [e] ρ4 ∧ ρ4.ce[n]? = some (.lst acc) ∧ acc.length < 16000000 ∧ ∃ ρ5, Tr (n + 1) ((ρ4.cell n (.lst (acc ++ [e]))).wipe vs) ρ5 ∧ LoopC K F gd g tt te vs n k ds ρ5
      else ∃ ρ5, Tr (n + 1) (ρ2.wipe vs) ρ5 ∧ LoopC K F gd g tt te vs n k ds ρ5
theorem LoopC.gd {gd : En → Prop} {g : TG} {vs : List Nat} {n : Nat} : ∀ {ds : List D} {ρ : En}, LoopC K F gd g tt te vs n k ds ρ → gd ρ
  | [], _, h => h.1
  | _ :: _, _, h => h.1
theorem wipe_wipe (σ : L2.St) (vs : List Nat) : L2.wipe (L2.wipe σ vs) vs = L2.wipe σ vs := by
  refine List.ext_getElem? fun j => ?_
  by_cases y : j ∈ vs
  · have zero : ∀ (τ : L2.St) (ws : List Nat), j ∈ ws → (L2.wipe τ ws)[j]? = if j < τ.length then some none else none := by
      intro τ ws
      induction ws with
      | nil => intro m; cases m
      | cons w ws ih =>
        intro m
        show ((L2.wipe τ ws).set w none)[j]? = _
        by_cases b : w = j
        · subst b; rw [List.getElem?_set]; simp [wipe_length]
        · rw [List.getElem?_set_ne b]
          exact ih (by rcases List.mem_cons.mp m with c | c; exact absurd c.symm b; exact c)
    rw [zero _ _ y, zero _ _ y, wipe_length]
  · rw [wipe_get _ y]
theorem Tr.run2 {n : Nat} {ρ' : En} {as as0 : List Addr} {σ σ2 : L2.St} {H G G0 : Hp} (t : Tr n ρ ρ') (e : EnvOk K F ρ as σ H G) (e2 : EnvOk K F ρ as σ2 H G) (g : Gr G0 as0 G as) (h : as0.length ≤ n) (h0 : F.as0.length ≤ n) : ∃ as', EnvOk K F ρ' as' σ H G ∧ EnvOk K F ρ' as' σ2 H G ∧ Gr G0 as0 G as' := by
  cases t with
  | all => exact ⟨as, e, e2, g⟩
  | cut => exact ⟨_, e.trunc n h0, e2.trunc n h0, g.trunc h⟩
  | keep j h1 h2 => exact ⟨_, e.keep h0 h1 h2, e2.keep h0 h1 h2, g.keep h⟩
  | drop j h1 h2 => exact ⟨_, e.drp h0 h1 h2, e2.drp h0 h1 h2, g.keep h⟩
theorem we_lc {wi : TI} {g : TG} {vs : List Nat} (ho : Only g vs) (h : WpI K F wi ρ fun ds gd ρ1 => LoopC K F gd g tt te vs ρ1.ce.length k ds ((ρ1.add []).wipe vs)) : WpE K F (tLc wi g tt te vs) ρ k := fun as σ H G e Q q =>
  h as σ H G e _ fun ds gd J ρ1 as1 H1 G1 h1 e1 g1 its => by
    intro p hp
    obtain ⟨e2, g2⟩ := e1.newC (ds := []) (vs := []) hp .nil
    have pn : as1.length = ρ1.ce.length := e1.ln
    have pn0 : F.as0.length ≤ ρ1.ce.length + 1 := by have := e1.pr.length_le; omega
    have pn2 : (as1 ++ [p]).length ≤ ρ1.ce.length + 1 := by rw [List.length_append, pn]; exact Nat.le_refl _
    refine ⟨fun i m H' => m = ds.length - i ∧ i ≤ ds.length ∧ ∃ ρ2 as2 G2, EnvOk K F ρ2 as2 σ H' G2 ∧ EnvOk K F ρ2 as2 (L2.wipe σ vs) H' G2 ∧ Gr G1 (as1 ++ [p]) G2 as2 ∧ LoopC K F gd g tt te vs ρ1.ce.length k (ds.drop i) ρ2, ⟨_, rfl, Nat.zero_le _, _, _, _, e2.wipe rfl, e2.wipe (wipe_wipe σ vs), .refl, h1⟩, ?_⟩
    rintro i m H' ⟨rfl, hi, ρ2, as2, G2, e3, e3w, g3, lp⟩
    have g13 : Gr G1 as1 G2 as2 := g2.trans g3
    obtain ⟨go, st, yl⟩ := its ρ2 as2 (L2.wipe σ vs) H' G2 e3w g13 lp.gd
    have hat : as2[ρ1.ce.length]? = some p := by
      obtain ⟨_, r, rfl⟩ := g3
      rw [List.append_assoc, List.getElem?_append_right (by omega), pn]
      simp
    by_cases hlt : i < ds.length
    · obtain ⟨d, hd⟩ : ∃ d, ds[i]? = some d := ⟨_, List.getElem?_eq_getElem hlt⟩
      have ed : ds.drop i = d :: ds.drop (i + 1) := by
        rw [List.drop_eq_getElem_cons hlt]
        rw [List.getElem?_eq_getElem hlt] at hd
        cases hd
        rfl
      rw [ed] at lp
      refine .inr ⟨go i hlt, fun H3 => ∃ ρ3 as3 G3, EnvOk K F ρ3 as3 σ H3 G3 ∧ EnvOk K F ρ3 as3 (L2.wipe σ vs) H3 G3 ∧ Gr G1 (as1 ++ [p]) G3 as3 ∧ LoopC K F gd g tt te vs ρ1.ce.length k (ds.drop (i + 1)) ρ3, fun H3 ⟨ρ3, as3, G3, e3, e3w, g3, l3⟩ => ⟨_, by omega, rfl, hlt, ρ3, as3, G3, e3, e3w, g3, l3⟩, fun x H3 y => ?_⟩
      obtain ⟨d', G3, hd', e4, g4, rx⟩ := yl i x H3 hlt y
      rw [hd] at hd'
      cases hd'
      have main := lp.2 as2 (L2.wipe σ vs) H3 G3 x (e4 _ e3w) rx
        (fun σ2 H2 => (∃ ρ4 as4 G4, (WpT K F tt ρ4 fun b ρ2 => if b = true then WpE K F te ρ2 fun y ρ3 => ∃ e ρ4 acc, Frz [y] ρ3 [e] ρ4 ∧ ρ4.ce[ρ1.ce.length]? = some (.lst acc) ∧ acc.length < 16000000 ∧ ∃ ρ5, Tr (ρ1.ce.length + 1) ((ρ4.cell ρ1.ce.length (.lst (acc ++ [e]))).wipe vs) ρ5 ∧ LoopC K F gd g tt te vs ρ1.ce.length k (ds.drop (i + 1)) ρ5
      else ∃ ρ5, Tr (ρ1.ce.length + 1) (ρ2.wipe vs) ρ5 ∧ LoopC K F gd g tt te vs ρ1.ce.length k (ds.drop (i + 1)) ρ5) ∧ EnvOk K F ρ4 as4 σ2 H2 G4 ∧ Gr G3 as2 G4 as4)) (fun ρ4 as4 σ4 H4 G4 h4 e5 g5 => ⟨ρ4, as4, G4, h4, e5, g5⟩)
      refine ho x _ _ _ _ ?_ main
      rintro σ2 H4 ⟨ρ4, as4, G4, h4, e5, g5⟩ ew
      rw [wipe_wipe] at ew
      refine ⟨ew, h4 as4 σ2 H4 G4 e5 _ fun b ρ5 as5 H5 G5 h5 e6 g6 => ?_⟩
      have gg : Gr G1 (as1 ++ [p]) G5 as5 := g3.trans (g4.trans (g5.trans g6))
      cases b with
      | false =>
        obtain ⟨ρ7, tr, lp2⟩ := (show ∃ ρ5', Tr (ρ1.ce.length + 1) (ρ5.wipe vs) ρ5' ∧ _ from h5)
        obtain ⟨as7, x1, x2, x3⟩ := tr.run2 (e6.wipe ew.symm) (show EnvOk K F _ _ (L2.wipe σ vs) _ _ from e6.wipe (by rw [wipe_wipe, ew])) gg pn2 pn0
        exact ⟨ρ7, as7, G5, x1, x2, x3, lp2⟩
      | true =>
        refine (show WpE K F te ρ5 _ from h5) as5 σ2 H5 G5 e6 _ ?_
        rintro y ρ6 v as6 H6 G6 ⟨e', ρ7, acc, fz, hc, hl, ρ8, tr, lp2⟩ e7 g7 r7
        obtain ⟨G7, e8, g8, r8⟩ := fz.run e7 (.cons r7 .nil)
        have hat6 : as6[ρ1.ce.length]? = some p := by
          obtain ⟨_, r, rfl⟩ := g4.trans (g5.trans (g6.trans g7))
          rw [List.getElem?_append_left (List.getElem?_eq_some_iff.mp hat).1]
          exact hat
        obtain ⟨_, _, gn, ws, hw, hr⟩ := e8.ce _ _ p hc hat6
        cases r8 with
        | cons ra rb =>
          cases rb
          have e9 := e8.setC (c' := .lst (acc ++ [e'])) hc hat6 gn ⟨gn, _, upd_same, hr.append (.cons ra .nil)⟩
          obtain ⟨as7, x1, x2, x3⟩ := tr.run2 (e9.wipe ew.symm) (show EnvOk K F _ _ (L2.wipe σ vs) _ _ from e9.wipe (by rw [wipe_wipe, ew])) (gg.trans (g7.trans g8)) pn2 pn0
          exact ⟨ws, hw, szbl (by rw [hr.length]; omega), ρ8, as7, G7, x1, x2, x3, lp2⟩
    · have ei : i = ds.length := by omega
      subst ei
      rw [List.drop_length] at lp
      exact .inl ⟨st, q _ _ _ _ _ _ lp.2 e3 (g1.trans g13) ⟨p, hat, rfl⟩⟩
/-! errors -/
theorem ws_exc (h : ∀ as σ H G D, EnvOk K F ρ as σ H G → t D σ H) : WpS K F t ρ ks := fun as σ H G e D _ => h as σ H G D e
end
theorem frz_in {xs ds : List _} {ρ ρ2 : En} {P : List D → En → Prop} (h0 : Frz xs ρ ds ρ2) (h1 : Nat.ble ds.length 1000 = true) (h2 : P ds ρ2) : ∃ ds ρ2, Frz xs ρ ds ρ2 ∧ Nat.ble ds.length 1000 = true ∧ P ds ρ2 := ⟨ds, ρ2, h0, h1, h2⟩
theorem il_in {x : AV} {ds : List D} {ρ : En} {P : List D → Prop} (h0 : IsL ρ x ds) (h2 : P ds) : ∃ ds, IsL ρ x ds ∧ P ds := ⟨ds, h0, h2⟩
theorem lc_in {y : AV} {e : D} {ρ ρ4 : En} {n : Nat} {acc : List D} {P : D → En → List D → Prop} (h0 : Frz [y] ρ [e] ρ4) (h1 : ρ4.ce[n]? = some (.lst acc)) (h2 : acc.length < 16000000) (h3 : P e ρ4 acc) : ∃ e ρ4 acc, Frz [y] ρ [e] ρ4 ∧ ρ4.ce[n]? = some (.lst acc) ∧ acc.length < 16000000 ∧ P e ρ4 acc := ⟨e, ρ4, acc, h0, h1, h2, h3⟩
theorem wgs_nilM {K : PySem.W.Frag} {F : Fx} {ρ : En} {kn : En → Prop} (h : kn ρ) : WpGs K F gNil (List.map AV.dat []) ρ kn := wgs_nil h
theorem wgs_consM {K : PySem.W.Frag} {F : Fx} {ρ : En} {g : TG} {gs : TGs} {d : D} {ds : List D} {kn : En → Prop} (h : WpG K F g (.dat d) ρ fun ρ1 => WpGs K F gs (ds.map .dat) ρ1 kn) : WpGs K F (gCons g gs) ((d :: ds).map .dat) ρ kn := wgs_cons h
section
variable {K : PySem.W.Frag} {F : Fx} {ρ : En} {k : AV → En → Prop} {ks ks' : KS} {t : TS} {te : TE} {tt : TT}
theorem WpS.imp (h : WpS K F t ρ ks) (h1 : ∀ ρ, ks.nx ρ → ks'.nx ρ) (h2 : ∀ x ρ, ks.rt x ρ → ks'.rt x ρ) (h3 : ∀ ρ, ks.bk ρ → ks'.bk ρ) (h4 : ∀ ρ, ks.ct ρ → ks'.ct ρ) : WpS K F t ρ ks' := fun as σ H G e D q =>
  h as σ H G e D ⟨fun ρ as' σ H G' a b c => q.nx ρ as' σ H G' (h1 _ a) b c, fun av ρ v as' σ H G' a b c d => q.rt av ρ v as' σ H G' (h2 _ _ a) b c d, fun ρ as' σ H G' a b c => q.bk ρ as' σ H G' (h3 _ a) b c, fun ρ as' σ H G' a b c => q.ct ρ as' σ H G' (h4 _ a) b c, q.fr⟩
theorem WpG.imp {g : TG} {x : AV} {kn kn' : En → Prop} (h : WpG K F g x ρ kn) (i : ∀ ρ, kn ρ → kn' ρ) : WpG K F g x ρ kn' := fun as σ H G v e r Q q => h as σ H G v e r Q fun ρ' as' σ' H' G' a b c => q ρ' as' σ' H' G' (i _ a) b c
theorem WpT.imp {kb kb' : Bool → En → Prop} (h : WpT K F tt ρ kb) (i : ∀ b ρ, kb b ρ → kb' b ρ) : WpT K F tt ρ kb' := fun as σ H G e Q q => h as σ H G e Q fun b ρ' as' H' G' a c d => q b ρ' as' H' G' (i _ _ a) c d
/-- what holds at a turn's end -/
inductive Now (p : Prop) : Prop
  | one (h : p)
  | two (h : p)
theorem now {p : Prop} (h : p) : Now p := .one h
theorem Now.out {p : Prop} (h : Now p) : p := by cases h <;> assumption
theorem loop_by {n : Nat} {gd : En → Prop} {g : TG} {tb : TS} {ds : List D} (I : List D → En → Prop) (h0 : I ds ρ) (hn : ∀ ρ, I [] ρ → gd ρ ∧ ks.nx ρ)
    (hs : ∀ d ds ρ, I (d :: ds) ρ → gd ρ ∧ WpG K F g (.dat d) ρ fun ρ1 => WpS K F tb ρ1 { nx := fun ρ2 => Now (I ds ρ2), rt := ks.rt, ct := fun ρ2 => Now (I ds ρ2), bk := ks.nx }) : Loop K F n gd g tb ks ds ρ := by
  induction ds generalizing ρ with
  | nil => exact hn ρ h0
  | cons d ds ih =>
    obtain ⟨a, b⟩ := hs d ds ρ h0
    exact ⟨a, b.imp fun ρ1 h1 => h1.imp (fun ρ2 h2 => ⟨ρ2, .all, ih h2.out⟩) (fun _ _ z => z) (fun _ z => z) (fun ρ2 h2 => ⟨ρ2, .all, ih h2.out⟩)⟩
/-- .. each turn's own cells forgotten -/
theorem loop_cut {n : Nat} {gd : En → Prop} {g : TG} {tb : TS} {ds : List D} (I : List D → En → Prop) (h0 : I ds ρ) (hn : ∀ ρ, I [] ρ → gd ρ ∧ ks.nx ρ)
    (hs : ∀ d ds ρ, I (d :: ds) ρ → gd ρ ∧ WpG K F g (.dat d) ρ fun ρ1 => WpS K F tb ρ1 { nx := fun ρ2 => Now (I ds (ρ2.trunc n)), rt := ks.rt, ct := fun ρ2 => Now (I ds (ρ2.trunc n)), bk := ks.nx }) : Loop K F n gd g tb ks ds ρ := by
  induction ds generalizing ρ with
  | nil => exact hn ρ h0
  | cons d ds ih =>
    obtain ⟨a, b⟩ := hs d ds ρ h0
    exact ⟨a, b.imp fun ρ1 h1 => h1.imp (fun ρ2 h2 => ⟨_, .cut, ih h2.out⟩) (fun _ _ z => z) (fun _ z => z) (fun ρ2 h2 => ⟨_, .cut, ih h2.out⟩)⟩
/-- .. each turn's end as one likes -/
theorem loop_any {n : Nat} {gd : En → Prop} {g : TG} {tb : TS} {ds : List D} (I : List D → En → Prop) (h0 : I ds ρ) (hn : ∀ ρ, I [] ρ → gd ρ ∧ ks.nx ρ)
    (hs : ∀ d ds ρ, I (d :: ds) ρ → gd ρ ∧ WpG K F g (.dat d) ρ fun ρ1 => WpS K F tb ρ1 { nx := fun ρ2 => Now (∃ ρ3, Tr n ρ2 ρ3 ∧ I ds ρ3), rt := ks.rt, ct := fun ρ2 => Now (∃ ρ3, Tr n ρ2 ρ3 ∧ I ds ρ3), bk := ks.nx }) : Loop K F n gd g tb ks ds ρ := by
  induction ds generalizing ρ with
  | nil => exact hn ρ h0
  | cons d ds ih =>
    obtain ⟨a, b⟩ := hs d ds ρ h0
    exact ⟨a, b.imp fun ρ1 h1 => h1.imp (fun ρ2 h2 => let ⟨ρ3, t, i⟩ := h2.out; ⟨ρ3, t, ih i⟩) (fun _ _ z => z) (fun _ z => z) (fun ρ2 h2 => let ⟨ρ3, t, i⟩ := h2.out; ⟨ρ3, t, ih i⟩)⟩
theorem loopC_by {gd : En → Prop} {g : TG} {vs : List Nat} {n : Nat} {ds : List D} (I : List D → En → Prop) (h0 : I ds ρ) (hn : ∀ ρ, I [] ρ → gd ρ ∧ k (.cel n) ρ)
    (hs : ∀ d ds ρ, I (d :: ds) ρ → gd ρ ∧ WpG K F g (.dat d) ρ fun ρ1 => WpT K F tt ρ1 fun b ρ2 => if b = true then WpE K F te ρ2 fun y ρ3 => ∃ e ρ4 acc, Frz [y] ρ3 [e] ρ4 ∧ ρ4.ce[n]? = some (.lst acc) ∧ acc.length < 16000000 ∧ Now (I ds (((ρ4.cell n (.lst (acc ++ [e]))).wipe vs).trunc (n + 1)))
      else Now (I ds ((ρ2.wipe vs).trunc (n + 1)))) : LoopC K F gd g tt te vs n k ds ρ := by
  induction ds generalizing ρ with
  | nil => exact hn ρ h0
  | cons d ds ih =>
    obtain ⟨a, b⟩ := hs d ds ρ h0
    refine ⟨a, b.imp fun ρ1 h1 => h1.imp fun b ρ2 h2 => ?_⟩
    cases b with
    | true => exact WpE.imp h2 fun y ρ3 ⟨e, ρ4, acc, x1, x2, x3, x4⟩ => ⟨e, ρ4, acc, x1, x2, x3, _, .cut, ih x4.out⟩
    | false => exact ⟨_, .cut, ih (show Now _ from h2).out⟩
end
section
variable {K : PySem.W.Frag} {F : Fx} {ρ : En} {k : AV → En → Prop}
/-- an item at a drawn place -/
theorem wr_ixA {x : AV} {ds : List D} {i : Int} (hx : IsL ρ x ds) (h0 : 0 ≤ i) (h1 : i < ds.length) (hk : ∀ d ∈ ds, k (.dat d) ρ) : WpR K F (rIxL K) x (.dat (.int i)) ρ k := by
  have hl : i.toNat < ds.length := by omega
  have e : ((i.toNat : Nat) : Int) = i := by omega
  have ha := atI_nat (xs := ds) (j := i.toNat) (v := ds[i.toNat]) (List.getElem?_eq_getElem hl)
  rw [e] at ha
  exact wr_ixL hx ha (hk _ (List.getElem_mem hl))
/-- a list of one number is a state to draw from -/
theorem EnvOk.drw {as : List Addr} {σ : L2.St} {H G : Hp} {j : Nat} {n : Int} (e : EnvOk K F ρ as σ H G) (hj : ρ.ce[j]? = some (.lst [.int n])) : EnvOk K F (ρ.cell j .drw) as σ H G := by
  have hl : j < ρ.ce.length := (List.getElem?_eq_some_iff.mp hj).1
  refine ⟨e.gh, e.fh, e.fg, e.g0, e.nd, e.pr, by rw [e.ln]; exact (List.length_set).symm, fun i c a hc ha => ?_, e.sn, e.sl, by
    obtain ⟨Ts, r⟩ := e.rg
    exact r.setC (List.getElem?_eq_getElem (by rw [e.ln]; exact hl)) (fun _ _ z => nomatch z) (fun _ _ _ h => h) (fun _ _ _ _ g => g) (Same.refl _)⟩
  have hc' : (ρ.ce.set j .drw)[i]? = some c := hc
  by_cases hij : j = i
  · subst hij
    rw [List.getElem?_set_self hl] at hc'
    cases hc'
    obtain ⟨fa, ho, g, ws, hw, hr⟩ := e.ce j _ a hj ha
    refine ⟨fa, ho, g, ws, hw, ?_⟩
    cases hr with
    | cons x y => cases y; cases x; exact .inl ⟨_, rfl⟩
  · rw [List.getElem?_set_ne hij] at hc'
    exact e.ce i c a hc' ha
theorem wsp_drw {sp : Sp} {E : L2.St → XK} {xs : List AV} {j : Nat} {n : Int} (hj : ρ.ce[j]? = some (.lst [.int n])) (h : WpSp K F sp E xs (ρ.cell j .drw) k) : WpSp K F sp E xs ρ k := fun as σ H G vs e r Q q =>
  h as σ H G vs (e.drw hj) r Q (q.imp .refl fun _ _ z => z)
theorem ws_drw {t : TS} {ks : KS} {j : Nat} {n : Int} (hj : ρ.ce[j]? = some (.lst [.int n])) (h : WpS K F t (ρ.cell j .drw) ks) : WpS K F t ρ ks := fun as σ H G e D q => h as σ H G (e.drw hj) D q
end
theorem rngD_len {lo : Int} {n : Nat} : (rngD lo n).length = n := by unfold rngD; rw [List.length_map, List.length_range]
theorem rngD_drop {lo : Int} {n i : Nat} (h : i < n) : (rngD lo n).drop i = .int (lo + i) :: (rngD lo n).drop (i + 1) := by
  have hl : i < (rngD lo n).length := by rw [rngD_len]; exact h
  rw [List.drop_eq_getElem_cons hl]
  congr 1
  have : (rngD lo n)[i]? = some (.int (lo + i)) := by unfold rngD; rw [List.getElem?_map, List.getElem?_range h]; rfl
  rw [List.getElem?_eq_getElem hl] at this
  exact Option.some.inj this
section
variable {K : PySem.W.Frag} {F : Fx} {ρ : En} {k : AV → En → Prop} {ks : KS} {te : TE} {tt : TT}
theorem loop_rng {m : Nat} {gd : En → Prop} {g : TG} {tb : TS} {lo : Int} {n : Nat} (I : Nat → En → Prop) (h0 : I 0 ρ) (hn : ∀ ρ, I n ρ → gd ρ ∧ ks.nx ρ)
    (hs : ∀ i ρ, i < n → I i ρ → gd ρ ∧ WpG K F g (.dat (.int (lo + i))) ρ fun ρ1 => WpS K F tb ρ1 { nx := fun ρ2 => Now (I (i + 1) (ρ2.trunc m)), rt := ks.rt, ct := fun ρ2 => Now (I (i + 1) (ρ2.trunc m)), bk := ks.nx }) : Loop K F m gd g tb ks (rngD lo n) ρ := by
  refine loop_cut (fun ds ρ => ∃ i, i ≤ n ∧ ds = (rngD lo n).drop i ∧ I i ρ) ⟨0, Nat.zero_le _, rfl, h0⟩ ?_ ?_
  · rintro ρ ⟨i, hi, hd, h⟩
    have : i = n := by
      rcases Nat.lt_or_ge i n with z | z
      · rw [rngD_drop z] at hd; cases hd
      · omega
    subst this
    exact hn ρ h
  · rintro d ds ρ ⟨i, hi, hd, h⟩
    rcases Nat.lt_or_ge i n with z | z
    · rw [rngD_drop z] at hd
      cases hd
      obtain ⟨a, b⟩ := hs i ρ z h
      exact ⟨a, b.imp fun ρ1 h1 => h1.imp (fun ρ2 h2 => now ⟨i + 1, z, rfl, h2.out⟩) (fun _ _ z => z) (fun _ z => z) (fun ρ2 h2 => now ⟨i + 1, z, rfl, h2.out⟩)⟩
    · rw [List.drop_of_length_le (by rw [rngD_len]; exact z)] at hd; cases hd
theorem loopC_rng {gd : En → Prop} {g : TG} {vs : List Nat} {m : Nat} {lo : Int} {n : Nat} (I : Nat → En → Prop) (h0 : I 0 ρ) (hn : ∀ ρ, I n ρ → gd ρ ∧ k (.cel m) ρ)
    (hs : ∀ i ρ, i < n → I i ρ → gd ρ ∧ WpG K F g (.dat (.int (lo + i))) ρ fun ρ1 => WpT K F tt ρ1 fun b ρ2 => if b = true then WpE K F te ρ2 fun y ρ3 => ∃ e ρ4 acc, Frz [y] ρ3 [e] ρ4 ∧ ρ4.ce[m]? = some (.lst acc) ∧ acc.length < 16000000 ∧ Now (I (i + 1) (((ρ4.cell m (.lst (acc ++ [e]))).wipe vs).trunc (m + 1)))
      else Now (I (i + 1) ((ρ2.wipe vs).trunc (m + 1)))) : LoopC K F gd g tt te vs m k (rngD lo n) ρ := by
  refine loopC_by (fun ds ρ => ∃ i, i ≤ n ∧ ds = (rngD lo n).drop i ∧ I i ρ) ⟨0, Nat.zero_le _, rfl, h0⟩ ?_ ?_
  · rintro ρ ⟨i, hi, hd, h⟩
    have : i = n := by
      rcases Nat.lt_or_ge i n with z | z
      · rw [rngD_drop z] at hd; cases hd
      · omega
    subst this
    exact hn ρ h
  · rintro d ds ρ ⟨i, hi, hd, h⟩
    rcases Nat.lt_or_ge i n with z | z
    · rw [rngD_drop z] at hd
      cases hd
      obtain ⟨a, b⟩ := hs i ρ z h
      refine ⟨a, b.imp fun ρ1 h1 => h1.imp fun b ρ2 h2 => ?_⟩
      cases b with
      | true => exact WpE.imp h2 fun y ρ3 ⟨e, ρ4, acc, x1, x2, x3, x4⟩ => ⟨e, ρ4, acc, x1, x2, x3, now ⟨i + 1, z, rfl, x4.out⟩⟩
      | false => exact now ⟨i + 1, z, rfl, (show Now _ from h2).out⟩
    · rw [List.drop_of_length_le (by rw [rngD_len]; exact z)] at hd; cases hd
end
/-! ### rules of the data layer: truth of lists, items stored, pop -/
def tTru (K : PySem.W.Frag) (ta : TE) : TT := fun σ H Q => ta σ H fun x H' => ∃ k, TruV K x H' k ∧ Q k H'
theorem pt_tru {X : Cx} {K : PySem.W.Frag} {a : Expr} {ta : TE} (hK : X.K = K) (h : PE X a ta) (he : ∀ whole, isTrue a X.env whole = (do let v ← whole; standAt a.pos; holding [v] (truthy v))) : PT X a (tTru K ta) := by
  subst hK
  exact pt_truth h he
section
variable {K : PySem.W.Frag} {F : Fx} {ρ : En} {k : AV → En → Prop} {kb : Bool → En → Prop} {ta to ti : TE}
theorem isEmpty_reps {G : Hp} {ds : List D} {vs : List V} (h : Reps K G ds vs) : vs.isEmpty = ds.isEmpty := by
  cases ds with
  | nil => cases h; rfl
  | cons => cases h; rfl
theorem wt_tru (h : WpE K F ta ρ fun x ρ1 => ∃ ds, IsL ρ1 x ds ∧ kb (!ds.isEmpty) ρ1) : WpT K F (tTru K ta) ρ kb := fun as σ H G e Q q =>
  h as σ H G e _ fun x ρ1 vx as1 H1 G1 ⟨ds, hx, h1⟩ e1 g1 r1 => by
    obtain ⟨a, vs, rfl, hs, hr⟩ := hx.rep e1 r1
    refine ⟨!ds.isEmpty, .inl ⟨vs, hs, by rw [isEmpty_reps hr]⟩, q _ _ _ _ _ h1 e1 g1⟩
theorem wg_sub {x : AV} {kn : En → Prop} (h : WpE K F to ρ fun o ρ1 => WpE K F ti ρ1 fun i ρ2 => ∃ (j m : Nat) (n : Int) (d : D) (ρ3 : En) (ds : List D), o = .cel j ∧ i = .dat (.int n) ∧ Frz [x] ρ2 [d] ρ3 ∧ ρ3.ce[j]? = some (.lst ds) ∧ ixN ds.length n = some m ∧ kn (ρ3.cell j (.lst (ds.set m d)))) : WpG K F (gSub to ti rSetL) x ρ kn := fun as σ H G v e r Q q =>
  h as σ H G e _ fun o ρ1 vo as1 H1 G1 h1 e1 g1 r1 => h1 as1 σ H1 G1 e1 _ fun i ρ2 vi as2 H2 G2 ⟨j, m, n, d, ρ3, ds, eo, ei, fz, hc, hi, hk⟩ e2 g2 r2 => by
    subst eo ei
    obtain ⟨G3, e3, g3, r3⟩ := fz.run e2 (.cons (r.mono (g1.trans g2)) .nil)
    obtain ⟨a, ha, rfl⟩ := r1.mono g2
    cases r3 with
    | cons y z =>
      cases z
      obtain ⟨_, _, g, ws, hw, hr⟩ := e3.ce j _ a hc ha
      refine ⟨a, ws, n, m, rfl, Rep.intE r2, hw, by rw [hr.length]; exact hi, q _ as2 σ _ G3 hk (e3.setC hc ha g ⟨g, _, upd_same, hr.set y m⟩) (g1.trans (g2.trans g3))⟩
theorem wm_pop {j : Nat} {ds : List D} {d : D} (hc : ρ.ce[j]? = some (.lst ds)) (hd : ds.getLast? = some d) (hk : k (.dat d) (ρ.cell j (.lst ds.dropLast))) : WpM K F rPop (.cel j) [] ρ k := fun as σ H G v vs e r1 r2 Q q => by
  obtain ⟨a, ha, rfl⟩ := r1
  cases r2
  obtain ⟨_, _, g, ws, hw, hr⟩ := e.ce j _ a hc ha
  rw [List.getLast?_eq_getElem?] at hd
  obtain ⟨v, hv, rv⟩ := hr.get hd
  have hdl : Reps K G ds.dropLast ws.dropLast := by
    rw [List.dropLast_eq_take, List.dropLast_eq_take, hr.length]
    exact hr.take _
  exact ⟨a, ws, v, rfl, rfl, hw, by rw [hr.length]; exact hv, q _ _ _ as _ G hk (e.setC hc ha g ⟨g, _, upd_same, hdl⟩) .refl rv⟩
theorem sub_in {o i : AV} {x : AV} {j m : Nat} {n : Int} {d : D} {ρ2 ρ3 : En} {ds : List D} {kn : En → Prop} (h1 : o = .cel j) (h2 : i = .dat (.int n)) (h0 : Frz [x] ρ2 [d] ρ3) (h3 : ρ3.ce[j]? = some (.lst ds)) (h4 : ixN ds.length n = some m) (hk : kn (ρ3.cell j (.lst (ds.set m d)))) :
    ∃ (j m : Nat) (n : Int) (d : D) (ρ3 : En) (ds : List D), o = .cel j ∧ i = .dat (.int n) ∧ Frz [x] ρ2 [d] ρ3 ∧ ρ3.ce[j]? = some (.lst ds) ∧ ixN ds.length n = some m ∧ kn (ρ3.cell j (.lst (ds.set m d))) := ⟨j, m, n, d, ρ3, ds, h1, h2, h0, h3, h4, hk⟩
end
theorem mapC {α β : Type} (f : α → β) (a : α) (l : List α) : List.map f (a :: l) = f a :: List.map f l := rfl
theorem mapN {α β : Type} (f : α → β) : List.map f [] = [] := rfl
theorem frzA_d (j : Nat) (d e : D) : frzA j d (.dat e) = .dat e := rfl
theorem frzA_c (j i : Nat) (d : D) : frzA j d (.cel i) = if i = j then .dat d else .cel i := rfl
/-! ### try by data -/
section
variable {K : PySem.W.Frag} {F : Fx} {ρ : En} {k : AV → En → Prop} {ks : KS}
def En.clr (ρ : En) (i : Nat) : En := ⟨ρ.sl.set i none, ρ.ce⟩
theorem EnvOk.clr {as : List Addr} {σ : L2.St} {H G : Hp} (e : EnvOk K F ρ as σ H G) (i : Nat) : EnvOk K F (ρ.clr i) as (σ.set i none) H G :=
  ⟨e.gh, e.fh, e.fg, e.g0, e.nd, e.pr, e.ln, e.ce, by rw [List.length_set, e.sn]; exact (List.length_set).symm, fun j av hj => by
    have hj' : (ρ.sl.set i none)[j]? = some (some av) := hj
    by_cases hij : i = j
    · subst hij
      rw [List.getElem?_set] at hj'
      simp at hj'
    · rw [List.getElem?_set_ne hij] at hj'
      obtain ⟨v, hv, r⟩ := e.sl j av hj'
      exact ⟨v, by rw [List.getElem?_set_ne hij]; exact hv, r⟩, e.rg⟩
def KS.off (ks : KS) (i : Nat) : KS := { nx := fun ρ => ks.nx (ρ.clr i), rt := ks.rt, bk := fun ρ => ks.bk (ρ.clr i), ct := fun ρ => ks.ct (ρ.clr i) }
theorem EndsOk.off {as : List Addr} {G : Hp} {D : Ends} (q : EndsOk K F as G ks D) (i : Nat) : EndsOk K F as G (ks.off i) (offAt i D) :=
  ⟨fun ρ as' σ H G' a b c => q.nx _ as' _ H G' a (b.clr i) c, q.rt, fun ρ as' σ H G' a b c => q.bk _ as' _ H G' a (b.clr i) c, fun ρ as' σ H G' a b c => q.ct _ as' _ H G' a (b.clr i) c, q.fr⟩
/-- what an error of the class C meets at the clauses -/
def Mix (K : PySem.W.Frag) (F : Fx) (C : Addr) (out : Prop) : List (Value × Option Nat × Suite) → En → KS → Prop
  | [], _, _ => out
  | (c, none, t) :: r, ρ, ks => ∃ y, PySem.W.exmOne K (.ref C) c = some y ∧ if y = true then ∀ e, WpS K F (t e (.ref C) none) ρ ks else Mix K F C out r ρ ks
  | (c, some i, t) :: r, ρ, ks => ∃ y, PySem.W.exmOne K (.ref C) c = some y ∧ if y = true then ∀ e, WpS K F (t e (.ref C) none) (ρ.put i (.dat (.cls e))) (ks.off i) else Mix K F C out r ρ ks
theorem Mix.run {C : Addr} {out : Prop} {Wo : WX} {as as0 : List Addr} {σ : L2.St} {H G G0 : Hp} {D : Ends} (e : EnvOk K F ρ as σ H G) (hWo : out → Wo (.ref C) none σ H) (q : EndsOk K F as G ks D) : ∀ {l : List (Value × Option Nat × Suite)}, Mix K F C out l ρ ks → wMix K Wo D l (.ref C) none σ H
  | [], h => hWo h
  | (c, none, t) :: r, ⟨y, hy, h⟩ => by
    refine ⟨y, hy, fun z x _ => ?_, fun z => ?_⟩
    · subst z
      exact (show ∀ x, WpS K F (t x (.ref C) none) ρ ks from h) x as σ H G e D q
    · subst z
      exact Mix.run (as0 := as0) (G0 := G0) e hWo q (show Mix K F C out r ρ ks from h)
  | (c, some i, t) :: r, ⟨y, hy, h⟩ => by
    refine ⟨y, hy, fun z x _ => ?_, fun z => ?_⟩
    · subst z
      exact (show ∀ x, WpS K F (t x (.ref C) none) (ρ.put i (.dat (.cls x))) (ks.off i) from h) x as _ H G (e.put (x := .dat (.cls x)) (Rep.cls x)) _ (q.off i)
    · subst z
      exact Mix.run (as0 := as0) (G0 := G0) e hWo q (show Mix K F C out r ρ ks from h)
/-- xk: which errors come, and at which environment -/
theorem ws_try {tb : WX → TS} {Wo : WX} {l : List (Value × Option Nat × Suite)} (xk : Addr → En → Prop) (out : Addr → Prop)
    (hWo : ∀ C ρ' as σ H G, out C → EnvOk K F ρ' as σ H G → Wo (.ref C) none σ H)
    (hb : ∀ (F1 : Fx) (W : WX), F1.fr = F.fr → (∀ C ρ' as σ H G, xk C ρ' → EnvOk K F1 ρ' as σ H G → W (.ref C) none σ H) → WpS K F1 (tb W) ρ ks)
    (hs : ∀ C ρ', xk C ρ' → Mix K F C (out C) l ρ' ks) : WpS K F (fun D u G => tb (wMix K Wo D l) D u G) ρ ks := fun as σ H G e D q => by
  have e1 : EnvOk K ⟨F.Fr, G, F.E, F.ex, F.hE, F.fr, as⟩ ρ as σ H G := ⟨e.gh, e.fh, fun a o h => .inl h, Same.refl _, e.nd, List.prefix_refl _, e.ln, e.ce, e.sn, e.sl, e.rg⟩
  have back : ∀ {ρ' : En} {as' : List Addr} {σ' : L2.St} {H' G' : Hp}, EnvOk K ⟨F.Fr, G, F.E, F.ex, F.hE, F.fr, as⟩ ρ' as' σ' H' G' → EnvOk K F ρ' as' σ' H' G' ∧ Gr G as G' as' := fun {ρ' as' σ' H' G'} x => by
    refine ⟨⟨x.gh, x.fh, fun a o h => ?_, Same.trans e.g0 x.g0, x.nd, e.pr.trans x.pr, x.ln, x.ce, x.sn, x.sl, x.rg⟩, ⟨x.g0, ?_⟩⟩
    · rcases x.fg a o h with z | z
      · exact e.fg a o z
      · exact .inr z
    · obtain ⟨r, hr⟩ := x.pr
      exact ⟨r, hr.symm⟩
  refine hb ⟨F.Fr, G, F.E, F.ex, F.hE, F.fr, as⟩ (wMix K Wo D l) rfl (fun C ρ' as' σ' H' G' hx ex => ?_) as σ H G e1 D ⟨fun ρ' as' σ' H' G' a b _ => ?_, fun av ρ' v as' σ' H' G' a b _ r => ?_, fun ρ' as' σ' H' G' a b _ => ?_, fun ρ' as' σ' H' G' a b _ => ?_, q.fr⟩
  · obtain ⟨b1, g1⟩ := back ex
    exact Mix.run (as0 := as) (G0 := G) b1 (fun z => hWo C ρ' as' σ' H' G' z b1) (EndsOk.grow K F q g1) (hs C ρ' hx)
  · obtain ⟨b1, g1⟩ := back b
    exact q.nx ρ' as' σ' H' G' a b1 g1
  · obtain ⟨b1, g1⟩ := back b
    exact q.rt av ρ' v as' σ' H' G' a b1 g1 r
  · obtain ⟨b1, g1⟩ := back b
    exact q.bk ρ' as' σ' H' G' a b1 g1
  · obtain ⟨b1, g1⟩ := back b
    exact q.ct ρ' as' σ' H' G' a b1 g1
/-- nothing is let out -/
theorem ws_try0 {tb : WX → TS} {l : List (Value × Option Nat × Suite)} (xk : Addr → En → Prop)
    (hb : ∀ (F1 : Fx) (W : WX), F1.fr = F.fr → (∀ C ρ' as σ H G, xk C ρ' → EnvOk K F1 ρ' as σ H G → W (.ref C) none σ H) → WpS K F1 (tb W) ρ ks)
    (hs : ∀ C ρ', xk C ρ' → Mix K F C False l ρ' ks) : WpS K F (fun D u G => tb (wMix K (fun _ _ _ _ => False) D l) D u G) ρ ks := ws_try xk (fun _ => False) (fun _ _ _ _ _ _ z _ => z) hb hs
/-- a call in a try: its errors meet the clauses -/
theorem wspT {W : PW0} {Wx : WX} {xk : Addr → En → Prop} {xs : List AV} {ds : List D} (hW : ∀ C ρ' as σ H G, xk C ρ' → EnvOk K F ρ' as σ H G → Wx (.ref C) none σ H) (ha : AsD ρ xs ds) (hw : W (ds.map .dat) [] (fun r _ => aft ρ xs k r) (fun C => xk C ρ)) : WpSp K F (spG K W) (L2.WE Wx) xs ρ k := wsp0 ha (fun C as σ H G h e => hW C ρ as σ H G h e) hw
/-- isinstance of a caught error -/
theorem wc_isE {a C Y : Addr} {b : Bool} (hx : ExcC K C) (hk : PySem.W.kitOne K (.ref C) (.ref Y) = some b) (h : k (.dat (.bl b)) ρ) : WpC K F (fun xs H Q => ∃ D, Value.ref C = .ref D ∧ (none : Option Addr) = none ∧ ExcC K D ∧ rIsE K D a xs H Q) [.dat (.cls a), .dat (.cls Y)] ρ k := fun as σ H G vs e r Q q => by
  cases r with
  | cons r1 r2 =>
    cases r2 with
    | cons r2 r3 =>
      cases r3
      cases (show Rep K G (.cls a) _ from r1)
      cases (show Rep K G (.cls Y) _ from r2)
      exact ⟨C, rfl, rfl, hx, _, _, b, rfl, (fun u hu => by cases hu; rfl), hk, q _ ρ _ as H G h e .refl (Rep.bl _)⟩
theorem wc_isEB {a C : Addr} {s : String} {b : Bool} (hx : ExcC K C) (hk : PySem.W.kitOne K (.ref C) (.type s) = some b) (h : k (.dat (.bl b)) ρ) : WpC K F (fun xs H Q => ∃ D, Value.ref C = .ref D ∧ (none : Option Addr) = none ∧ ExcC K D ∧ rIsE K D a xs H Q) [.dat (.cls a), .dat (.ty s)] ρ k := fun as σ H G vs e r Q q => by
  cases r with
  | cons r1 r2 =>
    cases r2 with
    | cons r2 r3 =>
      cases r3
      cases (show Rep K G (.cls a) _ from r1)
      cases (show Rep K G (.ty s) _ from r2)
      exact ⟨C, rfl, rfl, hx, _, _, b, rfl, (fun u hu => by cases hu; rfl), hk, q _ ρ _ as H G h e .refl (Rep.bl _)⟩
/-- {} -/
theorem we_dnew (h : k (.dat .dic) ρ) : WpE K F tDNewK ρ k := fun as σ H G e Q q p hp => by
  obtain ⟨e3, g3⟩ := e.newG (o := .dK []) hp
  exact q _ _ _ _ _ _ h e3 g3 (Rep.dic upd_same)
end
/-! ### a try as one word -/
def tTry (K : PySem.W.Frag) (tb : WX → TS) (Wo : WX) (l : List (Value × Option Nat × Suite)) : TS := fun D u G => tb (wMix K Wo D l) D u G
theorem ps_tryT {X : Cx} {body : List Stmt} {h1 : ExceptHandler} {hds : List ExceptHandler} {l : List (Value × Option Nat × Suite)} {pos : Pos} {tb : WX → TS} {Wo : WX} (hs : X.stack = X.env :: X.outer) (hf : X.env.frame = some X.env.locals) (tk : Takes X Wo)
    (hb : ∀ W pn xe, Takes (X.tr pn xe) W → PassesOwn (model X.prog X.w) X.A X.env xe → PSs (X.tr pn xe) body (tb W)) (hh : Clauses X (h1 :: hds) l) :
    PS X (.Try body (h1 :: hds) [] [] pos) (tTry X.K tb Wo l) := ps_try_mix hs hf tk hb hh
section
variable {K : PySem.W.Frag} {F : Fx} {ρ : En} {k : AV → En → Prop} {ks : KS}
theorem ws_tryT {tb : WX → TS} {l : List (Value × Option Nat × Suite)} (xk : Addr → En → Prop)
    (hb : ∀ (F1 : Fx) (W : WX), F1.fr = F.fr → (∀ C ρ' as σ H G, xk C ρ' → EnvOk K F1 ρ' as σ H G → W (.ref C) none σ H) → WpS K F1 (tb W) ρ ks)
    (hs : ∀ C ρ', xk C ρ' → Mix K F C False l ρ' ks) : WpS K F (tTry K tb (fun _ _ _ _ => False) l) ρ ks := ws_try0 xk hb hs
end
/-! ### tuples that hold cells -/
section
variable {K : PySem.W.Frag} {F : Fx} {ρ : En} {k : AV → En → Prop} {ks : KS} {t : TA}
def TN.av : TN → AV
  | .dat d => .dat d
  | .cel j => .cel j
  | .tup xs => .tup xs
def AV.tn : AV → TN
  | .dat d => .dat d
  | .cel j => .cel j
  | .tup xs => .tup xs
theorem TNr.av {G : Hp} {as : List Addr} {x : TN} {v : V} (h : TNr K G as x v) : RepA K G as x.av v := by
  cases h with
  | dat r => exact r
  | cel e => exact ⟨_, e, rfl⟩
  | tup s r => exact ⟨_, _, rfl, s, r⟩
theorem TNr.tn {G : Hp} {as : List Addr} {x : AV} {v : V} (h : RepA K G as x v) : TNr K G as x.tn v := by
  cases x with
  | dat d => exact .dat h
  | cel j => obtain ⟨a, e, rfl⟩ := h; exact .cel e
  | tup xs => obtain ⟨a, vs, rfl, s, r⟩ := h; exact .tup s r
theorem TNs.get {G : Hp} {as : List Addr} {xs : List TN} {vs : List V} (h : TNs K G as xs vs) : ∀ {i : Nat} {x : TN}, xs[i]? = some x → ∃ v, vs[i]? = some v ∧ TNr K G as x v := by
  induction xs generalizing vs with
  | nil => intro i x e; simp at e
  | cons y ys ih =>
    cases h with
    | cons a b =>
      intro i x e
      cases i with
      | zero => simp at e; subst e; exact ⟨_, rfl, a⟩
      | succ i => obtain ⟨v, q, r⟩ := ih b (i := i) (by simpa using e); exact ⟨v, by simpa using q, r⟩
theorem TNs.tns {G : Hp} {as : List Addr} : ∀ {xs : List AV} {vs : List V}, RepAs K G as xs vs → TNs K G as (xs.map AV.tn) vs
  | [], _, h => by cases h; exact .nil
  | x :: xs, _, h => by cases h with | cons a b => exact .cons (TNr.tn a) (TNs.tns b)
theorem TNs.avs {G : Hp} {as : List Addr} : ∀ {xs : List TN} {vs : List V}, TNs K G as xs vs → RepAs K G as (xs.map TN.av) vs
  | [], _, h => by cases h; exact .nil
  | x :: xs, _, h => by cases h with | cons a b => exact .cons a.av (TNs.avs b)
theorem TNs.len {G : Hp} {as : List Addr} : ∀ {xs : List TN} {vs : List V}, TNs K G as xs vs → vs.length = xs.length
  | [], _, h => by cases h; rfl
  | x :: xs, _, h => by cases h with | cons a b => exact congrArg (· + 1) (TNs.len b)
/-- (a, b, ..): its lists stay lists that are written to -/
theorem we_tupC (h : WpA K F t ρ fun xs ρ1 => Nat.ble xs.length 1000 = true ∧ k (.tup (xs.map AV.tn)) ρ1) : WpE K F (tTup t) ρ k := fun as σ H G e Q q =>
  h as σ H G e _ fun xs ρ1 vs as1 H1 G1 ⟨hl, hk⟩ e1 g1 r1 => by
    refine ⟨sz (by rw [r1.length]; exact hl), fun p hp => ?_⟩
    obtain ⟨e3, g3⟩ := e1.newG (o := .tup vs) hp
    exact q _ _ _ _ _ _ hk e3 (g1.trans g3) ⟨p, vs, rfl, SqT.of upd_same, TNs.mono g3 _ _ (TNs.tns r1)⟩
/-- an item by its place -/
theorem wr_ixC {xs : List TN} {x : TN} {i : Int} {j : Nat} (hi : ixN xs.length i = some j) (hx : xs[j]? = some x) (hk : k x.av ρ) : WpR K F (rIxT K) (.tup xs) (.dat (.int i)) ρ k := fun as σ H G vx vy e r1 r2 Q q => by
  obtain ⟨a, vs, rfl, s, r⟩ := r1
  rw [Rep.intE r2]
  obtain ⟨v, hv, rv⟩ := r.get hx
  refine ⟨a, vs, i, v, rfl, rfl, Same.seqT e.gh s, ?_, q _ ρ _ as H G hk e .refl rv.av⟩
  unfold atI
  rw [r.len, hi]
  exact hv
/-- its items by name -/
theorem wg_tupC {n : Nat} {gs : TGs} {xs : List TN} {kn : En → Prop} (hn : xs.length = n) (h : WpGs K F gs (xs.map TN.av) ρ kn) : WpG K F (gTup K n gs) (.tup xs) ρ kn := fun as σ H G v e r Q q => by
  obtain ⟨a, vs, rfl, s, rs⟩ := r
  exact ⟨a, vs, rfl, Same.seqT e.gh s, by rw [rs.len]; exact hn, h as σ H G vs e (TNs.avs rs) Q q⟩
theorem wc_isiT {T : String} {xs : List TN} (hT : T ∈ ["int", "bool", "str", "tuple", "list"]) (hk : k (.dat (.bl (T == "tuple"))) ρ) : WpC K F (rIsi K) [.tup xs, .dat (.ty T)] ρ k := fun as σ H G vs e r Q q => by
  cases r with
  | cons r1 c =>
    cases c with
    | cons r2 c =>
      cases c
      cases (show Rep K G (.ty T) _ from r2)
      obtain ⟨a, ws, rfl, s, rs⟩ := r1
      have h2 : kitB "tuple" T = some (T == "tuple") := by
        simp only [List.mem_cons, List.not_mem_nil, or_false] at hT
        rcases hT with rfl | rfl | rfl | rfl | rfl <;> decide +kernel
      exact ⟨_, _, _, _, _, rfl, .ty _, SqT.ty (Same.seqT e.gh s), kit_ty h2, q _ ρ _ as H G hk e .refl (Rep.bl _)⟩
theorem fin_prt {n : Nat} {post : RV → List Cell → Prop} {xs ds ys : List D} {j : Nat} (hj : n ≤ j) (hc : ρ.ce[j]? = some (.lst ds)) (ng : noGone (ρ.ce.take n) = true) (q : post (.prt xs ds ys) (ρ.ce.take n)) : (KS.fin n post).rt (.tup (xs.map .dat ++ .cel j :: ys.map .dat)) ρ := ⟨_, .prt hj hc, ng, q⟩
end
/-! ### objects by data -/
def lookD : List Str → List D → Str → Option D
  | n :: ns, d :: ds, f => if (f == n) = true then some d else lookD ns ds f
  | _, _, _ => none
def putN (f : Str) : List Str → List Str
  | [] => [f]
  | g :: r => if g = f then g :: r else g :: putN f r
def putD (f : Str) (d : D) : List Str → List D → List D
  | g :: r, x :: xs => if g = f then d :: xs else x :: putD f d r xs
  | _, _ => [d]
theorem look_rep {K : PySem.W.Frag} {G : Hp} {f : Str} {d : D} : ∀ {ns : List Str} {ds : List D} {vs : List V}, Reps K G ds vs → lookD ns ds f = some d → ∃ v, (ns.zip vs).lookup f = some v ∧ Rep K G d v
  | [], _, _, _, h => by rw [lookD] at h; cases h; simp
  | n :: ns, [], _, _, h => by rw [lookD] at h; cases h; simp
  | n :: ns, x :: ds, _, r, h => by
    cases r with
    | cons a b =>
      rw [lookD] at h
      rw [List.zip_cons_cons, List.lookup_cons]
      by_cases c : (f == n) = true
      · rw [if_pos c] at h
        cases h
        rw [c]
        exact ⟨_, rfl, a⟩
      · rw [if_neg c] at h
        rw [Bool.not_eq_true] at c
        rw [c]
        exact look_rep b h
def hasN (f : Str) : List Str → Bool
  | [] => false
  | n :: ns => (f == n) || hasN f ns
theorem look_none {f : Str} : ∀ {ns : List Str} {vs : List V}, hasN f ns = false → (ns.zip vs).lookup f = none
  | [], _, _ => by simp
  | _ :: _, [], _ => by simp
  | n :: ns, v :: vs, h => by
    rw [hasN, Bool.or_eq_false_iff] at h
    rw [List.zip_cons_cons, List.lookup_cons, h.1]
    exact look_none h.2
theorem put_zip {K : PySem.W.Frag} {G : Hp} {f : Str} {d : D} {v : V} (r : Rep K G d v) : ∀ {ns : List Str} {ds : List D} {vs : List V}, Reps K G ds vs → ns.length = ds.length → ∃ ws, putF f v (ns.zip vs) = (putN f ns).zip ws ∧ (putN f ns).length = (putD f d ns ds).length ∧ Reps K G (putD f d ns ds) ws
  | [], ds, vs, h, l => by
    cases ds with
    | nil => cases h; exact ⟨[v], rfl, rfl, .cons r .nil⟩
    | cons => cases l
  | n :: ns, [], _, _, l => by cases l
  | n :: ns, x :: ds, _, h, l => by
    cases h with
    | cons a b =>
      rename_i w ws
      by_cases c : n = f
      · refine ⟨v :: ws, ?_, ?_, ?_⟩
        · rw [List.zip_cons_cons, putF, if_pos c, putN, if_pos c]; rfl
        · rw [putN, if_pos c, putD, if_pos c]; exact l
        · rw [putD, if_pos c]; exact .cons r b
      · obtain ⟨us, e1, e2, e3⟩ := put_zip (f := f) r b (Nat.succ.inj l)
        refine ⟨w :: us, ?_, ?_, ?_⟩
        · rw [List.zip_cons_cons, putF, if_neg c, putN, if_neg c, e1]; rfl
        · rw [putN, if_neg c, putD, if_neg c, List.length_cons, List.length_cons, e2]
        · rw [putD, if_neg c]; exact .cons a e3
/-- an object: data, or a cell -/
inductive IsO (ρ : En) : AV → Addr → List Str → List D → Prop
  | dat {C : Addr} {ns : List Str} {ds : List D} : IsO ρ (.dat (.obj C ns ds)) C ns ds
  | cel {j : Nat} {C : Addr} {ns : List Str} {ds : List D} : ρ.ce[j]? = some (.ins C ns ds) → IsO ρ (.cel j) C ns ds
  | tag {j : Nat} {g C : Addr} {ns : List Str} {ds : List D} : ρ.ce[j]? = some (.oth (insX g C ns ds)) → IsO ρ (.dat (.cls g)) C ns ds
def En.addO (ρ : En) (C : Addr) : En := ⟨ρ.sl, ρ.ce ++ [.ins C [] []]⟩
section
variable {K : PySem.W.Frag} {F : Fx} {ρ : En} {k : AV → En → Prop} {ks : KS} {ta tv te : TE} {t : TA}
theorem IsO.rep {as : List Addr} {σ : L2.St} {H G : Hp} {x : AV} {C : Addr} {ns : List Str} {ds : List D} {v : V} (e : EnvOk K F ρ as σ H G) (h : IsO ρ x C ns ds) (r : RepA K G as x v) : ∃ a dx vs, v = .ref a ∧ H a = some (.ins C dx (ns.zip vs)) ∧ ns.length = ds.length ∧ Reps K G ds vs := by
  cases h with
  | dat => obtain ⟨a, dx, vs, rfl, ho, hl, hr⟩ := Rep.objE r; exact ⟨a, dx, vs, rfl, e.gh _ _ ho, hl, hr⟩
  | cel hc =>
    obtain ⟨a, ha, rfl⟩ := r
    obtain ⟨_, _, _, dx, vs, hv, hl, hr⟩ := e.ce _ _ a hc ha
    exact ⟨a, dx, vs, rfl, hv, hl, hr⟩
  | @tag j g C ns ds hc =>
    cases (show Rep K G (.cls g) v from r)
    obtain ⟨a, ha⟩ : ∃ a, as[j]? = some a := ⟨_, List.getElem?_eq_getElem (by rw [e.ln]; exact (List.getElem?_eq_some_iff.mp hc).1)⟩
    obtain ⟨_, _, _, o, ho, rfl, dx, vs, rfl, hl, hr⟩ := e.ce _ _ a hc ha
    exact ⟨a, dx, vs, rfl, ho, hl, hr K G⟩
theorem we_fld {f : Str} (h : WpE K F ta ρ fun x ρ1 => ∃ C ns ds d, IsO ρ1 x C ns ds ∧ Cls K C ∧ NoAttr K C f ∧ lookD ns ds f = some d ∧ k (.dat d) ρ1) : WpE K F (tFld K ta f) ρ k := fun as σ H G e Q q =>
  h as σ H G e _ fun x ρ1 vx as1 H1 G1 ⟨C, ns, ds, d, ho, cl, na, hl, hk⟩ e1 g1 r1 => by
    obtain ⟨a, dx, vs, rfl, hv, _, hr⟩ := ho.rep e1 r1
    obtain ⟨v, hlv, rv⟩ := look_rep hr hl
    exact ⟨a, C, dx, _, v, rfl, hv, cl, na, hlv, q _ _ _ _ _ _ hk e1 g1 rv⟩
theorem ws_fset {f : Str} (h : WpE K F tv ρ fun y ρ1 => WpE K F ta ρ1 fun x ρ2 => ∃ j C ns ds d ρ3, x = .cel j ∧ Frz [y] ρ2 [d] ρ3 ∧ ρ3.ce[j]? = some (.ins C ns ds) ∧ Cls K C ∧ NoAttr K C f ∧ Nat.ble ns.length 900 = true ∧ ks.nx (ρ3.cell j (.ins C (putN f ns) (putD f d ns ds)))) : WpS K F (sFld K ta tv f) ρ ks := fun as σ H G e D q =>
  h as σ H G e _ fun y ρ1 vy as1 H1 G1 h1 e1 g1 r1 => h1 as1 σ H1 G1 e1 _ fun x ρ2 vx as2 H2 G2 ⟨j, C, ns, ds, d, ρ3, ex, fz, hc, cl, na, hl, hk⟩ e2 g2 r2 => by
    subst ex
    obtain ⟨G3, e3, g3, r3⟩ := fz.run e2 (.cons (r1.mono g2) .nil)
    cases r3 with
    | cons ry rn =>
      cases rn
      obtain ⟨a, ha, rfl⟩ := r2
      obtain ⟨_, _, gn, dx, vs, hv, ln, hr⟩ := e3.ce j _ a hc ha
      obtain ⟨ws, ez, ln2, hr2⟩ := put_zip (f := f) ry hr ln
      have hl := Nat.le_of_ble_eq_true hl
      refine ⟨a, C, dx, ns.zip vs, rfl, hv, cl, na, by rw [List.length_zip]; omega, ?_⟩
      rw [ez]
      exact q.nx _ as2 σ _ G3 hk (e3.setO hc ha gn ⟨gn, dx, ws, upd_same, ln2, hr2⟩) (g1.trans (g2.trans g3))
theorem we_meth {C : Addr} {m : Str} {sp : Sp} {E : XK} (h : WpE K F ta ρ fun x ρ1 => ∃ ns ds, IsO ρ1 x C ns ds ∧ hasN m ns = false ∧ WpA K F t ρ1 fun xs ρ2 => WpSp K F sp (fun _ => E) (x :: xs) ρ2 k) : WpE K F (tMeth C m sp [] E ta t) ρ k := fun as σ H G e Q q =>
  h as σ H G e _ fun x ρ1 vx as1 H1 G1 ⟨ns, ds, ho, hn, h1⟩ e1 g1 r1 => by
    obtain ⟨a, dx, vs, rfl, hv, _, hr⟩ := ho.rep e1 r1
    refine ⟨a, dx, _, rfl, hv, look_none hn, h1 as1 σ H1 G1 e1 _ fun xs ρ2 ws as2 H2 G2 h2 e2 g2 r2 => ?_⟩
    rw [List.append_nil]
    exact h2 as2 σ H2 G2 _ e2 (.cons (r1.mono g2) r2) Q (q.imp (g1.trans g2) fun _ _ z => z)
def tMethS (C : Addr) (m : Str) (sp : Sp) (E : L2.St → XK) (ta : TE) (t : TA) : TE := fun u G Q => ta u G fun x G1 => ∃ a dx fs, x = .ref a ∧ G1 a = some (.ins C dx fs) ∧ fs.lookup m = none ∧ t u G1 fun vs G2 => sp (x :: vs) G2 Q (E u)
theorem we_methS {C : Addr} {m : Str} {sp : Sp} {E : L2.St → XK} (h : WpE K F ta ρ fun x ρ1 => ∃ ns ds, IsO ρ1 x C ns ds ∧ hasN m ns = false ∧ WpA K F t ρ1 fun xs ρ2 => WpSp K F sp E (x :: xs) ρ2 k) : WpE K F (tMethS C m sp E ta t) ρ k := fun as σ H G e Q q =>
  h as σ H G e _ fun x ρ1 vx as1 H1 G1 ⟨ns, ds, ho, hn, h1⟩ e1 g1 r1 => by
    obtain ⟨a, dx, vs, rfl, hv, _, hr⟩ := ho.rep e1 r1
    exact ⟨a, dx, _, rfl, hv, look_none hn, h1 as1 σ H1 G1 e1 _ fun xs ρ2 ws as2 H2 G2 h2 e2 g2 r2 => h2 as2 σ H2 G2 _ e2 (.cons (r1.mono g2) r2) Q (q.imp (g1.trans g2) fun _ _ z => z)⟩
/-- a method's call in a try -/
theorem pe_methT {X : Cx} {CT : CXT} {n : Nat} {C f : Addr} {fd : FuncData} {ps : List Str} {m : Str} {sp : Sp} {E : L2.St → XK} {o x : Expr} {es : List Expr} {p pos : Pos} {pl : Sem Bool} (he : PE X o ta) (c : Cls X.K C) (hm : Meth X.K C m f) (F0 : FnOk X.prog X.w X.K X.mg X.base CT n f fd ps sp) (hr : Room n X.A) (hb : Binds X.K fd ps []) (hx : ∀ u, PassesAt CT X u (E u)) (ha : PA X (x :: es) t)
    (s1 : starEach (x :: es) X.env = (false, eval x X.env) :: starEach es X.env := by rfl) (s2 : (backTo pos (starEach es X.env)).any (·.1) = false := by rfl)
    (s3 : eval (.Call (.Attribute o m p) (x :: es) [] pos) X.env = (do
      let r ← eval o X.env
      standAt p.atName
      let (g, a0) ← holding [r] (getMethod r m pl)
      callWith pos g a0 (backTo pos (starEach (x :: es) X.env)) (backToKw pos (keywordEach [] X.env))) := by rfl) : PE X (.Call (.Attribute o m p) (x :: es) [] pos) (tMethS C m sp E ta t) := by
  constructor
  intro pins s u G Q I h
  refine PySem.W.methodCall_KW (pl := pl) (thn (he.run pins s u G _ I h) ?_) s3
  rintro w s' ⟨v, G1, I1, r1, a, dx, fs, rfl, ho, hl, hq⟩
  obtain rfl : w = Value.ref a := r1
  refine getmeth_ok I1 ho c hm hl ?_
  refine PySem.W.callWith_K (first := [.ref a]) (h₀ := X.base) I.ok.mod.kin hm.kp (thn (ha.run pos pins s' u G1 _ I1 hq) ?_) s1 s2
  rintro us s4 ⟨vs, G2, I2, r2, q2⟩
  exact ⟨I2.kIn, run_fnS (us := .ref a :: us) (vs := .ref a :: vs) F0 hr hb (hx u) I2 (.cons rfl r2) q2⟩
/-- C(..) -/
theorem new_obj {as : List Addr} {σ : L2.St} {H G : Hp} {C x dx : Addr} (e : EnvOk K F ρ as σ H G) (hx : H x = none) (hd : H dx = none) (ne : dx ≠ x) : ∃ G', EnvOk K F (ρ.addO C) (as ++ [x]) σ (upd (upd H dx (.own x)) x (.ins C dx [])) G' ∧ Gr G as G' (as ++ [x]) ∧ as.length = ρ.ce.length := by
  obtain ⟨e1, g1⟩ := e.newG (o := .own x) hd
  have hx1 : upd H dx (.own x) x = none := by rw [upd_ne fun z => ne z.symm]; exact hx
  obtain ⟨e2, g2⟩ := e1.newO (o := .ins C dx []) (c0 := .ins C [] []) hx1 (fun gp => ⟨gp, dx, [], by rw [upd_same]; rfl, rfl, .nil⟩)
  exact ⟨_, e2, g1.trans g2, e.ln⟩
theorem we_make {C : Addr} {sp : Sp} {E : XK} (h : WpA K F t ρ fun xs ρ1 => ∃ ds ρ2, Frz xs ρ1 ds ρ2 ∧ WpSp K F sp (fun _ => E) (.cel ρ2.ce.length :: ds.map .dat) (ρ2.addO C) fun r ρ3 => r = .dat .non ∧ k (.cel ρ2.ce.length) ρ3) : WpE K F (tMake C sp [] E t) ρ k := fun as σ H G e Q q =>
  h as σ H G e _ fun xs ρ1 vs as1 H1 G1 ⟨ds, ρ2, fz, h1⟩ e1 g1 r1 x dx hx hd ne => by
    obtain ⟨G2, e2, g2, r2⟩ := fz.run e1 r1
    obtain ⟨G3, e3, g3, ln⟩ := new_obj (C := C) e2 hx hd ne
    have rl : RepA K G3 (as1 ++ [x]) (.cel ρ2.ce.length) (.ref x) := RepA.last ln
    rw [List.append_nil]
    refine h1 _ σ _ G3 _ e3 (.cons rl ((Reps.as (as := as1) r2).mono g3)) _ ?_
    rintro av ρ3 v as4 H4 G4 ⟨rfl, hk⟩ e4 g4 r4
    exact ⟨Rep.nonE r4, q _ _ _ _ _ _ hk e4 (g1.trans (g2.trans (g3.trans g4))) (rl.mono g4)⟩
/-- C(*xs) -/
theorem we_makeS {C : Addr} {sp : Sp} {E : XK} (h : WpE K F te ρ fun y ρ1 => ∃ ds, (IsL ρ1 y ds ∨ y = .dat (.tup ds)) ∧ WpSp K F sp (fun _ => E) (.cel ρ1.ce.length :: ds.map .dat) (ρ1.addO C) fun r ρ3 => r = .dat .non ∧ k (.cel ρ1.ce.length) ρ3) : WpE K F (tMakeS K C sp E te) ρ k := fun as σ H G e Q q =>
  h as σ H G e _ fun y ρ1 vy as1 H1 G1 ⟨ds, hy, h1⟩ e1 g1 r1 => by
    obtain ⟨a, vs, rfl, hs, hr⟩ : ∃ a vs, vy = .ref a ∧ (SqT K H1 a vs ∨ SqL K H1 a vs) ∧ Reps K G1 ds vs := by
      rcases hy with hy | rfl
      · obtain ⟨a, vs, e0, hs, hr⟩ := hy.rep e1 r1
        exact ⟨a, vs, e0, .inr hs, hr⟩
      · obtain ⟨a, vs, e0, hs, hr⟩ := Rep.tupE r1
        exact ⟨a, vs, e0, .inl (Same.seqT e1.gh hs), hr⟩
    refine ⟨a, vs, rfl, hs, fun x dx hx hd ne => ?_⟩
    obtain ⟨G3, e3, g3, ln⟩ := new_obj (C := C) e1 hx hd ne
    have rl : RepA K G3 (as1 ++ [x]) (.cel ρ1.ce.length) (.ref x) := RepA.last ln
    refine h1 _ σ _ G3 _ e3 (.cons rl ((Reps.as (as := as1) hr).mono g3)) _ ?_
    rintro av ρ3 v as4 H4 G4 ⟨rfl, hk⟩ e4 g4 r4
    exact ⟨Rep.nonE r4, q _ _ _ _ _ _ hk e4 (g1.trans (g3.trans g4)) (rl.mono g4)⟩
/-- a, *b = .. -/
theorem wg_star {g0 g1 : TG} {d : D} {ds : List D} {kn : En → Prop} (h : WpG K F g0 (.dat d) (ρ.add ds) fun ρ1 => WpG K F g1 (.cel ρ.ce.length) ρ1 kn) : WpG K F (gStar K g0 g1) (.dat (.tup (d :: ds))) ρ kn := fun as σ H G v e r Q q => by
  obtain ⟨a, vs, rfl, hs, hr⟩ := Rep.tupE r
  cases hr with
  | cons rx rs =>
    refine ⟨a, _, _, rfl, Same.seqT e.gh hs, fun l hl => ?_⟩
    obtain ⟨e2, g2⟩ := e.newC hl rs
    have rl : RepA K G (as ++ [l]) (.cel ρ.ce.length) (.ref l) := RepA.last e.ln
    exact h _ σ _ G _ e2 (Rep.mono (Same.refl _) _ _ rx) _ fun ρ1 as1 σ1 H1 G1 h1 e1 g1 => h1 as1 σ1 H1 G1 _ e1 (rl.mono g1) Q fun ρ2 as2 σ2 H2 G2 h2 e2 gg => q _ _ _ _ _ h2 e2 (g2.trans (g1.trans gg))
/-- a new thing that nobody writes to is data at once -/
def frzO (k : AV → En → Prop) : AV → En → Prop := fun av ρ' => ∃ j c d, av = .cel j ∧ ρ'.ce[j]? = some c ∧ celD c = some d ∧ k (.dat d) (ρ'.frzD j d)
theorem got_frzO {as : List Addr} {σ : L2.St} {G : Hp} {Q : VK} (q : Got K F ρ as σ G k Q) : Got K F ρ as σ G (frzO k) Q := fun av ρ' v as' H' G' ⟨j, c, d, ea, hc, hd, hk⟩ e' g' ra => by
  subst ea
  obtain ⟨a, ha, rfl⟩ := ra
  obtain ⟨o, e2, g2, rr⟩ := e'.frzD hc ha hd
  exact q _ _ _ as' H' _ hk e2 (g'.trans g2) rr
theorem we_frzO (h : WpE K F te ρ (frzO k)) : WpE K F te ρ k := fun as σ H G e Q q => h as σ H G e Q (got_frzO q)
theorem ws_frzO {t : TS} {j : Nat} {c : Cell} {d : D} (hj : ρ.ce[j]? = some c) (hd : celD c = some d) (h : WpS K F t (ρ.frzD j d) ks) : WpS K F t ρ ks := fun as σ H G e D q => by
  have hl : j < as.length := by rw [e.ln]; exact (List.getElem?_eq_some_iff.mp hj).1
  obtain ⟨o, e2, g2, _⟩ := e.frzD hj (List.getElem?_eq_getElem hl) hd
  exact h as σ H _ e2 D (EndsOk.grow K F q g2)
/-- isinstance of an own class -/
theorem wc_isO {x : AV} {C Y : Addr} {ns : List Str} {ds : List D} {b : Bool} (ho : IsO ρ x C ns ds) (ty : ∀ {H : Hp} {a dx : Addr} {fs : List (Str × V)}, H a = some (.ins C dx fs) → TyX K H (.ref a) (.ref C)) (hb : PySem.W.kitOne K (.ref C) (.ref Y) = some b) (hk : k (.dat (.bl b)) ρ) : WpC K F (rIsi K) [x, .dat (.cls Y)] ρ k := fun as σ H G vs e r Q q => by
  cases r with
  | cons r1 r2 =>
    cases r2 with
    | cons r2 r3 =>
      cases r3
      cases (show Rep K G (.cls Y) _ from r2)
      obtain ⟨a, dx, vs, rfl, hv, _, _⟩ := ho.rep e r1
      exact ⟨_, _, _, _, b, rfl, .own Y, ty hv, hb, q _ ρ _ as H G hk e .refl (Rep.bl _)⟩
/-- all of truths -/
theorem Reps.bls {G : Hp} : ∀ {bs : List Bool} {vs : List V}, Reps K G (bs.map D.bl) vs → vs = bs.map V.bl
  | [], _, h => by cases h; rfl
  | b :: bs, _, h => by
    cases h with
    | cons a c => cases a; rw [Reps.bls c]; rfl
theorem wc_all {x : AV} {bs : List Bool} (hx : IsL ρ x (bs.map D.bl)) (hk : k (.dat (.bl (bs.all id))) ρ) : WpC K F (rAll K) [x] ρ k := fun as σ H G vs e r Q q => by
  cases r with
  | cons r1 r2 =>
    cases r2
    obtain ⟨a, vs, rfl, hs, hr⟩ := hx.rep e r1
    rw [Reps.bls hr] at hs
    exact ⟨a, bs, rfl, hs, q _ ρ _ as H G hk e .refl (Rep.bl _)⟩
end
/-- a reading that is one of two -/
theorem we_or1 {K : PySem.W.Frag} {F : Fx} {ρ : En} {k : AV → En → Prop} {t1 t2 : TE} (h : WpE K F t1 ρ k) : WpE K F (fun σ H Q => t1 σ H Q ∨ t2 σ H Q) ρ k := fun as σ H G e Q q => .inl (h as σ H G e Q q)
theorem we_or2 {K : PySem.W.Frag} {F : Fx} {ρ : En} {k : AV → En → Prop} {t1 t2 : TE} (h : WpE K F t2 ρ k) : WpE K F (fun σ H Q => t1 σ H Q ∨ t2 σ H Q) ρ k := fun as σ H G e Q q => .inr (h as σ H G e Q q)
/-! ### a method's call with keywords alone -/
def tMethK (C : Addr) (m : Str) (sp : Sp) (n : Nat) (gV : List V → List V → List V) (E : XK) (ta : TE) (tk : TA) : TE := fun u G Q => ta u G fun x G1 => ∃ a dx fs, x = .ref a ∧ G1 a = some (.ins C dx fs) ∧ fs.lookup m = none ∧ tk u G1 fun zs G2 => zs.length = n ∧ sp (gV [x] zs) G2 Q E
theorem pe_methK0 {X : Cx} {CT : CXT} {n : Nat} {C f : Addr} {fd : FuncData} {ps ks : List Str} {m : Str} {sp : Sp} {E : XK} {o : Expr} {kws : List Keyword} {p pos : Pos} {pl : Sem Bool} {ta : TE} {tk : TA} {g : List Value → List Value → List Value} {gV : List V → List V → List V} (he : PE X o ta) (c : Cls X.K C) (hm : Meth X.K C m f) (F0 : FnOk X.prog X.w X.K X.mg X.base CT n f fd ps sp) (hr : Room n X.A) (hb : KBn X.K fd ps 1 ks g gV) (hx : Passes CT X E) (hkw : PK X kws tk)
    (hall : (backToKw pos (keywordEach kws X.env)).all (·.1.isSome) = true := by rfl) (hks : (backToKw pos (keywordEach kws X.env)).filterMap (·.1) = ks := by rfl)
    (hpl : ((backTo pos (starEach [] X.env)).any (·.1) || (backToKw pos (keywordEach kws X.env)).any (·.1.isNone)) = false := by rfl)
    (s3 : eval (.Call (.Attribute o m p) [] kws pos) X.env = (do
      let r ← eval o X.env
      standAt p.atName
      let (h, a0) ← holding [r] (getMethod r m pl)
      callWith pos h a0 (backTo pos (starEach [] X.env)) (backToKw pos (keywordEach kws X.env))) := by rfl) : PE X (.Call (.Attribute o m p) [] kws pos) (tMethK C m sp ks.length gV E ta tk) := by
  constructor
  intro pins s u G Q I h
  refine PySem.W.methodCall_KW (pl := pl) (thn (he.run pins s u G _ I h) ?_) s3
  rintro w s' ⟨v, G1, I1, r1, a, dx, fs, rfl, ho, hl, hq⟩
  obtain rfl : w = Value.ref a := r1
  refine getmeth_ok I1 ho c hm hl ?_
  refine PySem.W.callWith_KW0 (first := [.ref a]) (h₀ := X.base) I.ok.mod.kin hm.kp hall (thn (hkw.run pos pins s' u G1 _ I1 hq) ?_) hpl
  rintro ws s4 ⟨zs, G2, I2, rz, l2, q2⟩
  refine ⟨I2.kIn, ?_⟩
  rw [hks]
  exact run_fnN (us := [.ref a]) (vs := [.ref a]) F0 hr hb hx I2 (.cons rfl .nil) rz rfl l2 q2
section
variable {K : PySem.W.Frag} {F : Fx} {ρ : En} {k : AV → En → Prop} {ta tb tc : TE} {t tk : TA}
theorem we_methK {C : Addr} {m : Str} {sp : Sp} {n : Nat} {gV : List V → List V → List V} {E : XK} (h : WpE K F ta ρ fun x ρ1 => ∃ ns ds, IsO ρ1 x C ns ds ∧ hasN m ns = false ∧ WpA K F tk ρ1 fun ys ρ2 => ∃ zs, ys.length = n ∧ (∀ G as v ws, RepA K G as x v → RepAs K G as ys ws → RepAs K G as zs (gV [v] ws)) ∧ WpSp K F sp (fun _ => E) zs ρ2 k) : WpE K F (tMethK C m sp n gV E ta tk) ρ k := fun as σ H G e Q q =>
  h as σ H G e _ fun x ρ1 vx as1 H1 G1 ⟨ns, ds, ho, hn, h1⟩ e1 g1 r1 => by
    obtain ⟨a, dx, vs, rfl, hv, _, hr⟩ := ho.rep e1 r1
    exact ⟨a, dx, _, rfl, hv, look_none hn, h1 as1 σ H1 G1 e1 _ fun ys ρ2 ws as2 H2 G2 ⟨zs, hl, hg, h2⟩ e2 g2 r2 => ⟨by rw [r2.length]; exact hl, h2 as2 σ H2 G2 _ e2 (hg _ _ _ _ (r1.mono g2) r2) Q (q.imp (g1.trans g2) fun _ _ z => z)⟩⟩
/-- C(.., k=..) -/
theorem we_makeK {C : Addr} {n m : Nat} {sp : Sp} {gV : List V → List V → List V} {E : XK} (h : WpA K F t ρ fun xs ρ1 => WpA K F tk ρ1 fun ys ρ2 => ∃ ds es fs : List D, xs = ds.map .dat ∧ ys = es.map .dat ∧ ds.length = n ∧ es.length = m ∧ (∀ G as x vs ws, RepAs K G as xs vs → RepAs K G as ys ws → RepAs K G as (fs.map .dat) (gV (x :: vs) ws).tail ∧ (gV (x :: vs) ws).head? = some x) ∧ WpSp K F sp (fun _ => E) (.cel ρ2.ce.length :: fs.map .dat) (ρ2.addO C) fun r ρ3 => r = .dat .non ∧ k (.cel ρ2.ce.length) ρ3) : WpE K F (tMakeK C n m sp gV E t tk) ρ k := fun as σ H G e Q q =>
  h as σ H G e _ fun xs ρ1 vs as1 H1 G1 h1 e1 g1 r1 => h1 as1 σ H1 G1 e1 _ fun ys ρ2 ws as2 H2 G2 ⟨ds, es, fs, ex, ey, l1, l2, hg, h2⟩ e2 g2 r2 => by
    refine ⟨by rw [r1.length, ex, List.length_map]; exact l1, by rw [r2.length, ey, List.length_map]; exact l2, fun x dx hx hd ne => ?_⟩
    obtain ⟨G3, e3, g3, ln⟩ := new_obj (C := C) e2 hx hd ne
    have rl : RepA K G3 (as2 ++ [x]) (.cel ρ2.ce.length) (.ref x) := RepA.last ln
    obtain ⟨h3, h4⟩ := hg G3 (as2 ++ [x]) (.ref x) vs ws (r1.mono (g2.trans g3)) (r2.mono g3)
    obtain ⟨v0, us, eg⟩ : ∃ v0 us, gV (.ref x :: vs) ws = v0 :: us := by
      cases hh : gV (.ref x :: vs) ws with
      | nil => rw [hh] at h4; cases h4
      | cons v0 us => exact ⟨v0, us, rfl⟩
    rw [eg] at h3 h4 ⊢
    cases h4
    refine h2 _ σ _ G3 _ e3 (.cons rl h3) _ ?_
    rintro av ρ3 v as4 H4 G4 ⟨rfl, hk⟩ e4 g4 r4
    exact ⟨Rep.nonE r4, q _ _ _ _ _ _ hk e4 (g1.trans (g2.trans (g3.trans g4))) (rl.mono g4)⟩
theorem ch_var {i : Nat} {l : Int} {as : List Addr} {σ : L2.St} {H G : Hp} {Q : VK} (e : EnvOk K F ρ as σ H G) (h : ρ.sl[i]? = some (some (.dat (.int l)))) : Q (.int l) H → tVar i σ H Q := fun q => by
  obtain ⟨v, hv, r⟩ := e.sl i _ h
  exact ⟨v, hv, by rw [Rep.intE r]; exact q⟩
/-- .. where the last one is a name or a number that is written -/
theorem we_chV {g g' : Int → Int → Bool} {i : Nat} (h : WpE K F ta ρ fun x ρ1 => WpE K F tb ρ1 fun y ρ2 => ∃ a b l, x = .dat (.int a) ∧ y = .dat (.int b) ∧ ρ2.sl[i]? = some (some (.dat (.int l))) ∧ k (.dat (.bl (g a b && g' b l))) ρ2) : WpE K F (tChI g g' ta tb (tVar i)) ρ k := fun as σ H G e Q q =>
  h as σ H G e _ fun x ρ1 vx as1 H1 G1 h1 e1 g1 r1 => h1 as1 σ H1 G1 e1 _ fun y ρ2 vy as2 H2 G2 ⟨a, b, l, ex, ey, hs, hk⟩ e2 g2 r2 => by
    subst ex ey
    exact ch_var e2 hs ⟨a, b, l, Rep.intE (r1.mono g2), Rep.intE r2, rfl, rfl, q _ _ _ _ _ _ hk e2 (g1.trans g2) (Rep.bl _)⟩
theorem we_chC {g g' : Int → Int → Bool} {l : Int} (h : WpE K F ta ρ fun x ρ1 => WpE K F tb ρ1 fun y ρ2 => ∃ a b, x = .dat (.int a) ∧ y = .dat (.int b) ∧ k (.dat (.bl (g a b && g' b l))) ρ2) : WpE K F (tChI g g' ta tb (tC (.int l))) ρ k := fun as σ H G e Q q =>
  h as σ H G e _ fun x ρ1 vx as1 H1 G1 h1 e1 g1 r1 => h1 as1 σ H1 G1 e1 _ fun y ρ2 vy as2 H2 G2 ⟨a, b, ex, ey, hk⟩ e2 g2 r2 => by
    subst ex ey
    exact ⟨a, b, l, Rep.intE (r1.mono g2), Rep.intE r2, rfl, rfl, q _ _ _ _ _ _ hk e2 (g1.trans g2) (Rep.bl _)⟩
end
section
variable {K : PySem.W.Frag} {F : Fx} {ρ : En} {k : AV → En → Prop} {ta tb tc : TE}
/-- a < b < c, the second step only where the first is true -/
theorem we_chain {r r' : R2} (h : WpE K F ta ρ fun x ρ1 => WpE K F tb ρ1 fun y ρ2 => WpR K F r x y ρ2 fun z ρ3 => ∃ b, z = .dat (.bl b) ∧ if b = true then WpE K F tc ρ3 fun w ρ4 => WpR K F r' y w ρ4 k else k (.dat (.bl false)) ρ3) : WpE K F (tChain r r' ta tb tc) ρ k := fun as σ H G e Q q =>
  h as σ H G e _ fun x ρ1 vx as1 H1 G1 h1 e1 g1 r1 => h1 as1 σ H1 G1 e1 _ fun y ρ2 vy as2 H2 G2 h2 e2 g2 r2 => by
    refine h2 as2 σ H2 G2 vx vy e2 (r1.mono g2) r2 _ ?_
    rintro z ρ3 vz as3 H3 G3 ⟨b, rfl, h3⟩ e3 g3 r3
    refine ⟨b, Rep.blE r3, ?_⟩
    cases b with
    | true =>
      refine (show WpE K F tc ρ3 _ from h3) as3 σ H3 G3 e3 _ ?_
      exact fun w ρ4 vw as4 H4 G4 h4 e4 g4 r4 => h4 as4 σ H4 G4 vy vw e4 ((r2.mono g3).mono g4) r4 Q (q.imp (g1.trans (g2.trans (g3.trans g4))) fun _ _ z => z)
    | false => exact q _ ρ3 _ as3 H3 G3 h3 e3 (g1.trans (g2.trans g3)) (Rep.bl _)
end
/-! ### a well: a list of three whole numbers from which is drawn -/
def IsW (s : List D) : Prop := ∃ x y z : Int, s = [.int x, .int y, .int z]
/-! ### x.f += a number, of an object still written to -/
section
variable {K : PySem.W.Frag} {F : Fx} {ρ : En} {ks : KS} {ta : TE}
theorem ws_fldaug {f : Str} {m : Int} (h : WpE K F ta ρ fun x ρ1 => ∃ j C ns ds n, x = .cel j ∧ ρ1.ce[j]? = some (.ins C ns ds) ∧ Cls K C ∧ NoAttr K C f ∧ lookD ns ds f = some (.int n) ∧ Nat.ble ns.length 900 = true ∧ ks.nx (ρ1.cell j (.ins C (putN f ns) (putD f (.int (n + m)) ns ds)))) : WpS K F (sFldAug K ta (tC (.int m)) rAdd f) ρ ks := fun as σ H G e D q =>
  h as σ H G e _ fun x ρ1 vx as1 H1 G1 ⟨j, C, ns, ds, n, ex, hc, cl, na, lk, hl, hk⟩ e1 g1 r1 => by
    subst ex
    obtain ⟨a, ha, rfl⟩ := r1
    obtain ⟨_, _, gn, dx, vs, hv, ln, hr⟩ := e1.ce j _ a hc ha
    obtain ⟨v, hvl, rv⟩ := look_rep hr lk
    have ev : v = .int n := Rep.intE rv
    subst ev
    obtain ⟨ws, ez, ln2, hr2⟩ := put_zip (f := f) (Rep.int (n + m)) hr ln
    have hl := Nat.le_of_ble_eq_true hl
    refine ⟨a, C, dx, ns.zip vs, _, rfl, hv, cl, na, hvl, n, m, rfl, rfl, dx, ns.zip vs, hv, by rw [List.length_zip]; omega, ?_⟩
    rw [ez]
    exact q.nx _ as1 σ _ G1 hk (e1.setO hc ha gn ⟨gn, dx, ws, upd_same, ln2, hr2⟩) g1
end
/-! ### what follows a call, a def's end -/
theorem fin_dat {n : Nat} {post : RV → List Cell → Prop} {ρ : En} {d : D} (ng : noGone (ρ.ce.take n) = true) (q : post (.dat d) (ρ.ce.take n)) : (KS.fin n post).rt (.dat d) ρ := ⟨_, .dat d, ng, q⟩
section
variable {K : PySem.W.Frag} {F : Fx} {ρ : En} {k : AV → En → Prop} {x : AV}
theorem OfD.as {d : D} {xs : List AV} {ds : List D} (h : OfD ρ x d) (r : AsD ρ xs ds) : AsD ρ (x :: xs) (d :: ds) := by
  cases h with
  | dat => exact .dat r
  | cel hc => exact .cel hc r
theorem aft_hard {xs : List AV} {d : D} (h : hard d = true) (hk : k (.dat d) ρ) : aft ρ xs k (.dat d) := ⟨by rw [h, Bool.or_true], hk⟩
theorem aft_hards {xs : List AV} {ds : List D} (h : hards ds = true) (hk : k (.cel ρ.ce.length) (ρ.add ds)) : aft ρ xs k (.new ds) := ⟨by rw [h, Bool.or_true], hk⟩
end
/-! ### a state to draw from, opened and shut; extend, [::-1]; a state and another cell lent at once -/
section
variable {K : PySem.W.Frag} {F : Fx} {ρ : En} {k : AV → En → Prop} {ks : KS} {te : TE}
theorem EnvOk.recell {as : List Addr} {σ : L2.St} {H G : Hp} {j : Nat} {c c' : Cell} (e : EnvOk K F ρ as σ H G) (hj : ρ.ce[j]? = some c) (h : ∀ a, as[j]? = some a → CellOk K G H a c → CellOk K G H a c') (nr : ∀ t X, c' ≠ Cell.reg t X := by intro t X z; cases z) : EnvOk K F (ρ.cell j c') as σ H G := by
  have hl : j < ρ.ce.length := (List.getElem?_eq_some_iff.mp hj).1
  refine ⟨e.gh, e.fh, e.fg, e.g0, e.nd, e.pr, by rw [e.ln]; exact (List.length_set).symm, fun i c2 a hc ha => ?_, e.sn, e.sl, by
    obtain ⟨Ts, r⟩ := e.rg
    exact r.setC (List.getElem?_eq_getElem (by rw [e.ln]; exact hl)) nr (fun _ _ _ h => h) (fun _ _ _ _ g => g) (Same.refl _)⟩
  have hc' : (ρ.ce.set j c')[i]? = some c2 := hc
  by_cases hij : j = i
  · subst hij
    rw [List.getElem?_set_self hl] at hc'
    cases hc'
    obtain ⟨fa, ho, ok⟩ := e.ce j _ a hj ha
    exact ⟨fa, ho, h a ha ok⟩
  · rw [List.getElem?_set_ne hij] at hc'
    exact e.ce i c2 a hc' ha
theorem ws_drwO {t : TS} {j : Nat} (hj : ρ.ce[j]? = some .drw) (h1 : ∀ x : Int, WpS K F t (ρ.cell j (.lst [.int x])) ks) (h3 : ∀ x y z : Int, WpS K F t (ρ.cell j (.lst [.int x, .int y, .int z])) ks) : WpS K F t ρ ks := fun as σ H G e D q => by
  obtain ⟨a, ha⟩ : ∃ a, as[j]? = some a := ⟨_, List.getElem?_eq_getElem (by rw [e.ln]; exact (List.getElem?_eq_some_iff.mp hj).1)⟩
  obtain ⟨_, _, g, xs, hx, st⟩ := e.ce j _ a hj ha
  rcases st with ⟨x, rfl⟩ | ⟨x, y, z, rfl⟩
  · refine h1 x as σ H G (e.recell hj fun b hb _ => ?_) D q
    rw [ha] at hb
    cases hb
    exact ⟨g, _, hx, .cons (.int x) .nil⟩
  · refine h3 x y z as σ H G (e.recell hj fun b hb _ => ?_) D q
    rw [ha] at hb
    cases hb
    exact ⟨g, _, hx, .cons (.int x) (.cons (.int y) (.cons (.int z) .nil))⟩
theorem ws_drw3 {t : TS} {j : Nat} {x y z : Int} (hj : ρ.ce[j]? = some (.lst [.int x, .int y, .int z])) (h : WpS K F t (ρ.cell j .drw) ks) : WpS K F t ρ ks := fun as σ H G e D q => by
  refine h as σ H G (e.recell hj fun b hb ok => ?_) D q
  obtain ⟨g, ws, hw, hr⟩ := ok
  refine ⟨g, ws, hw, ?_⟩
  cases hr with
  | cons a r =>
    cases r with
    | cons b r =>
      cases r with
      | cons c r =>
        cases r
        rw [Rep.intE a, Rep.intE b, Rep.intE c]
        exact .inr ⟨_, _, _, rfl⟩
theorem we_revL (h : WpE K F te ρ fun x ρ1 => ∃ ds, IsL ρ1 x ds ∧ k (.cel ρ1.ce.length) (ρ1.add ds.reverse)) : WpE K F (tRevL K te) ρ k := fun as σ H G e Q q =>
  h as σ H G e _ fun x ρ1 vx as1 H1 G1 ⟨ds, hd, h1⟩ e1 g1 r1 => by
    obtain ⟨a, vs, rfl, hs, hr⟩ := hd.rep e1 r1
    exact ⟨a, vs, rfl, hs, fun p hp => new_list e1 (q.imp g1 fun _ _ z => z) hr.reverse h1 hp⟩
/-- a state to draw from and another cell, both lent, both come back as they are -/
theorem wspO {W : PW0} {E : L2.St → XK} {xs : List AV} {j t : Nat} {X : CellX} (hj : ρ.ce[j]? = some .drw) (ht : ρ.ce[t]? = some (.oth X)) (ho : onlyC j xs = true) (hw : W (xs.map lend) [.drw, .oth X] (fun r cs => cs = [.drw, .oth X] ∧ ∃ d, r = .dat d ∧ k (.dat d) ρ) (fun _ => False)) : WpSp K F (spG K W) E xs ρ k := by
  intro as σ H G vs e rx Q q
  obtain ⟨a, ha⟩ : ∃ a, as[j]? = some a := ⟨_, List.getElem?_eq_getElem (by rw [e.ln]; exact (List.getElem?_eq_some_iff.mp hj).1)⟩
  obtain ⟨b, hb⟩ : ∃ b, as[t]? = some b := ⟨_, List.getElem?_eq_getElem (by rw [e.ln]; exact (List.getElem?_eq_some_iff.mp ht).1)⟩
  have jt : j ≠ t := fun z => by subst z; rw [hj] at ht; cases ht
  have inj : ∀ {i l : Nat} {c : Addr}, as[i]? = some c → as[l]? = some c → i = l := fun h1 h2 => (List.getElem?_inj (List.getElem?_eq_some_iff.mp h1).1 e.nd).mp (h1.trans h2.symm)
  have ab : a ≠ b := fun z => by subst z; exact jt (inj ha hb)
  obtain ⟨fa, hxa, oka⟩ := e.ce j _ a hj ha
  obtain ⟨fb, hxb, okb⟩ := e.ce t _ b ht hb
  have rl : RepAs K G [a, b] (xs.map lend) vs := by
    have main : ∀ (ys : List AV) (ws : List V), onlyC j ys = true → RepAs K G as ys ws → RepAs K G [a, b] (ys.map lend) ws := by
      intro ys
      induction ys with
      | nil => intro ws _ r; cases r; exact .nil
      | cons y ys ih =>
        intro ws ho r
        cases r with
        | cons r1 r2 =>
          cases y with
          | tup xs => rw [onlyC] at ho; cases ho
          | dat d => exact .cons (Rep.mono (Same.refl _) _ _ r1) (ih _ ho r2)
          | cel i =>
            rw [onlyC, Bool.and_eq_true] at ho
            have ei := of_decide_eq_true ho.1
            subst ei
            obtain ⟨p, hp, rfl⟩ := r1
            rw [ha] at hp
            cases hp
            exact .cons ⟨a, rfl, rfl⟩ (ih _ ho.2 r2)
    exact main xs vs ho rx
  obtain ⟨Ts0, r0⟩ := e.rg
  refine ⟨G, [a, b], fun _ _ => none, xs.map lend, [.drw, .oth X], _, _, e.gh, ⟨rfl, by simp [ab], fun i c2 d hc hd => ?_⟩, RegsAt.no (fun i t Y z => ?_), rl, hw, ?_, fun _ _ z => z.elim⟩
  · cases i with
    | zero => simp at hc hd; subst hc hd; exact ⟨hxa, oka⟩
    | succ i =>
      cases i with
      | zero => simp at hc hd; subst hc hd; exact ⟨hxb, okb⟩
      | succ i => simp at hc
  · cases i with
    | zero => cases z
    | succ i =>
      cases i with
      | zero => cases z
      | succ i => simp at z
  · rintro r cs' v H' G' Ts' ⟨rfl, d, rfl, hk⟩ fr sG gh' nw ck _ _ rr
    have fr' : ∀ c o, c ≠ a → c ≠ b → H c = some o → H' c = some o := fun c o n1 n2 h => fr c o (by simp [n1, n2]) (fun _ => rfl) h
    have gn : ∀ {c : Addr} {o : HO}, H c = some o → G c = none → G' c = none := fun {c o} hco g => by
      cases z : G' c with
      | none => rfl
      | some o2 =>
        rcases nw c o2 z with y | y | ⟨_, y⟩
        · rw [g] at y; cases y
        · rw [hco] at y; cases y
        · exact absurd rfl y
    have rN : RegsAt Ts0 F.Fr G' H' as ρ.ce := r0.same (fun i c o h hc => fr' c o
      (fun z => by
        subst z
        have := (r0.pl i c o h).2.2.2 j ha
        subst this
        obtain ⟨t, X, y⟩ := r0.is h
        rw [hj] at y; cases y)
      (fun z => by
        subst z
        have := (r0.pl i c o h).2.2.2 t hb
        subst this
        obtain ⟨_, X, y⟩ := r0.is h
        rw [ht] at y; cases y) hc) (fun c o ho g => gn ho g) (fun _ z => z) fun _ _ z => .inl (sG _ _ z)
    refine q _ _ v as H' G' hk ⟨gh', fun c o h => fr' c o (ne_of_none h fa) (ne_of_none h fb) (e.fh _ _ h), fun c o h => ?_, Same.trans e.g0 sG, e.nd, e.pr, e.ln, fun i c2 c hc hcc => ?_, e.sn, fun i av hi => ?_, ⟨_, rN⟩⟩ ⟨sG, [], by simp⟩ rr
    · rcases nw c o h with y | y | ⟨_, y⟩
      · exact e.fg _ _ y
      · exact .inr (Same.none e.fh y)
      · exact absurd rfl y
    · by_cases hij : i = j
      · subst hij
        rw [hj] at hc
        rw [ha] at hcc
        cases hc
        cases hcc
        obtain ⟨h1, h2⟩ := ck.ok 0 .drw a rfl rfl
        exact ⟨fa, h1, h2⟩
      · by_cases hit : i = t
        · subst hit
          rw [ht] at hc
          rw [hb] at hcc
          cases hc
          cases hcc
          obtain ⟨h1, h2⟩ := ck.ok 1 (.oth X) b rfl rfl
          exact ⟨fb, h1, h2⟩
        · obtain ⟨fc, ⟨o, hco⟩, okc⟩ := e.ce i c2 c hc hcc
          have na : c ≠ a := fun z => by subst z; exact hij (inj hcc ha)
          have nb : c ≠ b := fun z => by subst z; exact hit (inj hcc hb)
          refine ⟨fc, ⟨o, fr' _ _ na nb hco⟩, ?_⟩
          cases c2 with
          | gone => trivial
          | reg t X => exact gn hco okc
          | lst es => obtain ⟨g, ws, hw, r⟩ := okc; exact ⟨gn hco g, ws, fr' _ _ na nb hw, Reps.mono sG _ _ r⟩
          | ins C9 ns9 es => obtain ⟨g, dx9, ws, hw, ln9, r⟩ := okc; exact ⟨gn hco g, dx9, ws, fr' _ _ na nb hw, ln9, Reps.mono sG _ _ r⟩
          | drw => obtain ⟨g, ws, hw, r⟩ := okc; exact ⟨gn hco g, ws, fr' _ _ na nb hw, r⟩
          | oth X => obtain ⟨g, o9, hw, r⟩ := okc; exact ⟨gn hco g, o9, fr' _ _ na nb hw, X.mono (fun _ _ z => .inl (sG _ _ z)) r⟩
    · obtain ⟨v, hv, r⟩ := e.sl i av hi
      exact ⟨v, hv, r.mono ⟨sG, [], by simp⟩⟩
end
theorem wm_extT {K : PySem.W.Frag} {F : Fx} {ρ : En} {k : AV → En → Prop} {j : Nat} {ds es : List D} (hc : ρ.ce[j]? = some (.lst ds)) (hl : ds.length + es.length ≤ 16000000) (hk : k (.dat .non) (ρ.cell j (.lst (ds ++ es)))) : WpM K F (rExtT K) (.cel j) [.dat (.tup es)] ρ k := fun as σ H G v vs e r1 r2 Q q => by
  obtain ⟨a, ha, rfl⟩ := r1
  cases r2 with
  | cons rb rn =>
    cases rn
    obtain ⟨b, us, rfl, hs, hr2⟩ := Rep.tupE rb
    obtain ⟨_, _, g, ws, hw, hr⟩ := e.ce j _ a hc ha
    refine ⟨a, b, ws, us, rfl, rfl, hw, Same.seqT e.gh hs, szb (by rw [hr.length, hr2.length]; omega), ?_⟩
    exact q _ _ _ as _ G hk (e.setC hc ha g ⟨g, _, upd_same, hr.append hr2⟩) .refl Rep.non
/-! a function that a slot holds, called in a try -/
theorem we_callLS {K : PySem.W.Frag} {F : Fx} {ρ : En} {k : AV → En → Prop} {W : WX} {i : Nat} {f : Addr} {sp : Sp} {t : TA} (hs : ρ.sl[i]? = some (some (.dat (.cls f)))) (h : WpA K F t ρ fun xs ρ1 => WpSp K F sp (L2.WE W) xs ρ1 k) : WpE K F (tCallLS W i f sp t) ρ k := fun as σ H G e Q q => by
  obtain ⟨v, hv, r⟩ := e.sl i _ hs
  cases (show Rep K G (.cls f) v from r)
  exact ⟨hv, h as σ H G e _ fun xs ρ1 vs as1 H1 G1 h1 e1 g1 r1 => h1 as1 σ H1 G1 vs e1 r1 Q (q.imp g1 fun _ _ z => z)⟩
/-! ### a list's insert -/
section
variable {K : PySem.W.Frag} {F : Fx} {ρ : En} {k : AV → En → Prop}
theorem wm_insert {j : Nat} {x : AV} {ds : List D} {d : D} {i : Int} {ρ2 : En} (fz : Frz [x] ρ [d] ρ2) (hc : ρ2.ce[j]? = some (.lst ds)) (hl : ds.length < 16000000) (i0 : 0 ≤ i) (i1 : i < 16000000) (hk : k (.dat .non) (ρ2.cell j (.lst (ds.take i.toNat ++ [d] ++ ds.drop i.toNat)))) : WpM K F (fun x vs H Q => ∃ (l : Addr) (xs : List V) (i : Int) (y : V), x = .ref l ∧ vs = [.int i, y] ∧ H l = some (.lst xs) ∧ xs.length < sizeLine ∧ 0 ≤ i ∧ i < 2 ^ 63 ∧ Q .non (upd H l (.lst (xs.take i.toNat ++ [y] ++ xs.drop i.toNat)))) (.cel j) [.dat (.int i), x] ρ k := fun as σ H G v vs e r1 r2 Q q => by
  cases r2 with
  | cons ri r2 =>
    have ri := Rep.intE ri
    subst ri
    obtain ⟨G2, e2, g2, r3⟩ := fz.run e r2
    obtain ⟨a, ha, rfl⟩ := r1
    cases r3 with
    | cons y z =>
      cases z
      obtain ⟨_, _, g, ws, hw, hr⟩ := e2.ce j _ a hc ha
      refine ⟨a, ws, i, _, rfl, rfl, hw, szbl (by rw [hr.length]; omega), i0, by omega, q _ _ _ as _ G2 hk (e2.setC hc ha g ⟨g, _, upd_same, ?_⟩) g2 Rep.non⟩
      exact ((hr.take _).append (.cons y .nil)).append (hr.drop _)
def frzK (k : AV → En → Prop) : AV → En → Prop := fun av ρ' => ∃ j ds, av = .cel j ∧ ρ'.ce[j]? = some (.lst ds) ∧ k (.dat (.lst ds)) (ρ'.frz j ds)
theorem got_frz {as : List Addr} {σ : L2.St} {G : Hp} {Q : VK} (q : Got K F ρ as σ G k Q) : Got K F ρ as σ G (frzK k) Q := fun av ρ' v as' H' G' ⟨j, ds, ea, hc, hk⟩ e' g' ra => by
  subst ea
  obtain ⟨a, ha, rfl⟩ := ra
  obtain ⟨vs, e2, g2, rr⟩ := e'.frz hc ha
  exact q _ _ _ as' H' _ hk e2 (g'.trans g2) rr
/-- a new list that nobody writes to is data at once -/
theorem wr_frz {r : R2} {x y : AV} (h : WpR K F r x y ρ (frzK k)) : WpR K F r x y ρ k := fun as σ H G vx vy e r1 r2 Q q => h as σ H G vx vy e r1 r2 Q (got_frz q)
/-- a cell that nobody writes to any more is data -/
theorem ws_frz {t : TS} {ks : KS} {j : Nat} {ds : List D} (hj : ρ.ce[j]? = some (.lst ds)) (h : WpS K F t (ρ.frz j ds) ks) : WpS K F t ρ ks := fun as σ H G e D q => by
  have hl : j < as.length := by rw [e.ln]; exact (List.getElem?_eq_some_iff.mp hj).1
  obtain ⟨vs, e2, g2, _⟩ := e.frz hj (List.getElem?_eq_getElem hl)
  exact h as σ H _ e2 D (EndsOk.grow K F q g2)
end
/-! ### things of which the address is known: pointers to them are data -/
section
variable {K : PySem.W.Frag} {F : Fx} {ρ : En} {k : AV → En → Prop} {ks : KS} {te ta tv : TE} {t : TA}
/-- the tagged cell of a list or an object of scalars and pointers -/
def tagC (p : Addr) : Cell → Option CellX
  | .lst ds => if atoms ds = true then some (lstX p ds) else none
  | .ins C ns ds => if atoms ds = true then some (insX p C ns ds) else none
  | _ => none
theorem tagC_ok {G H : Hp} {p : Addr} {c : Cell} {X : CellX} (h : tagC p c = some X) (ok : CellOk K G H p c) : CellOk K G H p (.oth X) := by
  cases c with
  | lst ds =>
    have h : (if atoms ds = true then some (lstX p ds) else none) = some X := h
    by_cases q : atoms ds = true
    · rw [if_pos q] at h
      cases h
      obtain ⟨g, vs, hv, hr⟩ := ok
      exact ⟨g, _, hv, rfl, vs, rfl, fun K' G' => Reps.atoms q hr⟩
    · rw [if_neg q] at h; cases h
  | ins C ns ds =>
    have h : (if atoms ds = true then some (insX p C ns ds) else none) = some X := h
    by_cases q : atoms ds = true
    · rw [if_pos q] at h
      cases h
      obtain ⟨g, dx, vs, hv, ln, hr⟩ := ok
      exact ⟨g, _, hv, rfl, dx, vs, rfl, ln, fun K' G' => Reps.atoms q hr⟩
    · rw [if_neg q] at h; cases h
  | _ => cases h
/-- a cell is told by its address -/
theorem we_ptr (h : WpE K F te ρ fun y ρ1 => ∃ (m : Nat) (c0 : Cell), y = .cel m ∧ ρ1.ce[m]? = some c0 ∧ (tagC 0 c0).isSome = true ∧ ∀ p X, tagC p c0 = some X → k (.dat (.cls p)) (ρ1.cell m (.oth X))) : WpE K F te ρ k := fun as σ H G e Q q =>
  h as σ H G e Q fun y ρ1 v as1 H1 G1 ⟨m, c0, ey, hc, hs, hk⟩ e1 g1 r1 => by
    subst ey
    obtain ⟨a, ha, rfl⟩ := r1
    obtain ⟨X, hX⟩ : ∃ X, tagC a c0 = some X := by
      cases c0 with
      | lst ds =>
        have hs : (if atoms ds = true then some (lstX 0 ds) else none).isSome = true := hs
        by_cases q : atoms ds = true
        · exact ⟨_, if_pos q⟩
        · rw [if_neg q] at hs; cases hs
      | ins C ns ds =>
        have hs : (if atoms ds = true then some (insX 0 C ns ds) else none).isSome = true := hs
        by_cases q : atoms ds = true
        · exact ⟨_, if_pos q⟩
        · rw [if_neg q] at hs; cases hs
      | _ => cases hs
    refine q _ _ _ as1 H1 G1 (hk a X hX) (e1.recell hc fun b hb ok => ?_) g1 (Rep.cls a)
    rw [ha] at hb
    cases hb
    exact tagC_ok hX ok
/-- an append through a pointer -/
theorem we_bmT {r : V → List V → Hp → VK → Prop} (h : WpE K F ta ρ fun x ρ1 => (∃ (j : Nat) (c : Addr) (ds : List D), x = .dat (.cls c) ∧ ρ1.ce[j]? = some (Cell.oth (lstX c ds))) ∧ WpA K F t ρ1 fun xs ρ2 => WpM K F r x xs ρ2 k) : WpE K F (tBM K "list" r ta t) ρ k := fun as σ H G e Q q =>
  h as σ H G e _ fun x ρ1 vx as1 H1 G1 ⟨⟨j, c, ds, ex, hc⟩, h1⟩ e1 g1 r1 => by
    subst ex
    obtain ⟨a, vs, rfl, hs, _⟩ := (IsL.tag hc).rep e1 r1
    exact ⟨.inl ⟨rfl, vs, hs⟩, h1 as1 σ H1 G1 e1 _ fun xs ρ2 vs as2 H2 G2 h2 e2 g2 r2 => h2 as2 σ H2 G2 _ vs e2 (r1.mono g2) r2 Q (q.imp (g1.trans g2) fun _ _ z => z)⟩
theorem wm_appendT {j : Nat} {c : Addr} {ds : List D} {d : D} (hc : ρ.ce[j]? = some (.oth (lstX c ds))) (hd : atom d = true) (hl : ds.length < 16000000) (hk : k (.dat .non) (ρ.cell j (.oth (lstX c (ds ++ [d]))))) : WpM K F rAppend (.dat (.cls c)) [.dat d] ρ k := fun as σ H G v vs e r1 r2 Q q => by
  cases (show Rep K G (.cls c) v from r1)
  cases r2 with
  | cons ra rb =>
    cases rb
    obtain ⟨a, ha⟩ : ∃ a, as[j]? = some a := ⟨_, List.getElem?_eq_getElem (by rw [e.ln]; exact (List.getElem?_eq_some_iff.mp hc).1)⟩
    obtain ⟨_, _, g, o, ho, rfl, ws, rfl, hr⟩ := e.ce _ _ a hc ha
    have ra' : Rep K G d _ := ra
    exact ⟨a, ws, _, rfl, rfl, ho, szbl (by rw [(hr K G).length]; omega), q _ _ _ as _ G hk (e.setC hc ha g ⟨g, _, upd_same, rfl, _, rfl, fun K' G' => (hr K' G').append (.cons (Rep.atom hd ra') .nil)⟩) .refl Rep.non⟩
/-- a field is set through a pointer -/
theorem ws_fsetT {f : Str} (h : WpE K F tv ρ fun y ρ1 => WpE K F ta ρ1 fun x ρ2 => ∃ (j : Nat) (g C : Addr) (ns : List Str) (ds : List D) (d : D), x = .dat (.cls g) ∧ y = .dat d ∧ atom d = true ∧ ρ2.ce[j]? = some (Cell.oth (insX g C ns ds)) ∧ Cls K C ∧ NoAttr K C f ∧ Nat.ble ns.length 900 = true ∧ ks.nx (ρ2.cell j (.oth (insX g C (putN f ns) (putD f d ns ds))))) : WpS K F (sFld K ta tv f) ρ ks := fun as σ H G e D q =>
  h as σ H G e _ fun y ρ1 vy as1 H1 G1 h1 e1 g1 r1 => h1 as1 σ H1 G1 e1 _ fun x ρ2 vx as2 H2 G2 ⟨j, g, C, ns, ds, d, ex, ey, hd, hc, cl, na, hl, hk⟩ e2 g2 r2 => by
    subst ex ey
    cases (show Rep K G2 (.cls g) vx from r2)
    have ry : Rep K G1 d vy := r1
    obtain ⟨a, ha⟩ : ∃ a, as2[j]? = some a := ⟨_, List.getElem?_eq_getElem (by rw [e2.ln]; exact (List.getElem?_eq_some_iff.mp hc).1)⟩
    obtain ⟨_, _, gn, o, ho, rfl, dx, vs, rfl, ln, hr⟩ := e2.ce _ _ a hc ha
    obtain ⟨ws, ez, ln2, hr2⟩ := put_zip (f := f) ry (hr K G1) ln
    have hl := Nat.le_of_ble_eq_true hl
    refine ⟨a, C, dx, ns.zip vs, rfl, ho, cl, na, by rw [List.length_zip]; omega, ?_⟩
    rw [ez]
    refine q.nx _ as2 σ _ G2 hk (e2.setO hc ha gn ⟨gn, _, upd_same, rfl, dx, ws, rfl, ln2, fun K' G' => ?_⟩) (g1.trans g2)
    obtain ⟨ws', ez', _, hr2'⟩ := put_zip (f := f) (Rep.atom (K' := K') (G' := G') hd ry) (hr K' G') ln
    have : ws' = ws := by
      have e3 : (putN f ns).zip ws' = (putN f ns).zip ws := ez'.symm.trans ez
      have l1 := hr2'.length
      have l2 := hr2.length
      have := congrArg (List.map Prod.snd) e3
      rw [List.map_snd_zip (by omega), List.map_snd_zip (by omega)] at this
      exact this
    subst this
    exact hr2'
/-- x.f += a number, through a pointer -/
theorem ws_fldaugT {f : Str} {m : Int} (h : WpE K F ta ρ fun x ρ1 => ∃ (j : Nat) (g C : Addr) (ns : List Str) (ds : List D) (n : Int), x = .dat (.cls g) ∧ ρ1.ce[j]? = some (Cell.oth (insX g C ns ds)) ∧ Cls K C ∧ NoAttr K C f ∧ lookD ns ds f = some (.int n) ∧ Nat.ble ns.length 900 = true ∧ ks.nx (ρ1.cell j (.oth (insX g C (putN f ns) (putD f (.int (n + m)) ns ds))))) : WpS K F (sFldAug K ta (tC (.int m)) rAdd f) ρ ks := fun as σ H G e D q =>
  h as σ H G e _ fun x ρ1 vx as1 H1 G1 ⟨j, g, C, ns, ds, n, ex, hc, cl, na, lk, hl, hk⟩ e1 g1 r1 => by
    subst ex
    cases (show Rep K G1 (.cls g) vx from r1)
    obtain ⟨a, ha⟩ : ∃ a, as1[j]? = some a := ⟨_, List.getElem?_eq_getElem (by rw [e1.ln]; exact (List.getElem?_eq_some_iff.mp hc).1)⟩
    obtain ⟨_, _, gn, o, ho, rfl, dx, vs, rfl, ln, hr⟩ := e1.ce _ _ a hc ha
    obtain ⟨v, hvl, rv⟩ := look_rep (hr K G1) lk
    have ev : v = .int n := Rep.intE rv
    subst ev
    obtain ⟨ws, ez, ln2, hr2⟩ := put_zip (f := f) (K := K) (G := G1) (Rep.int (n + m)) (hr K G1) ln
    have hl := Nat.le_of_ble_eq_true hl
    refine ⟨a, C, dx, ns.zip vs, _, rfl, ho, cl, na, hvl, n, m, rfl, rfl, dx, ns.zip vs, ho, by rw [List.length_zip]; omega, ?_⟩
    rw [ez]
    refine q.nx _ as1 σ _ G1 hk (e1.setO hc ha gn ⟨gn, _, upd_same, rfl, dx, ws, rfl, ln2, fun K' G' => ?_⟩) g1
    obtain ⟨ws', ez', _, hr2'⟩ := put_zip (f := f) (Rep.int (K := K') (G := G') (n + m)) (hr K' G') ln
    have : ws' = ws := by
      have e3 : (putN f ns).zip ws' = (putN f ns).zip ws := ez'.symm.trans ez
      have l1 := hr2'.length
      have l2 := hr2.length
      have := congrArg (List.map Prod.snd) e3
      rw [List.map_snd_zip (by omega), List.map_snd_zip (by omega)] at this
      exact this
    subst this
    exact hr2'
/-! calls: cells are lent, pointers to them are handed in as data -/
def setAll : List Cell → List Nat → List Cell → List Cell
  | ce, j :: js, c :: cs => setAll (ce.set j c) js cs
  | ce, _, _ => ce
def En.cells (ρ : En) (js : List Nat) (cs : List Cell) : En := ⟨ρ.sl, setAll ρ.ce js cs⟩
theorem setAll_len : ∀ (ce : List Cell) (js : List Nat) (cs : List Cell), (setAll ce js cs).length = ce.length
  | _, [], _ => by unfold setAll; rfl
  | _, _ :: _, [] => rfl
  | ce, j :: js, c :: cs => by rw [setAll, setAll_len, List.length_set]
theorem setAll_out : ∀ (ce : List Cell) (js : List Nat) (cs : List Cell) (i : Nat), i ∉ js → (setAll ce js cs)[i]? = ce[i]?
  | _, [], _, _, _ => by unfold setAll; rfl
  | _, _ :: _, [], _, _ => rfl
  | ce, j :: js, c :: cs, i, h => by
    rw [List.mem_cons, not_or] at h
    rw [setAll, setAll_out _ js cs i h.2, List.getElem?_set_ne (fun z => h.1 z.symm)]
theorem setAll_in : ∀ (ce : List Cell) (js : List Nat) (cs : List Cell) (m i : Nat) (c : Cell), js.Nodup → i < ce.length → js[m]? = some i → cs[m]? = some c → (setAll ce js cs)[i]? = some c
  | _, [], _, _, _, _, _, _, h, _ => by simp at h
  | _, _ :: _, [], _, _, _, _, _, _, h => by simp at h
  | ce, j :: js, c :: cs, 0, i, c2, nd, hl, h1, h2 => by
    simp at h1 h2
    subst h1 h2
    rw [setAll, setAll_out _ _ _ _ (List.nodup_cons.mp nd).1, List.getElem?_set_self hl]
  | ce, j :: js, c :: cs, m + 1, i, c2, nd, hl, h1, h2 => by
    rw [setAll]
    exact setAll_in _ js cs m i c2 (List.nodup_cons.mp nd).2 (by rw [List.length_set]; exact hl) (by simpa using h1) (by simpa using h2)
def isRegC : Cell → Bool
  | .reg _ _ => true
  | _ => false
def aftP (ρ : En) (js : List Nat) (k : AV → En → Prop) (r : RV) (cs : List Cell) : Prop := noGone cs = true ∧ cs.all (fun c => !isRegC c) = true ∧ match r with
  | .dat d => k (.dat d) (ρ.cells js cs)
  | .new es => k (.cel ρ.ce.length) ((ρ.cells js cs).add es)
  | .prt as1 es bs1 => k (.tup (as1.map .dat ++ .cel ρ.ce.length :: bs1.map .dat)) ((ρ.cells js cs).add es)
  | .ext d X => k (.dat d) ((ρ.cells js cs).addT X)
  | .reg X => k (.cel ρ.ce.length) ((ρ.cells js cs).addX X)
theorem isRegC_no {c : Cell} (h : (!isRegC c) = true) : ∀ t X, c ≠ .reg t X := fun t X z => by subst z; cases h
theorem wspP {W : PW0} {E : L2.St → XK} {ds : List D} {js : List Nat} {cs : List Cell} {exc : Addr → Prop} (hX : ∀ C σ H, exc C → Same F.Fr H → E σ (.ref C) none H) (hj : js.map (fun j => ρ.ce[j]?) = cs.map some) (nd : js.Nodup) (nr : cs.all (fun c => !isRegC c) = true) (hw : W (ds.map .dat) cs (fun r cs' => aftP ρ js k r cs') exc) : WpSp K F (spG K W) E (ds.map .dat) ρ k := by
  intro as σ H G vs e rx Q q
  have ln : js.length = cs.length := by have := congrArg List.length hj; simpa using this
  have cat : ∀ (m : Nat) (j : Nat), js[m]? = some j → ∃ c, cs[m]? = some c ∧ ρ.ce[j]? = some c := fun m j h => by
    have h1 : (js.map (fun j => ρ.ce[j]?))[m]? = some ρ.ce[j]? := by rw [List.getElem?_map, h]; rfl
    rw [hj, List.getElem?_map] at h1
    obtain ⟨c, hc, ec⟩ := Option.map_eq_some_iff.mp h1
    exact ⟨c, hc, ec.symm⟩
  have inb : ∀ j ∈ js, j < as.length := fun j h => by
    obtain ⟨m, hm⟩ := List.getElem?_of_mem h
    obtain ⟨c, _, h2⟩ := cat m j hm
    rw [e.ln]
    exact (List.getElem?_eq_some_iff.mp h2).1
  -- their places
  let bs : List Addr := js.map fun j => as.getD j 0
  have bat : ∀ (m j : Nat), js[m]? = some j → ∃ a, bs[m]? = some a ∧ as[j]? = some a := fun m j h => by
    have hl := inb j (List.mem_of_getElem? h)
    refine ⟨as[j], ?_, List.getElem?_eq_getElem hl⟩
    show (js.map fun j => as.getD j 0)[m]? = _
    rw [List.getElem?_map, h]
    show some (as.getD j 0) = _
    rw [List.getD_eq_getElem?_getD, List.getElem?_eq_getElem hl]
    rfl
  have bof : ∀ (m : Nat) (a : Addr), bs[m]? = some a → ∃ j, js[m]? = some j ∧ as[j]? = some a := fun m a h => by
    have h : (js.map fun j => as.getD j 0)[m]? = some a := h
    rw [List.getElem?_map] at h
    obtain ⟨j, hm, ej⟩ := Option.map_eq_some_iff.mp h
    obtain ⟨a2, x, y⟩ := bat m j hm
    have x : (js.map fun j => as.getD j 0)[m]? = some a2 := x
    rw [List.getElem?_map, hm] at x
    have : as.getD j 0 = a2 := Option.some.inj x
    rw [ej] at this
    exact ⟨j, hm, by rw [this]; exact y⟩
  have inj : ∀ {i l : Nat} {c : Addr}, as[i]? = some c → as[l]? = some c → i = l := fun h1 h2 => (List.getElem?_inj (List.getElem?_eq_some_iff.mp h1).1 e.nd).mp (h1.trans h2.symm)
  have bmem : ∀ {i : Nat} {a : Addr}, as[i]? = some a → a ∈ bs → i ∈ js := fun {i a} h m => by
    obtain ⟨l, hl⟩ := List.getElem?_of_mem m
    obtain ⟨j, h1, h2⟩ := bof l a hl
    rw [inj h h2]
    exact List.mem_of_getElem? h1
  have bnd : bs.Nodup := by
    refine List.pairwise_iff_getElem.mpr fun m n hm hn hmn z => ?_
    have hn' : n < js.length := by have : bs.length = js.length := List.length_map ..; omega
    have z : bs[m]? = bs[n]? := by rw [List.getElem?_eq_getElem hm, List.getElem?_eq_getElem hn, z]
    obtain ⟨j1, h1⟩ : ∃ j, js[m]? = some j := ⟨_, List.getElem?_eq_getElem (by omega)⟩
    obtain ⟨j2, h2⟩ : ∃ j, js[n]? = some j := ⟨_, List.getElem?_eq_getElem hn'⟩
    obtain ⟨a1, x1, y1⟩ := bat m j1 h1
    obtain ⟨a2, x2, y2⟩ := bat n j2 h2
    rw [x1, x2] at z
    have := Option.some.inj z
    subst this
    have := inj y1 y2
    subst this
    have := (List.getElem?_inj (by omega) nd).mp (h1.trans h2.symm)
    omega
  have frF : ∀ {b : Addr} {o : HO}, F.Fr b = some o → b ∉ bs := fun {b o} h m => by
    obtain ⟨l, hl⟩ := List.getElem?_of_mem m
    obtain ⟨j, h1, h2⟩ := bof l b hl
    obtain ⟨c, h3, h4⟩ := cat l j h1
    rw [(e.ce j c b h4 h2).1] at h
    cases h
  have rl : RepAs K G bs (ds.map .dat) vs := by
    have main : ∀ (es : List D) (ws : List V), RepAs K G as (es.map .dat) ws → RepAs K G bs (es.map .dat) ws := by
      intro es
      induction es with
      | nil => intro ws r; cases r; exact .nil
      | cons d es ih => intro ws r; cases r with | cons a b => exact .cons a (ih _ b)
    exact main ds vs rx
  have nrc : ∀ (m : Nat) t X, cs[m]? ≠ some (Cell.reg t X) := fun m t X z => isRegC_no (List.all_eq_true.mp nr _ (List.mem_of_getElem? z)) t X rfl
  obtain ⟨Ts0, r0⟩ := e.rg
  refine ⟨G, bs, fun _ _ => none, ds.map .dat, cs, _, exc, e.gh, ⟨by rw [← ln]; exact List.length_map .., bnd, fun m c a hc ha => ?_⟩, RegsAt.no nrc, rl, hw, ?_, fun C H' hc fr => hX C σ H' hc fun b o h => fr b o (frF h) (fun _ => rfl) (e.fh _ _ h)⟩
  · obtain ⟨j, h1, h2⟩ := bof m a ha
    obtain ⟨c2, h3, h4⟩ := cat m j h1
    rw [hc] at h3
    cases h3
    exact (e.ce j c a h4 h2).2
  rintro r cs' v H' G' Ts' ⟨ng, nr', hp⟩ fr sG gh' nw ck rg' nwT rr
  have fr' : ∀ b o, b ∉ bs → H b = some o → H' b = some o := fun b o n h => fr b o n (fun _ => rfl) h
  have gn : ∀ {b : Addr} {o : HO}, H b = some o → G b = none → G' b = none := fun {b o} ho g => by
    cases z : G' b with
    | none => rfl
    | some o2 =>
      rcases nw b o2 z with y | y | ⟨_, y⟩
      · rw [g] at y; cases y
      · rw [ho] at y; cases y
      · exact absurd rfl y
  have ln' : bs.length = cs'.length := ck.ln
  have blen : bs.length = js.length := List.length_map ..
  have regI : ∀ {i : Nat} {b : Addr} {o : HO}, Ts0 i b = some o → b ∉ bs := fun {i b o} h m => by
    obtain ⟨l, hl⟩ := List.getElem?_of_mem m
    obtain ⟨j, h1, h2⟩ := bof l b hl
    have := (r0.pl i b o h).2.2.2 j h2
    subst this
    obtain ⟨t, X, z⟩ := r0.is h
    obtain ⟨c, h3, h4⟩ := cat l j h1
    rw [h4] at z
    cases z
    exact nrc l t X h3
  have rN : RegsAt Ts0 F.Fr G' H' as (setAll ρ.ce js cs') := by
    have r1 := r0.same (Fr' := F.Fr) (G' := G') (H' := H') (fun i b o h hb => fr' b o (regI h) hb) (fun b o ho g => gn ho g) (fun _ z => z) fun _ _ z => .inl (sG _ _ z)
    have same : ∀ (i : Nat) t X, (setAll ρ.ce js cs')[i]? = some (Cell.reg t X) ↔ ρ.ce[i]? = some (Cell.reg t X) := fun i t X => by
      by_cases m : i ∈ js
      · obtain ⟨l, hl⟩ := List.getElem?_of_mem m
        obtain ⟨c, h3, h4⟩ := cat l i hl
        have ll : l < cs'.length := by rw [← ln', blen]; exact (List.getElem?_eq_some_iff.mp hl).1
        rw [setAll_in ρ.ce js cs' l i cs'[l] nd (by rw [← e.ln]; exact inb i m) hl (List.getElem?_eq_getElem ll), h4]
        refine ⟨fun z => ?_, fun z => ?_⟩
        · exact absurd (Option.some.inj z) (isRegC_no (List.all_eq_true.mp nr' _ (List.getElem_mem ll)) t X)
        · cases z; exact absurd h3 (nrc l t X)
      · rw [setAll_out _ _ _ _ m]
    exact ⟨fun i h b => r1.em i (fun t X z => h t X ((same i t X).mpr z)) b, r1.dj, r1.pl, fun i t X a hc ha => r1.ok i t X a ((same i t X).mp hc) ha⟩
  have e' : EnvOk K F (ρ.cells js cs') as σ H' G' := by
    refine ⟨gh', fun b o h => fr' b o (frF h) (e.fh _ _ h), fun b o h => ?_, Same.trans e.g0 sG, e.nd, e.pr, by rw [e.ln]; exact (setAll_len ..).symm, fun i c2 b hc hb => ?_, e.sn, fun i av hi => ?_, ⟨_, rN⟩⟩
    · rcases nw b o h with y | y | ⟨_, y⟩
      · exact e.fg _ _ y
      · exact .inr (Same.none e.fh y)
      · exact absurd rfl y
    · have hc' : (setAll ρ.ce js cs')[i]? = some c2 := hc
      by_cases m : i ∈ js
      · obtain ⟨l, hl⟩ := List.getElem?_of_mem m
        obtain ⟨c, h3, h4⟩ := cat l i hl
        obtain ⟨a, x1, x2⟩ := bat l i hl
        rw [hb] at x2
        cases x2
        have ll : l < cs'.length := by rw [← ln', blen]; exact (List.getElem?_eq_some_iff.mp hl).1
        rw [setAll_in ρ.ce js cs' l i cs'[l] nd (by rw [← e.ln]; exact inb i m) hl (List.getElem?_eq_getElem ll)] at hc'
        cases hc'
        obtain ⟨h5, h6⟩ := ck.ok l _ b (List.getElem?_eq_getElem ll) x1
        exact ⟨(e.ce i c b h4 hb).1, h5, h6⟩
      · rw [setAll_out _ _ _ _ m] at hc'
        obtain ⟨fb, ⟨o, ho⟩, okb⟩ := e.ce i c2 b hc' hb
        have nb : b ∉ bs := fun z => m (bmem hb z)
        refine ⟨fb, ⟨o, fr' _ _ nb ho⟩, ?_⟩
        cases c2 with
        | gone => trivial
        | reg t X => exact gn ho okb
        | lst es => obtain ⟨g, ws, hw, r⟩ := okb; exact ⟨gn ho g, ws, fr' _ _ nb hw, Reps.mono sG _ _ r⟩
        | ins C9 ns9 es => obtain ⟨g, dx9, ws, hw, ln9, r⟩ := okb; exact ⟨gn ho g, dx9, ws, fr' _ _ nb hw, ln9, Reps.mono sG _ _ r⟩
        | drw => obtain ⟨g, ws, hw, r⟩ := okb; exact ⟨gn ho g, ws, fr' _ _ nb hw, r⟩
        | oth X => obtain ⟨g, o9, hw, r⟩ := okb; exact ⟨gn ho g, o9, fr' _ _ nb hw, X.mono (fun _ _ z => .inl (sG _ _ z)) r⟩
    · obtain ⟨v, hv, r⟩ := e.sl i av hi
      exact ⟨v, hv, r.mono ⟨sG, [], by simp⟩⟩
  have eln : as.length = (ρ.cells js cs').ce.length := e'.ln
  have eln2 : as.length = ρ.ce.length := e.ln
  have newF : ∀ {p : Addr}, NewA H bs (fun _ _ => none) p → F.Fr p = none ∧ p ∉ as ∧ ∀ i, Ts0 i p = none := fun {p} ⟨h1, _⟩ => by
    have h1 : H p = none := h1.elim id fun ⟨_, z⟩ => absurd rfl z
    refine ⟨Same.none e.fh h1, fun m => ?_, fun i => ?_⟩
    · obtain ⟨i, hi⟩ := List.getElem?_of_mem m
      have hil : i < ρ.ce.length := by rw [← e.ln]; exact (List.getElem?_eq_some_iff.mp hi).1
      obtain ⟨_, ⟨o, ho⟩, _⟩ := e.ce i _ p (List.getElem?_eq_getElem hil) hi
      rw [ho] at h1
      cases h1
    · cases z : Ts0 i p with
      | none => rfl
      | some o => rw [(r0.pl i p o z).1] at h1; cases h1
  cases r with
  | dat d => exact q _ _ v as H' G' hp e' ⟨sG, [], by simp⟩ rr
  | ext d X =>
    obtain ⟨rd2, p, o, hp0, tz0, gp, ho, okX⟩ := rr
    obtain ⟨f1, f2, f3⟩ := newF hp0
    exact q _ _ _ _ H' G' hp (e'.ownT ho gp f1 f2 ⟨_, rN, f3⟩ okX) ⟨sG, [p], rfl⟩ rd2
  | reg X =>
    obtain ⟨p, T, rfl, hp0, tz0, gp, ho, okX, ht⟩ := rr
    obtain ⟨f1, f2, f3⟩ := newF hp0
    exact q _ _ _ _ H' G' hp (e'.ownX rN ho gp f1 f2 f3 okX fun b o hb => by
      obtain ⟨h1, h2, h3, h4⟩ := ht b o hb
      obtain ⟨x1, x2, x3⟩ := newF h3
      exact ⟨h1, h2, x1, x2, x3⟩) ⟨sG, [p], rfl⟩ (RepA.last eln2)
  | prt as1 es bs1 =>
    obtain ⟨t, p, w1, w2, ws, rfl, sq, ra1, ra2, hp0, tz0, gp, hp1, hr⟩ := rr
    obtain ⟨f1, f2, f3⟩ := newF hp0
    refine q _ _ _ _ H' G' hp (e'.ownC hp1 gp f1 f2 ⟨_, rN, f3⟩ hr) ⟨sG, [p], rfl⟩ ⟨t, _, rfl, sq, ?_⟩
    exact TNs.append (TNs.of ra1) (.cons (.cel (by rw [List.getElem?_append_right (by rw [e.ln]; exact Nat.le_refl _), e.ln, Nat.sub_self]; rfl)) (TNs.of ra2))
  | new es =>
    obtain ⟨p, ws, rfl, hp0, tz0, gp, hp1, hr⟩ := rr
    obtain ⟨f1, f2, f3⟩ := newF hp0
    exact q _ _ _ _ H' G' hp (e'.ownC hp1 gp f1 f2 ⟨_, rN, f3⟩ hr) ⟨sG, [p], rfl⟩ (RepA.last e.ln)
/-- .. its errors are let out; .. it lets none out -/
theorem wspPX {W : PW0} {ds : List D} {js : List Nat} {cs : List Cell} (hj : js.map (fun j => ρ.ce[j]?) = cs.map some) (nd : js.Nodup) (nr : cs.all (fun c => !isRegC c) = true) (hw : W (ds.map .dat) cs (fun r cs' => aftP ρ js k r cs') F.ex) : WpSp K F (spG K W) (fun _ => F.E) (ds.map .dat) ρ k := wspP (fun C _ H hc s => F.hE C H hc s) hj nd nr hw
theorem wspP0 {W : PW0} {E : L2.St → XK} {ds : List D} {js : List Nat} {cs : List Cell} (hj : js.map (fun j => ρ.ce[j]?) = cs.map some) (nd : js.Nodup) (nr : cs.all (fun c => !isRegC c) = true) (hw : W (ds.map .dat) cs (fun r cs' => aftP ρ js k r cs') (fun _ => False)) : WpSp K F (spG K W) E (ds.map .dat) ρ k := wspP (fun _ _ _ z _ => z.elim) hj nd nr hw
/-- a pointer is lent to be read -/
inductive Ptr (j : Nat) (c : Addr) : List AV → List AV → Prop
  | nil : Ptr j c [] []
  | same {x : AV} {xs ys : List AV} : Ptr j c xs ys → Ptr j c (x :: xs) (x :: ys)
  | ptr {xs ys : List AV} : Ptr j c xs ys → Ptr j c (.dat (.cls c) :: xs) (.cel j :: ys)
theorem atoms_int (ns : List Int) : atoms (ns.map D.int) = true := by
  induction ns with
  | nil => rfl
  | cons x ns ih => exact ih
theorem wsp_untag {sp : Sp} {E : L2.St → XK} {xs ys : List AV} {j : Nat} {c : Addr} {ds : List D} (hc : ρ.ce[j]? = some (.oth (lstX c ds))) (hd : atoms ds = true) (hp : Ptr j c xs ys) (h : WpSp K F sp E ys (ρ.cell j (.lst ds)) fun av ρ2 => ρ2.ce[j]? = some (.lst ds) ∧ k av (ρ2.cell j (.oth (lstX c ds)))) : WpSp K F sp E xs ρ k := fun as σ H G vs e r Q q => by
  obtain ⟨a, ha⟩ : ∃ a, as[j]? = some a := ⟨_, List.getElem?_eq_getElem (by rw [e.ln]; exact (List.getElem?_eq_some_iff.mp hc).1)⟩
  obtain ⟨_, _, _, o, ho, ea, us, eo, hr⟩ := e.ce j _ a hc ha
  subst ea eo
  have e1 : EnvOk K F (ρ.cell j (.lst ds)) as σ H G := e.recell hc fun b hb ok => by
    rw [ha] at hb
    cases hb
    exact ⟨ok.1, us, ho, hr K G⟩
  have r1 : ∀ {xs ys : List AV}, Ptr j a xs ys → ∀ {vs : List V}, RepAs K G as xs vs → RepAs K G as ys vs := fun hq => by
    induction hq with
    | nil => exact fun r => r
    | same _ ih => exact fun r => by cases r with | cons x y => exact .cons x (ih y)
    | ptr _ ih =>
      exact fun r => by
        cases r with
        | cons x y =>
          cases (show Rep K G (.cls a) _ from x)
          exact .cons ⟨a, ha, rfl⟩ (ih y)
  refine h as σ H G vs e1 (r1 hp r) Q fun av ρ2 v as2 H2 G2 ⟨h1, h2⟩ e2 g2 r2 => ?_
  have ha2 : as2[j]? = some a := by
    obtain ⟨_, rr, rfl⟩ := g2
    rw [List.getElem?_append_left (List.getElem?_eq_some_iff.mp ha).1]
    exact ha
  refine q av _ v as2 H2 G2 h2 (e2.recell h1 fun b hb ok => ?_) g2 r2
  rw [ha2] at hb
  cases hb
  exact tagC_ok (show tagC a (.lst ds) = some (lstX a ds) from if_pos hd) ok
end
/-- what follows begins with the cells that were there before; a new list may have become data -/
inductive Fz (n : Nat) (ρ : En) : En → Prop
  | tr {ρ' : En} : Tr n ρ ρ' → Fz n ρ ρ'
  | fz {ρ' : En} (j : Nat) (ds : List D) : ρ.ce[j]? = some (.lst ds) → Tr n (ρ.frz j ds) ρ' → Fz n ρ ρ'
theorem ws_seqZ {K : PySem.W.Frag} {F : Fx} {ρ : En} {ks : KS} {a b : TS} (h : ∀ R, R = b → WpS K F a ρ { nx := fun ρ1 => ∃ ρ3, Fz ρ.ce.length ρ1 ρ3 ∧ WpS K F R ρ3 ks, rt := ks.rt, bk := ks.bk, ct := ks.ct }) : WpS K F (tSeq a b) ρ ks := fun as σ H G e D q =>
  h b rfl as σ H G e { D with nx := b D } ⟨fun ρ1 as1 σ1 H1 G1 ⟨ρ3, t, hk⟩ e1 g1 => by
    cases t with
    | tr t =>
      obtain ⟨as', e', _, g'⟩ := t.run2 e1 e1 g1 (Nat.le_of_eq e.ln) (by have := e.pr.length_le; rw [e.ln] at this; exact this)
      exact hk as' σ1 H1 G1 e' D (q.grow K F g')
    | fz j ds hj t =>
      have hl : j < as1.length := by rw [e1.ln]; exact (List.getElem?_eq_some_iff.mp hj).1
      obtain ⟨vs, e2, g2, _⟩ := e1.frz hj (List.getElem?_eq_getElem hl)
      obtain ⟨as', e', _, g'⟩ := t.run2 e2 e2 (g1.trans g2) (Nat.le_of_eq e.ln) (by have := e.pr.length_le; rw [e.ln] at this; exact this)
      exact hk as' σ1 H1 _ e' D (q.grow K F g'), q.rt, q.bk, q.ct, q.fr⟩
/-- a statement whose ends are told by P, then the rest for each of them -/
theorem ws_seqP {α : Type} {K : PySem.W.Frag} {F : Fx} {ρ : En} {ks : KS} {a b : TS} (P : α → Prop) (env : α → En) (h1 : ∀ x, P x → WpS K F b (env x) ks) (h2 : WpS K F a ρ { nx := fun ρ1 => ∃ x, P x ∧ Fz ρ.ce.length ρ1 (env x), rt := ks.rt, bk := ks.bk, ct := ks.ct }) : WpS K F (tSeq a b) ρ ks :=
  ws_seqZ fun R hR => WpS.imp h2 (fun ρ1 ⟨x, px, f⟩ => ⟨_, f, hR ▸ h1 x px⟩) (fun _ _ z => z) (fun _ z => z) (fun _ z => z)
/-! ### a private part opened and shut, lent by a pointer -/
section
variable {K : PySem.W.Frag} {F : Fx} {ρ : En} {k : AV → En → Prop} {ks : KS} {te ta : TE} {tt : TS}
/-- opened: its root becomes a cell, others follow as new cells -/
theorem EnvOk.openR {as : List Addr} {σ : L2.St} {H G : Hp} {j : Nat} {t : Option Addr} {X : RegX} {Ts : Nat → Hp} {a : Addr} {c0 : Cell} {ps : List Addr} {cs : List Cell} (e : EnvOk K F ρ as σ H G) (r : RegsAt Ts F.Fr G H as ρ.ce) (hj : ρ.ce[j]? = some (.reg t X)) (ha : as[j]? = some a)
    (n0 : ∀ t X, c0 ≠ Cell.reg t X) (ok0 : CellOk K G H a c0) (ln : ps.length = cs.length) (nd : (a :: ps).Nodup) (hT : ∀ p ∈ ps, ∃ o, Ts j p = some o) (nr : ∀ (i : Nat) t X, cs[i]? ≠ some (Cell.reg t X)) (ok : ∀ (i : Nat) c p, cs[i]? = some c → ps[i]? = some p → CellOk K G H p c) :
    EnvOk K F ⟨ρ.sl, ρ.ce.set j c0 ++ cs⟩ (as ++ ps) σ H G := by
  have jl : j < ρ.ce.length := (List.getElem?_eq_some_iff.mp hj).1
  have la : as.length = (ρ.ce.set j c0).length := by rw [e.ln, List.length_set]
  have gr : Gr G as G (as ++ ps) := ⟨Same.refl _, ps, rfl⟩
  have apart : ∀ (i : Nat) p, p ∈ ps → as[i]? ≠ some p := fun i p hp z => by
    obtain ⟨o, ho⟩ := hT p hp
    have := (r.pl j p o ho).2.2.2 i z
    subst this
    rw [ha] at z
    cases z
    exact (List.nodup_cons.mp nd).1 hp
  have cel : ∀ (i : Nat), i ≠ j → i < ρ.ce.length → (ρ.ce.set j c0 ++ cs)[i]? = ρ.ce[i]? := fun i hi hl => by
    rw [List.getElem?_append_left (by rw [List.length_set]; exact hl), List.getElem?_set_ne (fun z => hi z.symm)]
  have regI : ∀ (i : Nat) t X, (ρ.ce.set j c0 ++ cs)[i]? = some (Cell.reg t X) → i ≠ j ∧ i < ρ.ce.length ∧ ρ.ce[i]? = some (Cell.reg t X) := fun i t X h => by
    by_cases hl : i < ρ.ce.length
    · have ne : i ≠ j := fun z => by
        subst z
        rw [List.getElem?_append_left (by rw [List.length_set]; exact hl), List.getElem?_set_self hl] at h
        exact n0 t X (Option.some.inj h)
      rw [cel i ne hl] at h
      exact ⟨ne, hl, h⟩
    · rw [List.getElem?_append_right (by rw [List.length_set]; omega)] at h
      exact absurd h (nr _ t X)
  refine ⟨e.gh, e.fh, e.fg, e.g0, ?_, e.pr.trans (List.prefix_append _ _), ?_, fun i c b hc hb => ?_, e.sn, fun i av hi => ?_, fun i => if i = j then fun _ => none else Ts i, fun i h b => ?_, fun i l b o u h1 h2 => ?_, fun i b o h => ?_, fun i t2 X2 b hc hb => ?_⟩
  · rw [List.nodup_append]
    refine ⟨e.nd, (List.nodup_cons.mp nd).2, fun x hx y hy z => ?_⟩
    subst z
    obtain ⟨i, hi⟩ := List.getElem?_of_mem hx
    exact apart i x hy hi
  · show (as ++ ps).length = (ρ.ce.set j c0 ++ cs).length
    rw [List.length_append, List.length_append, la, ln]
  · have hc : (ρ.ce.set j c0 ++ cs)[i]? = some c := hc
    by_cases hl : i < ρ.ce.length
    · have hb : as[i]? = some b := by rw [List.getElem?_append_left (by rw [e.ln]; exact hl)] at hb; exact hb
      by_cases q : i = j
      · subst q
        rw [List.getElem?_append_left (by rw [List.length_set]; exact hl), List.getElem?_set_self hl] at hc
        cases hc
        rw [ha] at hb
        cases hb
        obtain ⟨f, x, _⟩ := e.ce i _ a hj ha
        exact ⟨f, x, ok0⟩
      · rw [cel i q hl] at hc
        exact e.ce i c b hc hb
    · rw [List.getElem?_append_right (by rw [List.length_set]; omega), List.length_set] at hc
      rw [List.getElem?_append_right (by rw [e.ln]; omega), e.ln] at hb
      obtain ⟨o, ho⟩ := hT b (List.mem_of_getElem? hb)
      obtain ⟨x, y, z, _⟩ := r.pl j b o ho
      exact ⟨z, ⟨o, x⟩, ok _ c b hc hb⟩
  · obtain ⟨v, hv, rr⟩ := e.sl i av hi
    exact ⟨v, hv, rr.mono gr⟩
  · show (if i = j then fun _ => none else Ts i) b = none
    by_cases q : i = j
    · rw [if_pos q]
    · rw [if_neg q]
      refine r.em i (fun t2 X2 z => h t2 X2 ?_) b
      show (ρ.ce.set j c0 ++ cs)[i]? = _
      rw [cel i q (List.getElem?_eq_some_iff.mp z).1]
      exact z
  · by_cases q1 : i = j
    · rw [if_pos q1] at h1; cases h1
    · by_cases q2 : l = j
      · rw [if_pos q2] at h2; cases h2
      · rw [if_neg q1] at h1
        rw [if_neg q2] at h2
        exact r.dj i l b o u h1 h2
  · by_cases q1 : i = j
    · rw [if_pos q1] at h; cases h
    · rw [if_neg q1] at h
      obtain ⟨x, y, z, w⟩ := r.pl i b o h
      refine ⟨x, y, z, fun l hl => ?_⟩
      by_cases q : l < as.length
      · rw [List.getElem?_append_left q] at hl
        exact w l hl
      · rw [List.getElem?_append_right (by omega)] at hl
        obtain ⟨o2, h2⟩ := hT b (List.mem_of_getElem? hl)
        exact absurd (r.dj i j b o o2 h h2) q1
  · obtain ⟨ne, hl, h⟩ := regI i t2 X2 hc
    rw [List.getElem?_append_left (by rw [e.ln]; exact hl)] at hb
    rw [if_neg ne]
    exact r.ok i t2 X2 b h hb
/-- shut: a cell becomes a private part's root; the part stands already, apart from all else -/
theorem EnvOk.toReg {as : List Addr} {σ : L2.St} {H G T : Hp} {j : Nat} {t : Option Addr} {X : RegX} {Ts : Nat → Hp} {a : Addr} {c0 : Cell} (e : EnvOk K F ρ as σ H G) (r : RegsAt Ts F.Fr G H as ρ.ce) (hj : ρ.ce[j]? = some c0) (ng : c0 ≠ .gone) (n0 : ∀ t X, c0 ≠ Cell.reg t X) (ha : as[j]? = some a)
    (hT : ∀ b o, T b = some o → H b = some o ∧ G b = none ∧ F.Fr b = none ∧ (∀ i : Nat, as[i]? = some b → i = j) ∧ ∀ i, Ts i b = none) (ht : ∀ g, t = some g → a = g) (ok : X.ok T G a) : EnvOk K F (ρ.cell j (.reg t X)) as σ H G := by
  have jl : j < ρ.ce.length := (List.getElem?_eq_some_iff.mp hj).1
  refine ⟨e.gh, e.fh, e.fg, e.g0, e.nd, e.pr, by rw [e.ln]; exact List.length_set.symm, fun i c b hc hb => ?_, e.sn, e.sl, fun i => if i = j then T else Ts i, fun i h b => ?_, fun i l b o u h1 h2 => ?_, fun i b o h => ?_, fun i t2 X2 b hc hb => ?_⟩
  · have hc : (ρ.ce.set j (.reg t X))[i]? = some c := hc
    by_cases q : i = j
    · subst q
      rw [List.getElem?_set_self jl] at hc
      cases hc
      obtain ⟨f, x, y⟩ := e.ce i _ b hj hb
      exact ⟨f, x, y.none ng⟩
    · rw [List.getElem?_set_ne (fun z => q z.symm)] at hc
      exact e.ce i c b hc hb
  · show (if i = j then T else Ts i) b = none
    by_cases q : i = j
    · exact absurd (show (ρ.ce.set j (.reg t X))[i]? = some (.reg t X) by rw [q, List.getElem?_set_self jl]) (h t X)
    · rw [if_neg q]
      refine r.em i (fun t2 X2 z => h t2 X2 ?_) b
      show (ρ.ce.set j (.reg t X))[i]? = _
      rw [List.getElem?_set_ne (fun z => q z.symm)]
      exact z
  · by_cases q1 : i = j
    · by_cases q2 : l = j
      · rw [q1, q2]
      · rw [if_pos q1] at h1
        rw [if_neg q2] at h2
        rw [(hT b o h1).2.2.2.2 l] at h2
        cases h2
    · by_cases q2 : l = j
      · rw [if_neg q1] at h1
        rw [if_pos q2] at h2
        rw [(hT b u h2).2.2.2.2 i] at h1
        cases h1
      · rw [if_neg q1] at h1
        rw [if_neg q2] at h2
        exact r.dj i l b o u h1 h2
  · by_cases q1 : i = j
    · rw [if_pos q1] at h
      obtain ⟨x, y, z, w, _⟩ := hT b o h
      exact ⟨x, y, z, fun l hl => by rw [q1]; exact w l hl⟩
    · rw [if_neg q1] at h
      exact r.pl i b o h
  · have hc : (ρ.ce.set j (.reg t X))[i]? = some (Cell.reg t2 X2) := hc
    by_cases q : i = j
    · subst q
      rw [List.getElem?_set_self jl] at hc
      cases hc
      rw [ha] at hb
      cases hb
      rw [if_pos rfl]
      exact ⟨ht, ok⟩
    · rw [List.getElem?_set_ne (fun z => q z.symm)] at hc
      rw [if_neg q]
      exact r.ok i t2 X2 b hc hb
/-- .. and what lies behind the n-th cell is forgotten, parts of it have gone into the private part -/
theorem EnvOk.closeR {as : List Addr} {σ : L2.St} {H G T : Hp} {j n : Nat} {t : Option Addr} {X : RegX} {a : Addr} {c0 : Cell} (e : EnvOk K F ρ as σ H G) (hn : F.as0.length ≤ n) (jn : j < n) (hj : ρ.ce[j]? = some c0) (ng : c0 ≠ .gone) (n0 : ∀ t X, c0 ≠ Cell.reg t X) (ha : as[j]? = some a)
    (hT : ∀ b o, T b = some o → H b = some o ∧ ∃ (i : Nat) (c : Cell), as[i]? = some b ∧ ρ.ce[i]? = some c ∧ c ≠ .gone ∧ (∀ t X, c ≠ Cell.reg t X) ∧ (i = j ∨ n ≤ i)) (ht : ∀ g, t = some g → a = g) (ok : X.ok T G a) : EnvOk K F ((ρ.trunc n).cell j (.reg t X)) (as.take n) σ H G := by
  obtain ⟨Ts, r⟩ := e.rg
  have e1 := e.trunc n hn
  obtain ⟨Ts1, r1, sub⟩ := r.subS (as' := as.take n) (cs' := ρ.ce.take n) (Fr' := F.Fr) (G' := G) (H' := H) (fun i t X h => by
    rw [List.getElem?_take] at h
    split at h
    · rename_i hi
      exact ⟨h, by rw [List.getElem?_take, if_pos hi]⟩
    · cases h) (fun i b h => by
    rw [List.getElem?_take] at h
    split at h
    · exact .inr h
    · cases h) (fun i t X b o _ hb => ⟨(r.pl i b o hb).1, (r.pl i b o hb).2.1, (r.pl i b o hb).2.2.1⟩) (fun _ _ z => .inl z)
  refine e1.toReg r1 (c0 := c0) (by show (ρ.ce.take n)[j]? = _; rw [List.getElem?_take, if_pos jn]; exact hj) ng n0 (by rw [List.getElem?_take, if_pos jn]; exact ha) (fun b o hb => ?_) ht ok
  obtain ⟨hH, i, c, hi, hc, cg, cr, ij⟩ := hT b o hb
  obtain ⟨f, _, y⟩ := e.ce i c b hc hi
  have only : ∀ l : Nat, as[l]? = some b → l = i := fun l hl => (List.getElem?_inj (List.getElem?_eq_some_iff.mp hl).1 e.nd).mp (hl.trans hi.symm)
  refine ⟨hH, y.none cg, f, fun l hl => ?_, fun l => ?_⟩
  · rw [List.getElem?_take] at hl
    split at hl
    · have := only l hl
      omega
    · cases hl
  · cases z : Ts1 l b with
    | none => rfl
    | some o2 =>
      have h2 := sub l b o2 z
      have := (r.pl l b o2 h2).2.2.2 i hi
      subst this
      obtain ⟨t2, X2, h3⟩ := r.is h2
      rw [hc] at h3
      cases h3
      exact absurd rfl (cr t2 X2)
/-- an environment that may stand in another one's place at the end of what began in ρ0 -/
def Rel (K : PySem.W.Frag) (F : Fx) (ρ0 ρ ρ' : En) : Prop := ∀ (as as0 : List Addr) (σ : L2.St) (H G G0 : Hp), EnvOk K F ρ as σ H G → Gr G0 as0 G as → as0.length = ρ0.ce.length → F.as0.length ≤ ρ0.ce.length → (∀ (j : Nat) f X, ρ0.ce[j]? = some (Cell.reg (some f) X) → as0[j]? = some f) → ∃ as' G', EnvOk K F ρ' as' σ H G' ∧ Gr G0 as0 G' as'
theorem Rel.fz {ρ0 ρ' : En} (h : Fz ρ0.ce.length ρ ρ') : Rel K F ρ0 ρ ρ' := fun as as0 σ H G G0 e g hn h0 _ => by
  cases h with
  | tr t =>
    obtain ⟨as', e', g'⟩ := t.run e g (Nat.le_of_eq hn) h0
    exact ⟨as', _, e', g'⟩
  | fz j ds hj t =>
    have hl : j < as.length := by rw [e.ln]; exact (List.getElem?_eq_some_iff.mp hj).1
    obtain ⟨vs, e2, g2, _⟩ := e.frz hj (List.getElem?_eq_getElem hl)
    obtain ⟨as', e', g'⟩ := t.run e2 (g.trans g2) (Nat.le_of_eq hn) h0
    exact ⟨as', _, e', g'⟩
/-- a statement whose ends are told by P, then the rest for each of them -/
theorem ws_seqR {α : Type} {a b : TS} (P : α → Prop) (env : α → En) (h1 : ∀ x, P x → WpS K F b (env x) ks) (h2 : WpS K F a ρ { nx := fun ρ1 => ∃ x, P x ∧ Rel K F ρ ρ1 (env x), rt := ks.rt, bk := ks.bk, ct := ks.ct }) : WpS K F (tSeq a b) ρ ks := fun as σ H G e D q =>
  h2 as σ H G e { D with nx := b D } ⟨fun ρ1 as1 σ1 H1 G1 ⟨x, px, t⟩ e1 g1 => by
    obtain ⟨as', G', e', g'⟩ := t as1 as σ1 H1 G1 G e1 g1 e.ln (by have := e.pr.length_le; rw [e.ln] at this; exact this) (fun j f X hj => by
      obtain ⟨Ts, r⟩ := e.rg
      obtain ⟨a, ha⟩ : ∃ a, as[j]? = some a := ⟨_, List.getElem?_eq_getElem (by rw [e.ln]; exact (List.getElem?_eq_some_iff.mp hj).1)⟩
      rw [ha, (r.ok j _ _ a hj ha).1 f rfl])
    exact h1 x px as' σ1 H1 G' e' D (q.grow K F g'), q.rt, q.bk, q.ct, q.fr⟩
/-- a loop that begins with private parts opened -/
theorem ws_forO {wi : TI} {g : TG} {tb : TS} (h : WpI K F wi ρ fun ds gd ρ1 => ∀ as σ H G, EnvOk K F ρ1 as σ H G → ∃ ρ2 ps, EnvOk K F ρ2 (as ++ ps) σ H G ∧ Loop K F ρ1.ce.length gd g tb ks ds ρ2) : WpS K F (tFor wi g tb) ρ ks := fun as σ H G e D q =>
  h as σ H G e _ fun ds gd J ρ1 as1 H1 G1 h1 e1 g1 its => by
    have ln1 : as1.length ≤ ρ1.ce.length := by rw [e1.ln]; exact Nat.le_refl _
    have ln0 : F.as0.length ≤ ρ1.ce.length := Nat.le_trans e1.pr.length_le ln1
    obtain ⟨ρz, ps, ez, hz⟩ := h1 as1 σ H1 G1 e1
    refine ⟨fun i m σ' H' => m = ds.length - i ∧ i ≤ ds.length ∧ ∃ ρ2 as2 G2, EnvOk K F ρ2 as2 σ' H' G2 ∧ Gr G1 as1 G2 as2 ∧ Loop K F ρ1.ce.length gd g tb ks (ds.drop i) ρ2, ⟨_, rfl, Nat.zero_le _, ρz, as1 ++ ps, G1, ez, ⟨Same.refl _, ps, rfl⟩, hz⟩, ?_⟩
    rintro i m σ' H' ⟨rfl, hi, ρ2, as2, G2, e2, g2, lp⟩
    obtain ⟨go, st, yl⟩ := its ρ2 as2 σ' H' G2 e2 g2 lp.gd
    by_cases hlt : i < ds.length
    · obtain ⟨d, hd⟩ : ∃ d, ds[i]? = some d := ⟨_, List.getElem?_eq_getElem hlt⟩
      have ed : ds.drop i = d :: ds.drop (i + 1) := by
        rw [List.drop_eq_getElem_cons hlt]
        rw [List.getElem?_eq_getElem hlt] at hd
        cases hd
        rfl
      rw [ed] at lp
      refine .inr ⟨go i hlt, fun σ3 H3 => ∃ ρ3 as3 G3, EnvOk K F ρ3 as3 σ3 H3 G3 ∧ Gr G1 as1 G3 as3 ∧ Loop K F ρ1.ce.length gd g tb ks (ds.drop (i + 1)) ρ3, fun σ3 H3 ⟨ρ3, as3, G3, e3, g3, l3⟩ => ⟨_, by omega, rfl, hlt, ρ3, as3, G3, e3, g3, l3⟩, fun x H3 y => ?_⟩
      obtain ⟨d', G3, hd', e3, g3, rx⟩ := yl i x H3 hlt y
      rw [hd] at hd'
      cases hd'
      refine lp.2 as2 σ' H3 G3 x (e3 _ e2) rx _ fun ρ4 as4 σ4 H4 G4 h4 e4 g4 => ?_
      refine h4 as4 σ4 H4 G4 e4 _ ⟨fun ρ5 as5 σ5 H5 G5 ⟨ρ6, tr, h5⟩ e5 g5 => ?_, fun av ρ5 v as5 σ5 H5 G5 h5 e5 g5 r5 => q.rt av ρ5 v as5 σ5 H5 G5 h5 e5 (g1.trans (g2.trans (g3.trans (g4.trans g5)))) r5, fun ρ5 as5 σ5 H5 G5 h5 e5 g5 => q.nx ρ5 as5 σ5 H5 G5 h5 e5 (g1.trans (g2.trans (g3.trans (g4.trans g5)))), fun ρ5 as5 σ5 H5 G5 ⟨ρ6, tr, h5⟩ e5 g5 => ?_, q.fr⟩
      · obtain ⟨as6, e6, g6⟩ := tr.run e5 (g2.trans (g3.trans (g4.trans g5))) ln1 ln0
        exact ⟨ρ6, as6, G5, e6, g6, h5⟩
      · obtain ⟨as6, e6, g6⟩ := tr.run e5 (g2.trans (g3.trans (g4.trans g5))) ln1 ln0
        exact ⟨ρ6, as6, G5, e6, g6, h5⟩
    · have ei : i = ds.length := by omega
      subst ei
      rw [List.drop_length] at lp
      exact .inl ⟨st, q.nx ρ2 as2 σ' H' G2 lp.2 e2 (g1.trans g2)⟩
/-- a pointer to a private part is lent -/
theorem wsp_ptrR {sp : Sp} {E : L2.St → XK} {xs ys : List AV} {j : Nat} {c : Addr} {X : RegX} (hc : ρ.ce[j]? = some (.reg (some c) X)) (hp : Ptr j c xs ys) (h : WpSp K F sp E ys ρ k) : WpSp K F sp E xs ρ k := fun as σ H G vs e r Q q => by
  obtain ⟨a, ha⟩ : ∃ a, as[j]? = some a := ⟨_, List.getElem?_eq_getElem (by rw [e.ln]; exact (List.getElem?_eq_some_iff.mp hc).1)⟩
  have ea : a = c := by
    obtain ⟨Ts, r⟩ := e.rg
    exact (r.ok j _ _ a hc ha).1 c rfl
  subst ea
  have r1 : ∀ {xs ys : List AV}, Ptr j a xs ys → ∀ {vs : List V}, RepAs K G as xs vs → RepAs K G as ys vs := fun hq => by
    induction hq with
    | nil => exact fun r => r
    | same _ ih => exact fun r => by cases r with | cons x y => exact .cons x (ih y)
    | ptr _ ih =>
      exact fun r => by
        cases r with
        | cons x y =>
          cases (show Rep K G (.cls a) _ from x)
          exact .cons ⟨a, ha, rfl⟩ (ih y)
  exact h as σ H G vs e (r1 hp r) Q q
/-- a private part's root as a receiver -/
inductive RootR (ρ : En) (C : Addr) : AV → RegX → Prop
  | cel {j : Nat} {t : Option Addr} {X : RegX} : ρ.ce[j]? = some (.reg t X) → RootR ρ C (.cel j) X
  | ptr {j : Nat} {c : Addr} {X : RegX} : ρ.ce[j]? = some (.reg (some c) X) → RootR ρ C (.dat (.cls c)) X
theorem RootR.at {C : Addr} {x : AV} {X : RegX} {as : List Addr} {σ : L2.St} {H G : Hp} {v : V} (e : EnvOk K F ρ as σ H G) (h : RootR ρ C x X) (r : RepA K G as x v) : ∃ a T, v = .ref a ∧ X.ok T G a ∧ ∀ b o, T b = some o → H b = some o := by
  obtain ⟨Ts, rg⟩ := e.rg
  cases h with
  | @cel j t X hc =>
    obtain ⟨a, ha, rfl⟩ := r
    exact ⟨a, Ts j, rfl, (rg.ok j _ _ a hc ha).2, fun b o hb => (rg.pl j b o hb).1⟩
  | @ptr j c X hc =>
    cases (show Rep K G (.cls c) v from r)
    obtain ⟨a, ha⟩ : ∃ a, as[j]? = some a := ⟨_, List.getElem?_eq_getElem (by rw [e.ln]; exact (List.getElem?_eq_some_iff.mp hc).1)⟩
    have ea := (rg.ok j _ _ a hc ha).1 c rfl
    subst ea
    exact ⟨a, Ts j, rfl, (rg.ok j _ _ a hc ha).2, fun b o hb => (rg.pl j b o hb).1⟩
/-- of what class a private part's root is, and what stands in a field of it -/
def RegC (C : Addr) (m : Str) (X : RegX) : Prop := ∀ T G a, X.ok T G a → ∃ dx fs, T a = some (.ins C dx fs) ∧ fs.lookup m = none
def RegF (C : Addr) (f : Str) (d : D) (X : RegX) : Prop := ∀ (K : PySem.W.Frag) T G a, X.ok T G a → ∃ dx fs v, T a = some (.ins C dx fs) ∧ fs.lookup f = some v ∧ Rep K G d v
theorem we_methR {C : Addr} {m : Str} {sp : Sp} {E : XK} {t : TA} (h : WpE K F ta ρ fun x ρ1 => ∃ X, RootR ρ1 C x X ∧ RegC C m X ∧ WpA K F t ρ1 fun xs ρ2 => WpSp K F sp (fun _ => E) (x :: xs) ρ2 k) : WpE K F (tMeth C m sp [] E ta t) ρ k := fun as σ H G e Q q =>
  h as σ H G e _ fun x ρ1 vx as1 H1 G1 ⟨X, ho, hn, h1⟩ e1 g1 r1 => by
    obtain ⟨a, T, rfl, ok, sT⟩ := ho.at e1 r1
    obtain ⟨dx, fs, hv, hl⟩ := hn T G1 a ok
    refine ⟨a, dx, _, rfl, sT _ _ hv, hl, h1 as1 σ H1 G1 e1 _ fun xs ρ2 ws as2 H2 G2 h2 e2 g2 r2 => ?_⟩
    rw [List.append_nil]
    exact h2 as2 σ H2 G2 _ e2 (.cons (r1.mono g2) r2) Q (q.imp (g1.trans g2) fun _ _ z => z)
theorem we_methSR {C : Addr} {m : Str} {sp : Sp} {E : L2.St → XK} {t : TA} (h : WpE K F ta ρ fun x ρ1 => ∃ X, RootR ρ1 C x X ∧ RegC C m X ∧ WpA K F t ρ1 fun xs ρ2 => WpSp K F sp E (x :: xs) ρ2 k) : WpE K F (tMethS C m sp E ta t) ρ k := fun as σ H G e Q q =>
  h as σ H G e _ fun x ρ1 vx as1 H1 G1 ⟨X, ho, hn, h1⟩ e1 g1 r1 => by
    obtain ⟨a, T, rfl, ok, sT⟩ := ho.at e1 r1
    obtain ⟨dx, fs, hv, hl⟩ := hn T G1 a ok
    exact ⟨a, dx, _, rfl, sT _ _ hv, hl, h1 as1 σ H1 G1 e1 _ fun xs ρ2 ws as2 H2 G2 h2 e2 g2 r2 => h2 as2 σ H2 G2 _ e2 (.cons (r1.mono g2) r2) Q (q.imp (g1.trans g2) fun _ _ z => z)⟩
theorem we_fldR {C : Addr} {f : Str} {d : D} (h : WpE K F ta ρ fun x ρ1 => ∃ X, RootR ρ1 C x X ∧ RegF C f d X ∧ Cls K C ∧ NoAttr K C f ∧ k (.dat d) ρ1) : WpE K F (tFld K ta f) ρ k := fun as σ H G e Q q =>
  h as σ H G e _ fun x ρ1 vx as1 H1 G1 ⟨X, ho, hf, cl, na, hk⟩ e1 g1 r1 => by
    obtain ⟨a, T, rfl, ok, sT⟩ := ho.at e1 r1
    obtain ⟨dx, fs, v, hv, hl, rv⟩ := hf K T G1 a ok
    exact ⟨a, C, dx, fs, v, rfl, sT _ _ hv, cl, na, hl, q _ _ _ _ _ _ hk e1 g1 rv⟩
end
/-- arguments as data -/
local macro_rules | `(tactic| walk_at "as") => `(tactic| first
  | exact AsD.nil
  | (apply AsD.dat; walk_at "as")
  | (apply AsD.cel rfl; walk_at "as")
  | fail)
local macro_rules | `(tactic| walk_at "fz") => `(tactic| first
  | exact Frz.nil
  | (apply Frz.dat; walk_at "fz")
  | (apply Frz.cel rfl; walk_at "fz")
  | (apply Frz.ins rfl; walk_at "fz")
  | fail)
local macro_rules | `(tactic| walk_at "il") => `(tactic| first
  | exact IsL.dat _
  | exact IsL.cel rfl
  | exact IsL.scr _
  | fail)
local macro_rules | `(tactic| walk_at "od") => `(tactic| first
  | exact OfD.dat _
  | exact OfD.cel rfl
  | fail)
local macro_rules | `(tactic| walk_at "on") => `(tactic| first
  | exact only_name (by simp)
  | (refine only_tup ?_; repeat first | exact onlys_nil | refine onlys_cons (by simp) ?_)
  | fail)
/-- a call: its arguments as data -/
local macro_rules | `(tactic| walk_at "c") => `(tactic| (refine' wspE ?q1 ?z9; (case q1 => walk_at "as")))
local macro_rules | `(tactic| walk_at "cx") => `(tactic| (refine' wspX ?q1 ?z9; (case q1 => walk_at "as")))
local macro_rules | `(tactic| walk_at "al") => `(tactic| first
  | exact AsL.nil
  | (apply AsL.dat; walk_at "al")
  | (apply AsL.own; walk_at "al")
  | (apply AsL.cel (Nat.ne_of_beq_eq_false rfl) rfl; walk_at "al")
  | fail)
/-- a call that is lent a cell -/
local macro_rules | `(tactic| walk_at "c1") => `(tactic| (refine' wsp1 ?q1 ?q2 ?q3 ?z9; (case q1 => rfl); (case q2 => rfl); (case q3 => rfl)))
local macro_rules | `(tactic| walk_at "c2") => `(tactic| (refine' wsp2 ?q1 ?q2 ?q3 ?z9; (case q1 => rfl); (case q2 => rfl); (case q3 => walk_at "al")))
local macro_rules | `(tactic| walk_at "cd") => `(tactic| (refine' wspD ?q1 ?q2 ?z9; (case q2 => walk_at "al"); (case q1 => rfl)))
/-- one step by data -/
local macro_rules | `(tactic| walk_at "d") => `(tactic| first
  | with_reducible refine ws_seq ?_
  | with_reducible refine ws_asg ?_
  | with_reducible refine ws_ret ?_
  | with_reducible refine ws_if ?_
  | with_reducible refine ws_drop ?_
  | with_reducible refine ws_par ?_
  | with_reducible refine ws_next ?_
  | with_reducible refine ws_retN ?_
  | with_reducible refine ws_break ?_
  | with_reducible refine ws_cont ?_
  | with_reducible refine ws_for ?_
  | ((with_reducible refine' we_var ?v1 ?z9); (case v1 => exact rfl))
  | with_reducible refine we_ci ?_
  | with_reducible refine we_cs ?_
  | with_reducible refine we_cn ?_
  | with_reducible refine we_cb ?_
  | with_reducible refine we_ct ?_
  | with_reducible refine we_op ?_
  | with_reducible refine we_un ?_
  | with_reducible refine we_tCB ?_
  | with_reducible refine wa_nil ?_
  | with_reducible refine wa_cons ?_
  | with_reducible refine we_andV ?_
  | with_reducible refine we_orV ?_
  | with_reducible refine we_notV ?_
  | with_reducible refine we_if ?_
  | with_reducible refine wt_test ?_
  | with_reducible refine wt_B ?_
  | with_reducible refine wt_and ?_
  | with_reducible refine wt_or ?_
  | with_reducible refine wt_not ?_
  | with_reducible refine wt_yes ?_
  | with_reducible refine wt_tru ?_
  | with_reducible refine we_tup ?_
  | with_reducible refine we_lst ?_
  | with_reducible refine we_call ?_
  | with_reducible refine we_callS ?_
  | with_reducible refine wo_none ?_
  | with_reducible refine wo_some ?_
  | with_reducible refine wi_rng1 ?_
  | with_reducible refine wi_rng2 ?_
  | with_reducible refine wg_name ?_
  | with_reducible refine wg_sub ?_
  | with_reducible refine wgs_nil ?_
  | with_reducible refine wgs_cons ?_
  | with_reducible refine wgs_consM ?_
  | with_reducible refine wgs_nilM ?_
  | with_reducible refine wr_I0i ?_
  | with_reducible refine wr_I0b ?_
  | with_reducible refine wr_isN ?_
  | with_reducible refine wr_notN ?_
  | with_reducible refine wr_isB ?_
  | with_reducible refine wr_isnotB ?_
  | (with_reducible refine wu_neg ?_)
  | with_reducible refine wc_abs ?_
  | ((with_reducible refine' wr_eq ?v1 ?z9); (case v1 => exact rfl))
  | ((with_reducible refine' wr_ne ?v1 ?z9); (case v1 => exact rfl))
  | ((with_reducible refine' we_lc ?v0 ?z9); (case v0 => walk_at "on"))
  | ((with_reducible refine' wm_append ?v0 ?v1 ?v2 ?z9); (case v0 => walk_at "fz"); (case v1 => exact rfl))
  | refine we_bm ?_
  | refine we_bm0 ?_
  | refine we_slL ?_
  | refine wi_list ?_
  | refine wi_tup ?_
  | ((refine' wg_tup ?v1 ?z9); (case v1 => exact rfl))
  | ((refine' wr_ixT ?v1 ?z9); (case v1 => exact rfl))
  | ((refine' wr_ixL ?v0 ?v1 ?z9); (case v0 => walk_at "il"); (case v1 => exact rfl))
  | refine wc_lenT ?_
  | ((refine' wc_lenL ?v0 ?z9); (case v0 => walk_at "il"))
  | ((refine' wc_isi ?v0 ?v1 ?z9); (case v0 => simp); (case v1 => exact rfl))
  | ((refine' wc_isiC ?v0 ?v1 ?z9); (case v0 => simp); (case v1 => exact rfl))
  | ((refine' wc_list ?v0 ?z9); (case v0 => walk_at "il"))
  | refine wc_listT ?_
  | ((refine' wc_tuple ?v0 ?z9); (case v0 => walk_at "il"))
  | (first | refine ⟨⟨_, _, rfl, rfl, rfl⟩, ?_⟩ | refine ⟨⟨_, _, rfl, rfl, fun z => by cases z⟩, ?_⟩ | fail)
  | ((with_reducible refine' frz_in ?v0 ?v1 ?z9); (case v0 => walk_at "fz"); (case v1 => exact rfl))
  | ((with_reducible refine' il_in ?v0 ?z9); (case v0 => walk_at "il"))
  | ((with_reducible refine' lc_in ?v0 ?v1 ?v2 ?z9); (case v0 => walk_at "fz"); (case v1 => exact rfl))
  | (refine ⟨_, rfl, ?_⟩)
  | (refine ⟨_, _, rfl, ?_⟩)
  | fail)
/-- steps, and ifs whose test is told -/
local macro_rules | `(tactic| walk_at "D") => `(tactic| repeat (first
  | walk_at "d"
  | refine ifT rfl ?_
  | refine ifF rfl ?_))
/-- the environment written out -/
local macro_rules | `(tactic| walk_at "nrm") => `(tactic| first | (dsimp only [En.put, En.add, En.cell, List.set_cons_zero, List.set_cons_succ, List.cons_append, List.nil_append, List.length_cons, List.length_nil, Nat.zero_add, Nat.reduceAdd]) | skip)

/-- .. with what was frozen and forgotten -/
local macro_rules | `(tactic| walk_at "nr2") => `(tactic| first | (dsimp only [En.start, En.put, En.add, En.cell, En.frz, En.frzD, En.clr, frzA_d, frzA_c, mapC, mapN, Option.map_some, Option.map_none, List.set_cons_zero, List.set_cons_succ, List.cons_append, List.nil_append, List.length_cons, List.length_nil, Nat.zero_add, Nat.reduceAdd, Nat.reduceSub, List.replicate_succ, List.replicate_zero, ↓reduceIte, Nat.reduceEqDiff, reduceCtorEq]) | skip)

local macro_rules | `(tactic| walk_at "nr4") => `(tactic| first | (simp only [En.start, En.put, En.add, En.cell, En.frz, En.frzD, En.clr, frzA_d, frzA_c, mapC, mapN, Option.map_some, Option.map_none, List.set_cons_zero, List.set_cons_succ, List.cons_append, List.nil_append, List.length_cons, List.length_nil, Nat.zero_add, Nat.reduceAdd, Nat.reduceSub, List.replicate_succ, List.replicate_zero, ↓reduceIte, Nat.reduceEqDiff, reduceCtorEq, Nat.succ_ne_self]) | skip)
section
variable {P : Program} {w : World} {K : PySem.W.Frag} {mg : Str → Option Value} {base : Heap}
/-! ### a drawn figure, of a base up to 2 ^ 34 -/
theorem lg_wide {b : Int} (b0 : 0 < b) (b1 : b < 17179869184) : b.natAbs.log2 < 9000 := by
  have h : b.natAbs.log2 < 34 := (Nat.log2_lt (by omega)).mpr (by omega)
  omega
def wDigit : PW0 := fun xs cs post _ => ∃ b : Int, xs = [.cel 0, .dat (.int b)] ∧ cs = [.drw] ∧ 0 < b ∧ b < 17179869184 ∧ ∀ d, 0 ≤ d → d < b → post (.dat (.int d)) [.drw]
def wDigit0 : PW0 := fun xs cs post _ => ∃ b : Int, xs = [.cel 0, .dat (.int b)] ∧ cs = [.drw] ∧ 0 < b ∧ b < 17179869184 ∧ ∀ d x y z, 0 ≤ d → d < b → post (.dat (.int d)) [.lst [.int x, .int y, .int z]]
theorem digit0_of {vs : List V} {H : Hp} {Q : VK} {E : XK} (h : spG K wDigit vs H Q E) : spG K wDigit0 vs H Q E := by
  obtain ⟨G, as, Ts, xs, cs, post, exc, gh, ok, rg, rx, ⟨b, rfl, rfl, b0, b1, hp⟩, hq, he⟩ := h
  refine ⟨G, as, Ts, _, _, fun r cs' => ∃ (d x y z : Int), r = .dat (.int d) ∧ cs' = [.lst [.int x, .int y, .int z]] ∧ 0 ≤ d ∧ d < b, exc, gh, ok, rg, rx, ⟨b, rfl, rfl, b0, b1, fun d x y z d0 d1 => ⟨d, x, y, z, rfl, rfl, d0, d1⟩⟩, ?_, he⟩
  rintro r cs' v H' G' Ts' ⟨d, x, y, z, rfl, rfl, d0, d1⟩ fr sG gh' nw ck rg' nwT rr
  refine hq _ _ v H' G' Ts' (hp d d0 d1) fr sG gh' nw ⟨ck.ln, ck.nd, fun j c a hc ha => ?_⟩ (rg'.noreg (fun j t X z => by cases j <;> simp at z) fun j t X z => by cases j <;> simp at z) nwT rr
  cases j with
  | zero =>
    cases hc
    obtain ⟨h1, g, ws, hw, hr⟩ := ck.ok 0 _ a rfl ha
    refine ⟨h1, g, ws, hw, ?_⟩
    obtain ⟨v1, w1, rfl, r1, hr⟩ := hr.consE
    obtain ⟨v2, w2, rfl, r2, hr⟩ := hr.consE
    obtain ⟨v3, w3, rfl, r3, hr⟩ := hr.consE
    rw [hr.nilE, r1.intE, r2.intE, r3.intE]
    exact .inr ⟨_, _, _, rfl⟩
  | succ j => simp at hc
theorem ok_l_digit (T : Txt K mg) : FnOk P w K mg base CX0 1 T.a_l_digit T.d_l_digit ["_law_state", "_law_base"] (spG K wDigit) := by
  refine FnOk.imp (sp := spG K wDigit0) ?_ (fun vs H Q E h => digit0_of h)
  refine T.F_l_digit.ok sc_l_digit (fun vs H Q E h => spG_len h fun xs cs post exc ⟨b, e, _⟩ => by rw [e]; rfl) (fun cdv A outer s H vs Q E hr h => ⟨_, (pss_cons (ps_if (pt_cmpR op_eq (pe_callB call_len_seq (by rfl) T.m_len (by decide +kernel) (pa_cons (pv 0) pa_nil)) pe_int (nomark _)) (pss_one (ps_expr (pe_bm PySem.F.plainAttrs_list PySem.F.slot_list_extend PySem.F.type_list_extend mt_extend (pv 0) (pa_cons (pe_lst (pa_cons (pe_op op_mod (pe_ix ix_list (pv 0) pe_int (fun _ _ => rfl)) pe_int) (pa_cons pe_int pa_nil))) pa_nil)))) pss_nil)
      (pss_cons (ps_if (pt_cmpR op_ge (pe_ix ix_list (pv 0) pe_int (fun _ _ => rfl)) (pv 1) (nomark _)) (pss_cons (ps_set (i := 2) sc_l_digit.nd rfl (Or.inl rfl) (pe_op op_mod (pe_ix ix_list (pv 0) pe_int (fun _ _ => rfl)) (pv 1)))
      (pss_cons (ps_asg (pe_op op_fdivW (pe_ix ix_list (pv 0) pe_int (fun _ _ => rfl)) (pv 1)) (pg_sub (pv 0) pe_int set_list))
      (pss_one (ps_ret (pv 2))))) pss_nil)
      (pss_cons (ps_asg (pe_op op_add (pe_ix ix_list (pv 0) pe_int (fun _ _ => rfl)) pe_int) (pg_sub (pv 0) pe_int set_list))
      (pss_cons (ps_set (i := 3) sc_l_digit.nd rfl (Or.inl rfl) (pe_op op_mod (pe_op op_mul (pe_op op_add (pe_op op_add (pe_ix ix_list (pv 0) pe_int (fun _ _ => rfl)) (pe_op op_mul pe_int (pe_ix ix_list (pv 0) pe_int (fun _ _ => rfl)))) pe_int) pe_int) pe_int))
      (pss_cons (ps_set (i := 3) sc_l_digit.nd rfl (Or.inl rfl) (pe_op op_mod (pe_op op_mul (pv 3) (pe_op op_add (pe_op op_fdivW (pv 3) pe_int) pe_int)) pe_int))
      (pss_one (ps_ret (pe_op op_mod (pe_op op_mod (pe_op op_mul (pv 3) (pe_op op_add (pe_op op_fdivW (pv 3) pe_int) pe_int)) pe_int) (pv 1))))))))), enter h fun F xs cs post hE hw => ?_⟩)
  obtain ⟨b, rfl, rfl, b0, b1, q⟩ := hw
  refine ws_seq ?_
  generalize hR : (tSeq _ _ : TS) = R
  have rest : ∀ (cc : List Cell) (x y z : Int), WpS K F R ⟨[some (.cel 0), some (.dat (.int b)), none, none], .lst [.int x, .int y, .int z] :: cc⟩ (KS.fin 1 post) := by
    intro cc x y z
    subst hR
    walk_at "D"
    refine ifC (fun c => ?_) (fun c => ?_)
    · walk_at "D"
      refine wr_Ii b0 ?_
      walk_at "D"
      refine wr_Ii ⟨b0, lg_wide b0 b1⟩ ?_
      walk_at "D"
      refine sub_in rfl rfl (by walk_at "fz") rfl (m := 0) rfl ?_
      walk_at "D"
      exact fin_dat rfl (q _ _ _ _ (Int.emod_nonneg _ (by omega)) (Int.emod_lt_of_pos _ b0))
    · walk_at "D"
      refine sub_in rfl rfl (by walk_at "fz") rfl (m := 2) rfl ?_
      walk_at "D"
      refine wr_Ii (.inl (by decide)) ?_
      walk_at "D"
      refine wr_Ii (.inr (by decide)) ?_
      walk_at "D"
      refine wr_Ii (by decide) ?_
      have n0 := Int.emod_nonneg ((y + 7919 * (z + 1) + 1) * 48271) (show (2147483647 : Int) ≠ 0 by decide)
      have n1 := Int.emod_lt_of_pos ((y + 7919 * (z + 1) + 1) * 48271) (show (0 : Int) < 2147483647 by decide)
      walk_at "D"
      generalize (y + 7919 * (z + 1) + 1) * 48271 % 2147483647 = n at *
      refine wr_Ii ⟨by decide, by decide⟩ ?_
      walk_at "D"
      refine wr_Ii (.inl ⟨by omega, by omega⟩) ?_
      walk_at "D"
      refine wr_Ii (by decide) ?_
      have m0 := Int.emod_nonneg (n * (n / 1009 + 69621)) (show (2147483647 : Int) ≠ 0 by decide)
      have m1 := Int.emod_lt_of_pos (n * (n / 1009 + 69621)) (show (0 : Int) < 2147483647 by decide)
      walk_at "D"
      generalize n * (n / 1009 + 69621) % 2147483647 = m at *
      walk_at "D"
      refine wr_Ii ⟨by decide, by decide⟩ ?_
      walk_at "D"
      refine wr_Ii (.inl ⟨by omega, by omega⟩) ?_
      walk_at "D"
      refine wr_Ii (by decide) ?_
      walk_at "D"
      refine wr_Ii b0 ?_
      exact fin_dat rfl (q _ _ _ _ (Int.emod_nonneg _ (by omega)) (Int.emod_lt_of_pos _ b0))
  refine ws_drwO (j := 0) rfl (fun x => ?_) (fun x y z => ?_)
  · walk_at "D"
    refine wr_Ii (by decide) ?_
    walk_at "D"
    refine wm_extend (.cel (j := 1) rfl) rfl (by simp) ?_
    walk_at "D"
    exact rest _ _ _ _
  · walk_at "D"
    exact rest _ _ _ _
theorem wsp_digit {K : PySem.W.Frag} {F : Fx} {ρ : En} {k : AV → En → Prop} {E : L2.St → XK} {j : Nat} {b : Int} (hj : ρ.ce[j]? = some .drw) (b0 : 0 < b) (b1 : b < 17179869184) (h : ∀ d, 0 ≤ d → d < b → k (.dat (.int d)) ρ) : WpSp K F (spG K wDigit) E [.cel j, .dat (.int b)] ρ k :=
  wspD hj (.own (.dat .nil)) ⟨b, rfl, rfl, b0, b1, fun d d0 d1 => ⟨rfl, by show (onlyC j [.cel j, .dat (.int b)] || hard (.int d)) = true; rw [show hard (.int d) = true from rfl, Bool.or_true], h d d0 d1⟩⟩
/-! ### plain data -/
mutual
def pl : D → Bool
  | .tup ds => pls ds
  | .lst ds => pls ds
  | .scr _ => false
  | .obj _ _ _ => false
  | .ty _ => false
  | .cls _ => false
  | _ => true
def pls : List D → Bool
  | [] => true
  | d :: ds => pl d && pls ds
end
theorem pl_ty {d : D} (h : pl d = true) : (tyD d).isSome = true := by cases d <;> first | rfl | (simp [pl] at h)
theorem pls_cons {d : D} {ds : List D} (h : pls (d :: ds) = true) : pl d = true ∧ pls ds = true := by rw [pls, Bool.and_eq_true] at h; exact h
theorem pls_mem {ds : List D} (h : pls ds = true) : ∀ d ∈ ds, pl d = true := by
  induction ds with
  | nil => intro d m; cases m
  | cons e ds ih =>
    intro d m
    obtain ⟨a, b⟩ := pls_cons h
    rcases List.mem_cons.mp m with rfl | m
    · exact a
    · exact ih b d m
def isInt : D → Bool
  | .int _ => true
  | _ => false
def wNumber : PW0 := fun xs cs post _ => ∃ d, xs = [.dat d] ∧ cs = [] ∧ pl d = true ∧ post (.dat (.bl (isInt d))) []
theorem ok_is_number (T : Txt K mg) : FnOk P w K mg base CX0 1 T.a_is_number T.d_is_number ["thing"] (spG K wNumber) := by
  refine T.F_is_number.ok sc_is_number (fun vs H Q E h => spG_len h fun xs cs post exc ⟨a, e, _⟩ => by rw [e]; rfl) (fun cdv A outer s H vs Q E hr h => ⟨_, (pss_one (ps_ret (pe_and (pe_callB call_isi (by rfl) T.m_isinstance (by decide +kernel) (pa_cons (pv 0) (pa_cons (pe_bltn (v := .ty "int") (by rfl) T.m_int (by decide +kernel) rfl) pa_nil))) (pe_one (pe_not (pe_callB call_isi (by rfl) T.m_isinstance (by decide +kernel) (pa_cons (pv 0) (pa_cons (pe_bltn (v := .ty "bool") (by rfl) T.m_bool (by decide +kernel) rfl) pa_nil)))))))), enter h fun F xs cs post hE hw => ?_⟩)
  obtain ⟨d, rfl, rfl, hp, q⟩ := hw
  cases d <;> first
    | (exact Bool.noConfusion (show false = true by simpa [pl] using hp))
    | (walk_at "D"; exact fin_dat rfl q)
def wThing (f : D → Bool) : PW0 := fun xs cs post _ => ∃ d, xs = [.dat d] ∧ cs = [] ∧ pl d = true ∧ post (.dat (.bl (f d))) []
/-! ### whole numbers from low to high -/
def inR (lo hi : Int) : D → Bool
  | .int i => decide (lo ≤ i) && decide (i ≤ hi)
  | _ => false
theorem inR_of {lo hi : Int} {d : D} (h : inR lo hi d = true) : ∃ i, d = .int i ∧ lo ≤ i ∧ i ≤ hi := by
  cases d with
  | int i =>
    have h : (decide (lo ≤ i) && decide (i ≤ hi)) = true := h
    rw [Bool.and_eq_true, decide_eq_true_eq, decide_eq_true_eq] at h
    exact ⟨i, rfl, h.1, h.2⟩
  | _ => cases h
theorem inR_int {lo hi i : Int} (h1 : lo ≤ i) (h2 : i ≤ hi) : inR lo hi (.int i) = true := by
  show (decide (lo ≤ i) && decide (i ≤ hi)) = true
  rw [decide_eq_true h1, decide_eq_true h2]; rfl
def wWhole : PW0 := fun xs cs post _ => ∃ (d : D) (lo hi : Int), xs = [.dat d, .dat (.int lo), .dat (.int hi)] ∧ cs = [] ∧ pl d = true ∧ post (.dat (.bl (inR lo hi d))) []
theorem ok_is_whole (T : Txt K mg) : FnOk P w K mg base CX0 2 T.a_is_whole T.d_is_whole ["thing", "low", "high"] (spG K wWhole) := by
  refine T.F_is_whole.ok sc_is_whole (fun vs H Q E h => spG_len h fun xs cs post exc ⟨a, b, c, e, _⟩ => by rw [e]; rfl) (fun cdv A outer s H vs Q E hr h => ⟨_, (pss_one (ps_ret (pe_and (pe_call (ok_is_number T) (hr.mono (by decide)) (by rfl) T.g_is_number T.F_is_number.kp T.b_is_number .nil pass0 (pa_cons (pv 0) pa_nil)) (pe_one (pe_chainI op_le op_le (pv 1) (pv 0) (pv 2) mn_var mn_var mn_var sh_var))))), enter h fun F xs cs post hE hw => ?_⟩)
  obtain ⟨d, lo, hi, rfl, rfl, hp, q⟩ := hw
  walk_at "D"
  walk_at "c"
  refine ⟨d, rfl, rfl, hp, rfl, ?_⟩
  cases d with
  | int i =>
    walk_at "D"
    refine we_chV ?_
    walk_at "D"
    refine ⟨_, _, _, rfl, rfl, rfl, ?_⟩
    exact fin_dat rfl q
  | _ =>
    walk_at "D"
    exact fin_dat rfl q
/-! ### rows of bytes, numbers in them -/
def isRw : D → Bool
  | .lst ds => ds.all (inR 0 255)
  | _ => false
theorem ok_is_bytes (T : Txt K mg) : FnOk P w K mg base CX0 3 T.a_is_bytes T.d_is_bytes ["thing"] (spG K (wThing isRw)) := by
  refine T.F_is_bytes.ok sc_is_bytes (fun vs H Q E h => spG_len h fun xs cs post exc ⟨a, e, _⟩ => by rw [e]; rfl) (fun cdv A outer s H vs Q E hr h => ⟨_, (pss_cons (ps_if (pt_not (pt_val (pe_callB call_isi (by rfl) T.m_isinstance (by decide +kernel) (pa_cons (pv 0) (pa_cons (pe_bltn (v := .ty "list") (by rfl) T.m_list (by decide +kernel) rfl) pa_nil))))) (pss_one (ps_ret pe_bl)) pss_nil)
      (pss_cons (ps_for PassesOwn.never rfl (pi_list (pv 0)) (pg_name (i := 1) sc_is_bytes.nd rfl (Or.inl rfl))
        (pss_one (ps_if (pt_not (pt_val (pe_call (ok_is_whole T) (hr.mono (by decide)) (by rfl) T.g_is_whole T.F_is_whole.kp T.b_is_whole .nil pass0 (pa_cons (pv 1) (pa_cons pe_int (pa_cons pe_int pa_nil)))))) (pss_one (ps_ret pe_bl)) pss_nil)))
      (pss_one (ps_ret pe_bl)))), enter h fun F xs cs post hE hw => ?_⟩)
  obtain ⟨d, rfl, rfl, hp, q⟩ := hw
  cases d with
  | lst ds =>
    have hp : pls ds = true := by rw [pl] at hp; exact hp
    walk_at "D"
    refine loop_by (fun es ρ => ∃ x, ρ = ⟨[some (.dat (.lst ds)), x], []⟩ ∧ pls es = true ∧ post (.dat (.bl (es.all (inR 0 255)))) []) ⟨none, rfl, hp, q⟩ ?_ ?_
    · rintro ρ ⟨x, rfl, _, q⟩
      refine ⟨.dat _, ?_⟩
      walk_at "D"
      exact fin_dat rfl q
    · rintro e es ρ ⟨x, rfl, hp, q⟩
      obtain ⟨pe, hp⟩ := pls_cons hp
      refine ⟨.dat _, ?_⟩
      walk_at "D"
      walk_at "c"
      refine ⟨e, 0, 255, rfl, rfl, pe, rfl, ?_⟩
      rw [List.all_cons] at q
      cases he : inR 0 255 e with
      | false =>
        rw [he] at q
        walk_at "D"
        exact fin_dat rfl q
      | true =>
        rw [he, Bool.true_and] at q
        walk_at "D"
        exact now ⟨_, rfl, hp, q⟩
  | obj => rw [pl] at hp; cases hp
  | scr => rw [pl] at hp; cases hp
  | ty => rw [pl] at hp; cases hp
  | cls => rw [pl] at hp; cases hp
  | _ => walk_at "D"; exact fin_dat rfl q
def wRefBytes (C : Addr) : PW0 := fun xs cs post exc => ∃ d, xs = [.dat d] ∧ cs = [] ∧ pl d = true ∧ (isRw d = true → post (.dat .non) []) ∧ (isRw d = false → exc C)
theorem ok_refuse_no_bytes (T : Txt K mg) : FnOk P w K mg base (L2.CX P w) 4 T.a_refuse_no_bytes T.d_refuse_no_bytes ["row"] (spG K (wRefBytes T.c_NoBytes)) := by
  refine T.F_refuse_no_bytes.okX sc_refuse_no_bytes (fun vs H Q E h => spG_len h fun xs cs post exc ⟨a, e, _⟩ => by rw [e]; rfl) (fun cdv A outer s H vs Q E hr h => ⟨_, (pss_one (ps_if (pt_not (pt_val (pe_call (ok_is_bytes T) (hr.mono (by decide)) (by rfl) T.g_is_bytes T.F_is_bytes.kp T.b_is_bytes .nil pass0 (pa_cons (pv 0) pa_nil)))) (pss_one (ps_raise rfl (takes_of rfl rfl rfl rfl) (pmk_own PySem.F.excBase_ValueError T.x_NoBytes T.g_NoBytes T.k_NoBytes (raises_own T.bb_NoBytes T.t_NoBytes) rfl))) pss_nil)), enter h fun F xs cs post hE hw => ?_⟩)
  subst hE
  obtain ⟨d, rfl, rfl, hp, q, qx⟩ := hw
  walk_at "D"
  walk_at "c"
  refine ⟨d, rfl, rfl, hp, rfl, ?_⟩
  cases hd : isRw d with
  | false =>
    walk_at "D"
    exact ws_exc fun as σ H G D en => F.hE _ H (qx hd) en.fh
  | true =>
    walk_at "D"
    exact ⟨rfl, q hd⟩
def lnR : D → Int
  | .lst ds => (ds.length : Int)
  | _ => 0
def wRefPlace (C1 C2 : Addr) : PW0 := fun xs cs post exc => ∃ d e, xs = [.dat d, .dat e] ∧ cs = [] ∧ pl d = true ∧ pl e = true ∧ (isRw d = false → exc C1) ∧ (isRw d = true → inR 0 (lnR d) e = false → exc C2) ∧ (isRw d = true → inR 0 (lnR d) e = true → post (.dat .non) [])
/-! a number's figures -/
def tlN (n : Nat) : List Int := if h : n = 0 then [] else ((128 + n % 128 : Nat) : Int) :: tlN (n / 128)
termination_by n
decreasing_by omega
theorem tlN_0 : tlN 0 = [] := by rw [tlN]; rfl
theorem tlN_s {n : Nat} (h : n ≠ 0) : tlN n = ((128 + n % 128 : Nat) : Int) :: tlN (n / 128) := by rw [tlN, dif_neg h]
def figN (n : Nat) : List Int := (tlN (n / 128)).reverse ++ [((n % 128 : Nat) : Int)]
theorem tlN_len (b n : Nat) (h : n < 128 ^ b) : (tlN n).length ≤ b := by
  induction b generalizing n with
  | zero =>
    have : n = 0 := by simpa using h
    subst this
    rw [tlN_0]; exact Nat.le_refl _
  | succ b ih =>
    by_cases z : n = 0
    · subst z; rw [tlN_0]; exact Nat.zero_le _
    · rw [tlN_s z]
      have := ih (n / 128) (by rw [Nat.pow_succ] at h; omega)
      rw [List.length_cons]; omega
def wWritten (C : Addr) : PW0 := fun xs cs post exc => ∃ d, xs = [.dat d] ∧ cs = [] ∧ pl d = true ∧ (∀ n : Nat, d = .int n → (n : Int) ≤ 10 ^ 60 → post (.new ((figN n).map D.int)) []) ∧ (inR 0 (10 ^ 60) d = false → exc C)
/-! ### numbers read out of a row -/
def goN : List Int → Int → Int → Option (Int × Int)
  | [], _, _ => none
  | f :: fs, a, p => if a * 128 + f % 128 > 1000000000000000000000000000000000000000000000000000000000000 then none else if f < 128 then some (a * 128 + f % 128, p + 1) else goN fs (a * 128 + f % 128) (p + 1)
def numA : List Int → Int → Option (Int × Int)
  | [], _ => none
  | f :: r, p => if f = 128 then none else goN (f :: r) 0 p
def resD : Option (Int × Int) → D
  | none => .non
  | some (a, p) => .tup [.int a, .int p]
def Byts (ns : List Int) : Prop := ∀ b ∈ ns, 0 ≤ b ∧ b ≤ 255
theorem rw_of {d : D} (h : isRw d = true) : ∃ ns : List Int, d = .lst (ns.map D.int) ∧ Byts ns := by
  cases d with
  | lst ds =>
    have h : ds.all (inR 0 255) = true := h
    have main : ∀ ds : List D, ds.all (inR 0 255) = true → ∃ ns : List Int, ds = ns.map D.int ∧ Byts ns := by
      intro ds
      induction ds with
      | nil => intro _; exact ⟨[], rfl, fun _ m => nomatch m⟩
      | cons d ds ih =>
        intro h
        rw [List.all_cons, Bool.and_eq_true] at h
        obtain ⟨i, rfl, i0, i1⟩ := inR_of h.1
        obtain ⟨ns, rfl, hb⟩ := ih h.2
        refine ⟨i :: ns, rfl, fun b m => ?_⟩
        rcases List.mem_cons.mp m with rfl | m
        · exact ⟨i0, i1⟩
        · exact hb b m
    obtain ⟨ns, rfl, hb⟩ := main ds h
    exact ⟨ns, rfl, hb⟩
  | _ => cases h
theorem rw_is {ns : List Int} (h : Byts ns) : isRw (.lst (ns.map D.int)) = true := by
  show (ns.map D.int).all (inR 0 255) = true
  rw [List.all_eq_true]
  intro d m
  obtain ⟨b, hb, rfl⟩ := List.mem_map.mp m
  exact inR_int (h b hb).1 (h b hb).2
theorem pls_int (ns : List Int) : pls (ns.map D.int) = true := by
  induction ns with
  | nil => rfl
  | cons x ns ih => exact ih
theorem hards_int (ns : List Int) : hards (ns.map D.int) = true := by
  induction ns with
  | nil => rfl
  | cons x ns ih => exact ih
theorem drop_at {ns : List Int} {j : Nat} (h : j < ns.length) : ns.drop j = ns[j] :: ns.drop (j + 1) := List.drop_eq_getElem_cons h
theorem at_int {ns : List Int} {j : Nat} {i : Int} (h : j < ns.length) (e : i = (j : Int)) : atI (ns.map D.int) i = some (D.int ns[j]) := by
  subst e
  exact atI_nat (by rw [List.getElem?_map, List.getElem?_eq_getElem h]; rfl)
def wNumAt : PW0 := fun xs cs post _ => ∃ (ns : List Int) (j : Nat), xs = [.dat (.lst (ns.map D.int)), .dat (.int j)] ∧ cs = [] ∧ Byts ns ∧ j ≤ ns.length ∧ ns.length ≤ 100000 ∧ post (.dat (resD (numA (ns.drop j) j))) []
theorem ok_number_at (T : Txt K mg) : FnOk P w K mg base CX0 1 T.a_number_at T.d_number_at ["row", "at"] (spG K wNumAt) := by
  refine T.F_number_at.ok sc_number_at (fun vs H Q E h => spG_len h fun xs cs post exc ⟨a, b, e, _⟩ => by rw [e]; rfl) (fun cdv A outer s H vs Q E hr h => ⟨_, (pss_cons (ps_set (i := 2) sc_number_at.nd rfl (Or.inl rfl) pe_int)
      (pss_cons (ps_for PassesOwn.never rfl (pi_range2 (by rfl) T.m_range (pa_cons (pv 1) (pa_cons (pe_callB call_len_seq (by rfl) T.m_len (by decide +kernel) (pa_cons (pv 0) pa_nil)) pa_nil))) (pg_name (i := 3) sc_number_at.nd rfl (Or.inl rfl))
        (pss_cons (ps_set (i := 4) sc_number_at.nd rfl (Or.inl rfl) (pe_ix ix_list (pv 0) (pv 3) (fun _ _ => rfl)))
      (pss_cons (ps_if (PW.pt (pw_and (pt_cmpR op_eq (pv 3) (pv 1) (nomark _)) (pw_and1 (pt_cmpR op_eq (pv 4) (pe_glob (v := .int 128) (by rfl) T.g_BASE ⟨_, rfl⟩) (nomark _))))) (pss_one (ps_ret pe_non)) pss_nil)
      (pss_cons (ps_set (i := 2) sc_number_at.nd rfl (Or.inl rfl) (pe_op op_add (pe_op op_mul (pv 2) (pe_glob (v := .int 128) (by rfl) T.g_BASE ⟨_, rfl⟩)) (pe_op op_mod (pv 4) (pe_glob (v := .int 128) (by rfl) T.g_BASE ⟨_, rfl⟩))))
      (pss_cons (ps_if (pt_cmpR op_gt (pv 2) (pe_glob (v := .int 1000000000000000000000000000000000000000000000000000000000000) (by rfl) T.g_GREATEST_NUMBER ⟨_, rfl⟩) (nomark _)) (pss_one (ps_ret pe_non)) pss_nil)
      (pss_one (ps_if (pt_cmpR op_lt (pv 4) (pe_glob (v := .int 128) (by rfl) T.g_BASE ⟨_, rfl⟩) (nomark _)) (pss_one (ps_ret (pe_tup (pa_cons (pv 2) (pa_cons (pe_op op_add (pv 3) pe_int) pa_nil))))) pss_nil)))))))
      (pss_one (ps_ret pe_non)))), enter h fun F xs cs post hE hw => ?_⟩)
  obtain ⟨ns, j, rfl, rfl, hb, hj, hl0, q⟩ := hw
  walk_at "D"
  rw [List.length_map]
  have hn : ((ns.length : Int) - (j : Int)).toNat = ns.length - j := by omega
  rw [hn]
  refine ⟨⟨by omega, by omega, by omega, by omega⟩, ?_⟩
  refine loop_rng (fun i ρ => ∃ (a : Int) (x y : Option AV), ρ = ⟨[some (.dat (.lst (ns.map D.int))), some (.dat (.int j)), some (.dat (.int a)), x, y], []⟩ ∧ (i = 0 → a = 0 ∧ post (.dat (resD (numA (ns.drop j) j))) []) ∧ (0 < i → post (.dat (resD (goN (ns.drop (j + i)) a ((j + i : Nat) : Int)))) [])) ⟨0, _, _, rfl, fun _ => ⟨rfl, q⟩, fun z => absurd z (Nat.lt_irrefl 0)⟩ ?_ ?_
  · rintro ρ ⟨a, x, y, rfl, h0, h1⟩
    refine ⟨trivial, ?_⟩
    walk_at "D"
    by_cases z : ns.length - j = 0
    · obtain ⟨_, q⟩ := h0 z
      rw [List.drop_of_length_le (by omega)] at q
      exact fin_dat rfl q
    · have q := h1 (by omega)
      rw [List.drop_of_length_le (by omega)] at q
      exact fin_dat rfl q
  · rintro i ρ hi ⟨a, x, y, rfl, h0, h1⟩
    refine ⟨trivial, ?_⟩
    have hl : j + i < ns.length := by omega
    walk_at "D"
    refine wr_ixL (.dat _) (at_int hl (by omega)) ?_
    refine wg_name ?_
    refine ws_seq ?_
    have hd := drop_at (ns := ns) (j := j + i) hl
    generalize hf : ns[j + i] = f at *
    have fb : 0 ≤ f ∧ f ≤ 255 := hb f (by rw [← hf]; exact List.getElem_mem hl)
    refine ws_if ?_
    by_cases z : i = 0 ∧ f = 128
    · obtain ⟨rfl, rfl⟩ := z
      obtain ⟨rfl, q⟩ := h0 rfl
      have hd : ns.drop j = 128 :: ns.drop (j + 0 + 1) := hd
      rw [hd, numA, if_pos rfl] at q
      walk_at "D"
      refine ifT (decide_eq_true (show (j : Int) + ((0 : Nat) : Int) = j by omega)) ?_
      walk_at "D"
      exact fin_dat rfl q
    · have q2 : post (.dat (resD (goN (f :: ns.drop (j + i + 1)) a ((j : Int) + i)))) [] := by
        by_cases i0 : i = 0
        · subst i0
          obtain ⟨rfl, q⟩ := h0 rfl
          have hd : ns.drop j = f :: ns.drop (j + 0 + 1) := hd
          rw [hd, numA, if_neg fun y => z ⟨rfl, y⟩] at q
          rw [show (j : Int) + ((0 : Nat) : Int) = j by omega]
          exact q
        · have q := h1 (by omega)
          rw [hd, show ((j + i : Nat) : Int) = (j : Int) + i by omega] at q
          exact q
      rw [goN] at q2
      refine WpT.imp (kb := fun b ρ1 => b = false ∧ ρ1 = ⟨[some (.dat (.lst (ns.map D.int))), some (.dat (.int j)), some (.dat (.int a)), some (.dat (.int ((j : Int) + i))), some (.dat (.int f))], []⟩) ?_ ?_
      · walk_at "D"
        by_cases i0 : i = 0
        · refine ifT (decide_eq_true (by omega)) ?_
          walk_at "D"
          exact ⟨decide_eq_false fun y => z ⟨i0, y⟩, rfl⟩
        · refine ifF (decide_eq_false (by omega)) ?_
          exact ⟨rfl, rfl⟩
      · rintro b ρ1 ⟨rfl, rfl⟩
        walk_at "D"
        refine wr_Ii (.inr (by decide)) ?_
        walk_at "D"
        refine wr_Ii (by decide) ?_
        walk_at "D"
        refine ifC (fun c => ?_) (fun c => ?_)
        · rw [if_pos (of_decide_eq_true c)] at q2
          walk_at "D"
          exact fin_dat rfl q2
        · rw [if_neg (of_decide_eq_false c)] at q2
          walk_at "D"
          refine ifC (fun c => ?_) (fun c => ?_)
          · rw [if_pos (of_decide_eq_true c)] at q2
            walk_at "D"
            exact fin_dat rfl q2
          · rw [if_neg (of_decide_eq_false c)] at q2
            walk_at "D"
            refine now ⟨_, _, _, rfl, fun y => absurd y (Nat.succ_ne_zero i), fun _ => ?_⟩
            rw [show ((j + (i + 1) : Nat) : Int) = (j : Int) + i + 1 by omega]
            exact q2
def wRead (C1 C2 C3 : Addr) : PW0 := fun xs cs post exc => ∃ d e, xs = [.dat d, .dat e] ∧ cs = [] ∧ pl d = true ∧ pl e = true ∧ lnR d ≤ 100000 ∧ (isRw d = false → exc C1) ∧ (isRw d = true → inR 0 (lnR d) e = false → exc C2) ∧
  (∀ (ns : List Int) (j : Nat), d = .lst (ns.map D.int) → e = .int j → Byts ns → j ≤ ns.length → (numA (ns.drop j) j = none → exc C3) ∧ (∀ a p, numA (ns.drop j) j = some (a, p) → post (.dat (.tup [.int a, .int p])) []))
/-! its figures tell a number -/
theorem goN_tl (m : Nat) (hm : (m : Int) ≤ 1000000000000000000000000000000000000000000000000000000000000) (r : List Int) (p : Int) : goN ((tlN m).reverse ++ r) 0 p = goN r m (p + (tlN m).length) := by
  induction m using Nat.strongRecOn generalizing r p with
  | _ m ih =>
    by_cases z : m = 0
    · subst z
      rw [tlN_0]
      show goN r 0 p = goN r ((0 : Nat) : Int) (p + ((0 : Nat) : Int))
      rw [show p + ((0 : Nat) : Int) = p by omega]
      rfl
    · rw [tlN_s z, List.reverse_cons, List.append_assoc, ih (m / 128) (by omega) (by omega)]
      show goN (((128 + m % 128 : Nat) : Int) :: r) _ _ = _
      rw [goN]
      have e : ((m / 128 : Nat) : Int) * 128 + ((128 + m % 128 : Nat) : Int) % 128 = (m : Int) := by omega
      rw [e, if_neg (by omega), if_neg (by omega), List.length_cons]
      congr 1
      omega
theorem tl_head (m : Nat) (hm : m ≠ 0) : ∃ x l, (tlN m).reverse = x :: l ∧ 128 < x := by
  induction m using Nat.strongRecOn with
  | _ m ih =>
    rw [tlN_s hm, List.reverse_cons]
    by_cases z : m / 128 = 0
    · rw [z, tlN_0]
      exact ⟨_, [], rfl, by omega⟩
    · obtain ⟨x, l, e, h⟩ := ih (m / 128) (by omega) z
      rw [e]
      exact ⟨x, _, rfl, h⟩
theorem fig_len (n : Nat) : (figN n).length = (tlN (n / 128)).length + 1 := by
  unfold figN
  rw [List.length_append, List.length_reverse]
  rfl
theorem numA_fig (n : Nat) (hn : (n : Int) ≤ 1000000000000000000000000000000000000000000000000000000000000) : numA (figN n) 0 = some ((n : Int), ((figN n).length : Int)) := by
  have main : goN (figN n) 0 0 = some ((n : Int), ((figN n).length : Int)) := by
    rw [fig_len]
    unfold figN
    rw [goN_tl _ (by omega), goN]
    have e : ((n / 128 : Nat) : Int) * 128 + ((n % 128 : Nat) : Int) % 128 = (n : Int) := by omega
    rw [e, if_neg (by omega), if_pos (by omega)]
    congr 2
    omega
  have hd : ∃ x l, figN n = x :: l ∧ x ≠ 128 := by
    unfold figN
    by_cases z : n / 128 = 0
    · rw [z, tlN_0]
      exact ⟨_, [], rfl, by omega⟩
    · obtain ⟨x, l, e, h⟩ := tl_head _ z
      rw [e]
      exact ⟨x, _, rfl, by omega⟩
  obtain ⟨x, l, e, h⟩ := hd
  rw [e] at main ⊢
  rw [numA, if_neg h]
  exact main
theorem fig_byts (n : Nat) : Byts (figN n) := by
  have tl : ∀ m : Nat, Byts (tlN m) := by
    intro m
    induction m using Nat.strongRecOn with
    | _ m ih =>
      by_cases z : m = 0
      · subst z; rw [tlN_0]; exact fun _ q => nomatch q
      · rw [tlN_s z]
        intro b mb
        rcases List.mem_cons.mp mb with rfl | mb
        · omega
        · exact ih (m / 128) (by omega) b mb
  intro b mb
  unfold figN at mb
  rcases List.mem_append.mp mb with mb | mb
  · exact tl _ b (List.mem_reverse.mp mb)
  · rw [List.mem_singleton] at mb
    omega
end

section
variable {P : Program} {w : World} {K : PySem.W.Frag} {mg : Str → Option Value} {base : Heap}
/-! ### the check of a row, the sum of a box -/
theorem wc_divmod {K : PySem.W.Frag} {F : Fx} {ρ : En} {k : AV → En → Prop} {i j : Int} (hc : CDiv i j) (hk : k (.dat (.tup [.int (i / j), .int (i % j)])) ρ) : WpC K F (fun xs H Q => ∃ i j, xs = [.int i, .int j] ∧ CDiv i j ∧ ∀ p, H p = none → Q (.ref p) (upd H p (.tup [.int (i / j), .int (i % j)]))) [.dat (.int i), .dat (.int j)] ρ k := fun as σ H G vs e r Q q => by
  cases r with
  | cons r1 r2 =>
    cases r2 with
    | cons r2 r3 =>
      cases r3
      cases (show Rep K G (.int i) _ from r1)
      cases (show Rep K G (.int j) _ from r2)
      refine ⟨i, j, rfl, hc, fun p hp => ?_⟩
      obtain ⟨e3, g3⟩ := e.newG (o := .tup [.int (i / j), .int (i % j)]) hp
      exact q _ _ _ _ _ _ hk e3 g3 (Rep.tup (SqT.of upd_same) (.cons (.int _) (.cons (.int _) .nil)))
def chkS (l : List Int) (a : Int) : Int := l.foldl (fun a b => (a * 257 + b) % 65521) a
theorem chkS_lt (l : List Int) {a : Int} (h : 0 ≤ a ∧ a < 65521) : 0 ≤ chkS l a ∧ chkS l a < 65521 := by
  induction l generalizing a with
  | nil => exact h
  | cons b l ih => exact ih ⟨Int.emod_nonneg _ (by decide), Int.emod_lt_of_pos _ (by decide)⟩
def wCheck : PW0 := fun xs cs post _ => ∃ ns : List Int, xs = [.dat (.lst (ns.map D.int))] ∧ cs = [] ∧ Byts ns ∧ post (.dat (.int (chkS ns 1))) []
theorem ok_check (T : Txt K mg) : FnOk P w K mg base (L2.CX P w) 5 T.a_check T.d_check ["row"] (spG K wCheck) := by
  refine T.F_check.okX sc_check (fun vs H Q E h => spG_len h fun xs cs post exc ⟨a, e, _⟩ => by rw [e]; rfl) (fun cdv A outer s H vs Q E hr h => ⟨_, (pss_cons (ps_expr (pe_call (ok_refuse_no_bytes T) (hr.mono (by decide)) (by rfl) T.g_refuse_no_bytes T.F_refuse_no_bytes.kp T.b_refuse_no_bytes .nil (passes_call (takes_of rfl rfl rfl rfl) (fun _ _ _ _ h => h)) (pa_cons (pv 0) pa_nil)))
      (pss_cons (ps_set (i := 1) sc_check.nd rfl (Or.inl rfl) pe_int)
      (pss_cons (ps_for (passes_of rfl) rfl (pi_list (pv 0)) (pg_name (i := 2) sc_check.nd rfl (Or.inl rfl))
        (pss_one (ps_set (i := 1) sc_check.nd rfl (Or.inl rfl) (pe_op op_mod (pe_op op_add (pe_op op_mul (pv 1) pe_int) (pv 2)) pe_int))))
      (pss_one (ps_ret (pv 1)))))), enter h fun F xs cs post hE hw => ?_⟩)
  subst hE
  obtain ⟨ns, rfl, rfl, hb, q⟩ := hw
  walk_at "D"
  walk_at "cx"
  refine ⟨_, rfl, rfl, by rw [pl]; exact pls_int _, fun _ => ⟨rfl, ?_⟩, fun z => by rw [rw_is hb] at z; cases z⟩
  walk_at "D"
  refine loop_by (fun es ρ => ∃ (rest : List Int) (a : Int) (x : Option AV), es = rest.map D.int ∧ ρ = ⟨[some (.dat (.lst (ns.map D.int))), some (.dat (.int a)), x], []⟩ ∧ chkS rest a = chkS ns 1 ∧ 0 ≤ a ∧ a < 65521 ∧ Byts rest) ⟨ns, 1, none, rfl, rfl, rfl, by decide, by decide, hb⟩ ?_ ?_
  · rintro ρ ⟨rest, a, x, e1, rfl, e2, _, _, _⟩
    have e3 : rest = [] := by cases rest with | nil => rfl | cons => cases e1
    subst e3
    have e2 : a = chkS ns 1 := e2
    subst e2
    refine ⟨.dat _, ?_⟩
    walk_at "D"
    exact fin_dat rfl q
  · rintro d es ρ ⟨rest, a, x, e1, rfl, e2, a0, a1, br⟩
    cases rest with
    | nil => cases e1
    | cons b rest =>
      obtain ⟨rfl, rfl⟩ := List.cons.inj e1
      have hb := br b List.mem_cons_self
      refine ⟨.dat _, ?_⟩
      walk_at "D"
      refine wr_Ii (.inl ⟨by omega, by omega⟩) ?_
      walk_at "D"
      refine wr_Ii (by decide) ?_
      walk_at "D"
      exact now ⟨rest, _, _, rfl, rfl, e2, Int.emod_nonneg _ (by decide), Int.emod_lt_of_pos _ (by decide), fun y m => br y (List.mem_cons_of_mem _ m)⟩
def sumS (k : Int) (body : List Int) : List Int := [chkS (k :: body) 1 / 256, chkS (k :: body) 1 % 256]
def wSumOf : PW0 := fun xs cs post _ => ∃ (kd : Int) (ns : List Int), xs = [.dat (.int kd), .dat (.lst (ns.map D.int))] ∧ cs = [] ∧ Byts (kd :: ns) ∧ ns.length ≤ 1000000 ∧ post (.new ((sumS kd ns).map D.int)) []
theorem ok_sum_of (T : Txt K mg) : FnOk P w K mg base (L2.CX P w) 6 T.a_sum_of T.d_sum_of ["kind", "body"] (spG K wSumOf) := by
  refine T.F_sum_of.okX sc_sum_of (fun vs H Q E h => spG_len h fun xs cs post exc ⟨a, b, e, _⟩ => by rw [e]; rfl) (fun cdv A outer s H vs Q E hr h => ⟨_, (pss_one (ps_ret (pe_callTy call_list_of (by rfl) T.m_list (by decide +kernel) (pa_cons (pe_callB call_divmod (by rfl) T.m_divmod (by decide +kernel) (pa_cons (pe_call (ok_check T) (hr.mono (by decide)) (by rfl) T.g_check T.F_check.kp T.b_check .nil (passes_call (takes_of rfl rfl rfl rfl) (fun _ _ _ _ h => h)) (pa_cons (pe_op op_catF (pe_lst (pa_cons (pv 0) pa_nil)) (pv 1)) pa_nil)) (pa_cons pe_int pa_nil))) pa_nil)))), enter h fun F xs cs post hE hw => ?_⟩)
  subst hE
  obtain ⟨kd, ns, rfl, rfl, hb, hl, q⟩ := hw
  walk_at "D"
  refine wr_cat (ds := [.int kd]) (es := ns.map D.int) (.cel rfl) (.dat _) (by rw [List.length_map]; simp only [List.length]; omega) ?_
  walk_at "D"
  walk_at "cx"
  refine ⟨kd :: ns, rfl, rfl, hb, aft_hard rfl ?_⟩
  walk_at "D"
  refine wc_divmod ⟨by decide, by decide⟩ ?_
  walk_at "D"
  exact ⟨_, .cel (Nat.zero_le _) rfl, rfl, q⟩
/-! ### a box that comes byte by byte -/
structure GSt where
  at_ : Int
  kind : Option Int
  content : List Int
  noughts : Int
  first : Option Int
  behind : Option Int
  closed : Bool
def GSt.init (a : Int) : GSt := ⟨a, none, [], 0, none, none, false⟩
def oD : Option Int → D
  | none => .non
  | some i => .int i
def gN : List Str := ["at", "kind", "content", "noughts", "first", "behind", "closed"]
def growF (c : Addr) (st : GSt) : List D := [.int st.at_, oD st.kind, .cls c, .int st.noughts, oD st.first, oD st.behind, .bl st.closed]
def growC (CG g c : Addr) (st : GSt) : List Cell := [.oth (insX g CG gN (growF c st)), .oth (lstX c (st.content.map D.int))]
theorem oD_atom (x : Option Int) : atom (oD x) = true := by cases x <;> rfl
def wGrowInit (CG : Addr) : PW0 := fun xs cs post _ => ∃ a : Int, xs = [.cel 0, .dat (.int a)] ∧ cs = [.ins CG [] []] ∧ ∀ c, post (.ext .non (lstX c [])) [.ins CG gN (growF c (GSt.init a))]
theorem ok_Growing_init (T : Txt K mg) : FnOk P w K mg base CX0 1 T.a_Growing_init T.d_Growing_init ["self", "at"] (spG K (wGrowInit T.c_Growing)) := by
  refine T.F_Growing_init.ok sc_Growing_init (fun vs H Q E h => spG_len h fun xs cs post exc ⟨a, e, _⟩ => by rw [e]; rfl) (fun cdv A outer s H vs Q E hr h => ⟨_, (pss_cons (ps_fld (pv 0) (pv 1) rfl)
      (pss_cons (ps_fld (pv 0) pe_non rfl)
      (pss_cons (ps_fld (pv 0) (pe_lst pa_nil) rfl)
      (pss_cons (ps_fld (pv 0) pe_int rfl)
      (pss_cons (ps_fld (pv 0) pe_non rfl)
      (pss_cons (ps_fld (pv 0) pe_non rfl)
      (pss_one (ps_fld (pv 0) pe_bl rfl)))))))), enterN h fun F xs cs post hE hw => ?_⟩)
  obtain ⟨a, rfl, rfl, q⟩ := hw
  walk_at "D"
  refine ws_fset ?_
  walk_at "D"
  refine ⟨0, _, [], [], _, _, rfl, by walk_at "fz", rfl, T.cl_Growing, T.na_Growing_at, rfl, ?_⟩
  walk_at "D"
  refine ws_fset ?_
  walk_at "D"
  refine ⟨0, _, _, _, _, _, rfl, by walk_at "fz", rfl, T.cl_Growing, T.na_Growing_kind, rfl, ?_⟩
  walk_at "D"
  refine ws_fset ?_
  refine we_ptr ?_
  walk_at "D"
  refine ⟨1, _, rfl, rfl, rfl, fun c X hX => ?_⟩
  cases hX
  walk_at "D"
  refine ⟨0, _, _, _, _, _, rfl, by walk_at "fz", rfl, T.cl_Growing, T.na_Growing_content, rfl, ?_⟩
  walk_at "D"
  refine ws_fset ?_
  walk_at "D"
  refine ⟨0, _, _, _, _, _, rfl, by walk_at "fz", rfl, T.cl_Growing, T.na_Growing_noughts, rfl, ?_⟩
  walk_at "D"
  refine ws_fset ?_
  walk_at "D"
  refine ⟨0, _, _, _, _, _, rfl, by walk_at "fz", rfl, T.cl_Growing, T.na_Growing_first, rfl, ?_⟩
  walk_at "D"
  refine ws_fset ?_
  walk_at "D"
  refine ⟨0, _, _, _, _, _, rfl, by walk_at "fz", rfl, T.cl_Growing, T.na_Growing_behind, rfl, ?_⟩
  walk_at "D"
  refine ws_fset ?_
  walk_at "D"
  refine ⟨0, _, _, _, _, _, rfl, by walk_at "fz", rfl, T.cl_Growing, T.na_Growing_closed, rfl, ?_⟩
  walk_at "D"
  exact ⟨_, .ext (j := 1) (Nat.le_of_ble_eq_true rfl) rfl, rfl, q c⟩
def cutI (ns : List Int) (lo hi : Option Int) : List Int := (ns.drop (HT.sIx ns.length 0 lo)).take (HT.sIx ns.length ns.length hi - HT.sIx ns.length 0 lo)
theorem cut_int (ns : List Int) (lo hi : Option Int) : cutD (ns.map D.int) lo hi = (cutI ns lo hi).map D.int := by
  unfold cutD cutI
  rw [List.length_map, List.map_take, List.map_drop]
theorem cutI_mem {ns : List Int} {lo hi : Option Int} {x : Int} (h : x ∈ cutI ns lo hi) : x ∈ ns := List.mem_of_mem_drop (List.mem_of_mem_take h)
theorem cutI_len (ns : List Int) (lo hi : Option Int) : (cutI ns lo hi).length ≤ ns.length := by unfold cutI; rw [List.length_take, List.length_drop]; omega
theorem fines_intsG (n : Nat) (ns : List Int) : fines n (ns.map D.int) = true := by
  induction ns with
  | nil => cases n <;> rfl
  | cons x ns ih => cases n <;> exact ih
theorem noBs_intsG (ns : List Int) : noBs (ns.map D.int) = true := by
  induction ns with
  | nil => rfl
  | cons x ns ih => exact ih
theorem mapI_injG {a b : List Int} (h : a.map D.int = b.map D.int) : a = b := (List.map_inj_right (fun x y e => by injection e)).mp h
theorem eqD_ints (a b : List Int) : eqD (.lst (a.map D.int)) (.lst (b.map D.int)) = decide (a = b) := by
  have h := eqD_iff (.lst (a.map D.int)) (.lst (b.map D.int)) (noBs_intsG a) (noBs_intsG b)
  by_cases q : a = b
  · subst q
    rw [decide_eq_true rfl]
    exact h.mpr rfl
  · rw [decide_eq_false q]
    cases e : eqD (.lst (a.map D.int)) (.lst (b.map D.int)) with
    | false => rfl
    | true => have := h.mp e; injection this with this; exact absurd (mapI_injG this) q
def wBody (CG : Addr) : PW0 := fun xs cs post _ => ∃ (g c : Addr) (st : GSt) (f h : Int), xs = [.dat (.cls g)] ∧ cs = growC CG g c st ∧ st.first = some f ∧ st.behind = some h ∧ post (.new ((cutI st.content (some f) (some h)).map D.int)) (growC CG g c st)
theorem ok_Growing_body (T : Txt K mg) : FnOk P w K mg base CX0 1 T.a_Growing_body T.d_Growing_body ["self"] (spG K (wBody T.c_Growing)) := by
  refine T.F_Growing_body.ok sc_Growing_body (fun vs H Q E h => spG_len h fun xs cs post exc ⟨a, b, c, d, e, f, _⟩ => by rw [f]; rfl) (fun cdv A outer s H vs Q E hr h => ⟨_, (pss_one (ps_ret (pe_slice sl_list (pe_fld (pv 0) rfl) (po_some (pe_fld (pv 0) rfl)) (po_some (pe_fld (pv 0) rfl))))), enter h fun F xs cs post hE hw => ?_⟩)
  obtain ⟨g, c, ⟨a, kd, ct, nt, fi, be, cl⟩, f, h, rfl, rfl, hf, hb, q⟩ := hw
  cases hf
  cases hb
  dsimp only [growC] at q ⊢
  walk_at "D"
  refine we_fld ?_
  walk_at "D"
  refine ⟨_, _, _, _, .tag (j := 0) rfl, T.cl_Growing, T.na_Growing_content, rfl, ?_⟩
  walk_at "D"
  refine we_fld ?_
  walk_at "D"
  refine ⟨_, _, _, _, .tag (j := 0) rfl, T.cl_Growing, T.na_Growing_first, rfl, ?_⟩
  walk_at "D"
  refine we_fld ?_
  walk_at "D"
  refine ⟨_, _, _, _, .tag (j := 0) rfl, T.cl_Growing, T.na_Growing_behind, rfl, ?_⟩
  walk_at "D"
  refine ⟨_, .tag (j := 1) rfl, ?_⟩
  rw [cut_int]
  exact ⟨_, .cel (j := 2) (Nat.le_of_ble_eq_true rfl) rfl, rfl, q⟩
def rightS (kd : Int) (ct : List Int) (f h : Int) : Bool := decide (cutI ct (some h) none = sumS kd (cutI ct (some f) (some h)))
def wIsRight (CG : Addr) : PW0 := fun xs cs post _ => ∃ (g c : Addr) (st : GSt) (kd f h : Int), xs = [.dat (.cls g)] ∧ cs = growC CG g c st ∧ st.kind = some kd ∧ st.first = some f ∧ st.behind = some h ∧ Byts (kd :: st.content) ∧ st.content.length ≤ 1000000 ∧ post (.dat (.bl (rightS kd st.content f h))) (growC CG g c st)
theorem ok_Growing_is_right (T : Txt K mg) : FnOk P w K mg base (L2.CX P w) 7 T.a_Growing_is_right T.d_Growing_is_right ["self"] (spG K (wIsRight T.c_Growing)) := by
  refine T.F_Growing_is_right.okX sc_Growing_is_right (fun vs H Q E h => spG_len h fun xs cs post exc ⟨a, b, c, d, e, f, g, _⟩ => by rw [g]; rfl) (fun cdv A outer s H vs Q E hr h => ⟨_, (pss_one (ps_ret (pe_cmpR (op_eqD hr.units) (pe_slice sl_list (pe_fld (pv 0) rfl) (po_some (pe_fld (pv 0) rfl)) po_none) (pe_call (ok_sum_of T) (hr.mono (by decide)) (by rfl) T.g_sum_of T.F_sum_of.kp T.b_sum_of .nil (passes_call (takes_of rfl rfl rfl rfl) (fun _ _ _ _ h => h)) (pa_cons (pe_fld (pv 0) rfl) (pa_cons (pe_meth0 (pv 0) T.cl_Growing T.mt_Growing_body (ok_Growing_body T) (hr.mono (by decide)) T.b_Growing_body .nil pass0) pa_nil))) (nomark _)))), enter h fun F xs cs post hE hw => ?_⟩)
  subst hE
  obtain ⟨g, c, ⟨a, kdo, ct, nt, fi, be, cl⟩, kd, f, h, rfl, rfl, hk, hf, hb, hby, hl, q⟩ := hw
  cases hf
  cases hb
  cases hk
  dsimp only [growC] at q hby hl ⊢
  walk_at "D"
  refine we_fld ?_
  walk_at "D"
  refine ⟨_, _, _, _, .tag (j := 0) rfl, T.cl_Growing, T.na_Growing_content, rfl, ?_⟩
  walk_at "D"
  refine we_fld ?_
  walk_at "D"
  refine ⟨_, _, _, _, .tag (j := 0) rfl, T.cl_Growing, T.na_Growing_behind, rfl, ?_⟩
  walk_at "D"
  refine ⟨_, .tag (j := 1) rfl, ?_⟩
  rw [cut_int]
  walk_at "D"
  refine we_fld ?_
  walk_at "D"
  refine ⟨_, _, _, _, .tag (j := 0) rfl, T.cl_Growing, T.na_Growing_kind, rfl, ?_⟩
  walk_at "D"
  refine we_meth ?_
  walk_at "D"
  refine ⟨_, _, .tag (j := 0) rfl, rfl, ?_⟩
  walk_at "D"
  refine wspP0 (ds := [.cls g]) (js := [0, 1]) (cs := growC T.c_Growing g c ⟨a, some kd, ct, nt, some f, some h, cl⟩) rfl (by decide) rfl ⟨g, c, _, f, h, rfl, rfl, rfl, rfl, rfl, rfl, ?_⟩
  walk_at "D"
  walk_at "cx"
  refine ⟨kd, cutI ct (some f) (some h), rfl, rfl, ?_, Nat.le_trans (cutI_len ..) hl, aft_hards (hards_int _) ?_⟩
  · intro b m
    rcases List.mem_cons.mp m with rfl | m
    · exact hby b List.mem_cons_self
    · exact hby b (List.mem_cons_of_mem _ (cutI_mem m))
  walk_at "D"
  refine wr_eqD 1 (.cel (j := 2) rfl) (.cel (j := 4) rfl) (by rw [fine]; exact fines_intsG 0 _) (by rw [fine]; exact fines_intsG 0 _) (by decide) ?_
  rw [eqD_ints]
  exact fin_dat rfl q
end

section
variable {P : Program} {w : World} {K : PySem.W.Frag} {mg : Str → Option Value} {base : Heap}
/-! ### a growing box: its length measured, a byte taken -/
def measS (ct : List Int) (b : Int) : Bool × Option (Int × Int) :=
  if 128 ≤ b ∧ (ct ++ [b]).length < 3 then (true, none)
  else match numA (ct ++ [b]) 0 with
    | none => (false, none)
    | some (n, p) => if n > 60000 then (false, none) else (true, some (p, p + n))
/-- the state behind the measuring -/
def GSt.met (st : GSt) : Option (Int × Int) → GSt
  | none => st
  | some (p, h) => { st with first := some p, behind := some h }
theorem at_last (ct : List Int) (b : Int) : atI ((ct ++ [b]).map D.int) (-1) = some (D.int b) := by
  have h : atI ((ct ++ [b]).map D.int) (-1) = (if 1 ≤ ((ct.length : Int) + 1) then some (-1 + ((ct.length : Int) + 1)).toNat else none).bind fun j => (ct.map D.int ++ [D.int b])[j]? := by
    unfold atI ixN
    simp
  rw [h, if_pos (by omega), show (-1 + ((ct.length : Int) + 1)).toNat = (ct.map D.int).length by rw [List.length_map]; omega]
  exact List.getElem?_concat_length
theorem resD_hard (x : Option (Int × Int)) : hard (resD x) = true := by
  cases x with
  | none => rfl
  | some x => rfl
def wMeasure (CG : Addr) : PW0 := fun xs cs post _ => ∃ (g c : Addr) (st : GSt) (ct : List Int) (b : Int), xs = [.dat (.cls g)] ∧ cs = growC CG g c st ∧ st.content = ct ++ [b] ∧ Byts st.content ∧ st.content.length ≤ 100000 ∧ post (.dat (.bl (measS ct b).1)) (growC CG g c (st.met (measS ct b).2))
theorem ok_Growing_measure (T : Txt K mg) : FnOk P w K mg base CX0 2 T.a_Growing_measure T.d_Growing_measure ["self"] (spG K (wMeasure T.c_Growing)) := by
  refine T.F_Growing_measure.ok sc_Growing_measure (fun vs H Q E h => spG_len h fun xs cs post exc ⟨a, b, c, d, e, f, _⟩ => by rw [f]; rfl) (fun cdv A outer s H vs Q E hr h => ⟨_, (pss_cons (ps_if (PW.pt (pw_and (pt_cmpR op_ge (pe_ix ix_list (pe_fld (pv 0) rfl) (pe_un un_neg pe_int) (fun _ _ => rfl)) (pe_glob (v := .int 128) (by rfl) T.g_BASE ⟨_, rfl⟩) (nomark _)) (pw_and1 (pt_cmpR op_lt (pe_callB call_len_seq (by rfl) T.m_len (by decide +kernel) (pa_cons (pe_fld (pv 0) rfl) pa_nil)) (pe_glob (v := .int 3) (by rfl) T.g_LONGEST_LENGTH ⟨_, rfl⟩) (nomark _))))) (pss_one (ps_ret pe_bl)) pss_nil)
      (pss_cons (ps_set (i := 1) sc_Growing_measure.nd rfl (Or.inl rfl) (pe_call (ok_number_at T) (hr.mono (by decide)) (by rfl) T.g_number_at T.F_number_at.kp T.b_number_at .nil pass0 (pa_cons (pe_fld (pv 0) rfl) (pa_cons pe_int pa_nil))))
      (pss_cons (ps_if (PW.pt (pw_or (pt_cmpR op_isN (pv 1) pe_non (nomark _)) (pw_or1 (pt_cmpR op_gt (pe_ix ix_tup (pv 1) pe_int (fun _ _ => rfl)) (pe_glob (v := .int 60000) (by rfl) T.g_LONGEST_BODY ⟨_, rfl⟩) (nomark _))))) (pss_one (ps_ret pe_bl)) pss_nil)
      (pss_cons (ps_fld (pv 0) (pe_ix ix_tup (pv 1) pe_int (fun _ _ => rfl)) rfl)
      (pss_cons (ps_fld (pv 0) (pe_op op_add (pe_fld (pv 0) rfl) (pe_ix ix_tup (pv 1) pe_int (fun _ _ => rfl))) rfl)
      (pss_one (ps_ret pe_bl))))))), enter h fun F xs cs post hE hw => ?_⟩)
  obtain ⟨g, c, ⟨a, kd, ct2, nt, fi, be, cl⟩, ct, b, rfl, rfl, hc, hby, hl, q⟩ := hw
  dsimp only at hc hby hl q ⊢
  subst hc
  have ll : ((ct ++ [b]).map D.int).length = (ct ++ [b]).length := List.length_map ..
  dsimp only [growC] at q ⊢
  refine ws_seq ?_
  refine ws_if ?_
  refine WpT.imp (kb := fun t ρ1 => t = decide (128 ≤ b ∧ (ct ++ [b]).length < 3) ∧ ρ1 = ⟨[some (.dat (.cls g)), none], [.oth (insX g T.c_Growing gN (growF c ⟨a, kd, ct ++ [b], nt, fi, be, cl⟩)), .oth (lstX c ((ct ++ [b]).map D.int))]⟩) ?_ ?_
  · walk_at "D"
    refine we_fld ?_
    walk_at "D"
    refine ⟨_, _, _, _, .tag (j := 0) rfl, T.cl_Growing, T.na_Growing_content, rfl, ?_⟩
    walk_at "D"
    refine wr_ixL (.tag (j := 1) rfl) (at_last ct b) ?_
    walk_at "D"
    refine ifC (fun c1 => ?_) (fun c1 => ?_)
    · have c1 := of_decide_eq_true c1
      walk_at "D"
      refine we_fld ?_
      walk_at "D"
      refine ⟨_, _, _, _, .tag (j := 0) rfl, T.cl_Growing, T.na_Growing_content, rfl, ?_⟩
      walk_at "D"
      refine wc_lenL (.tag (j := 1) rfl) ?_
      rw [ll]
      walk_at "D"
      refine ⟨?_, rfl⟩
      exact decide_eq_decide.mpr ⟨fun h => ⟨c1, by omega⟩, fun h => by omega⟩
    · have c1 := of_decide_eq_false c1
      exact ⟨(decide_eq_false fun h => c1 h.1).symm, rfl⟩
  · rintro t ρ1 ⟨rfl, rfl⟩
    refine ifC (fun c1 => ?_) (fun c1 => ?_)
    · have c1 := of_decide_eq_true c1
      have e1 : measS ct b = (true, none) := if_pos c1
      rw [e1] at q
      walk_at "D"
      exact fin_dat rfl q
    · have c1 := of_decide_eq_false c1
      have e1 : measS ct b = match numA (ct ++ [b]) 0 with | none => (false, none) | some (n, p) => if n > 60000 then (false, none) else (true, some (p, p + n)) := if_neg c1
      rw [e1] at q
      walk_at "D"
      refine we_fld ?_
      walk_at "D"
      refine ⟨_, _, _, _, .tag (j := 0) rfl, T.cl_Growing, T.na_Growing_content, rfl, ?_⟩
      walk_at "D"
      refine wsp_untag (j := 1) (ds := (ct ++ [b]).map D.int) rfl (atoms_int _) (.ptr (.same .nil)) ?_
      walk_at "c"
      refine ⟨ct ++ [b], 0, rfl, rfl, hby, Nat.zero_le _, hl, aft_hard (resD_hard _) ⟨rfl, ?_⟩⟩
      rw [List.drop_zero]
      cases hr : numA (ct ++ [b]) 0 with
      | none =>
        rw [hr] at q
        walk_at "D"
        exact fin_dat rfl q
      | some x =>
        obtain ⟨n, p⟩ := x
        rw [hr] at q
        walk_at "D"
        refine ifC (fun c2 => ?_) (fun c2 => ?_)
        · have c2 := of_decide_eq_true c2
          have e2 : (if n > 60000 then (false, none) else (true, some (p, p + n)) : Bool × Option (Int × Int)) = (false, none) := if_pos (by omega)
          dsimp only at q
          rw [e2] at q
          walk_at "D"
          exact fin_dat rfl q
        · have c2 := of_decide_eq_false c2
          have e2 : (if n > 60000 then (false, none) else (true, some (p, p + n)) : Bool × Option (Int × Int)) = (true, some (p, p + n)) := if_neg (by omega)
          dsimp only at q
          rw [e2] at q
          walk_at "D"
          refine ws_fsetT ?_
          walk_at "D"
          refine ⟨0, g, _, _, _, _, rfl, rfl, rfl, rfl, T.cl_Growing, T.na_Growing_first, rfl, ?_⟩
          walk_at "D"
          refine ws_fsetT ?_
          walk_at "D"
          refine we_fld ?_
          walk_at "D"
          refine ⟨_, _, _, _, .tag (j := 0) rfl, T.cl_Growing, T.na_Growing_first, rfl, ?_⟩
          walk_at "D"
          refine ⟨0, g, _, _, _, _, rfl, rfl, rfl, rfl, T.cl_Growing, T.na_Growing_behind, rfl, ?_⟩
          walk_at "D"
          exact fin_dat rfl q
end

section
variable {P : Program} {w : World} {K : PySem.W.Frag} {mg : Str → Option Value} {base : Heap}
/-! a byte taken -/
def GSt.app (st : GSt) (b : Int) : GSt := { st with content := st.content ++ [b], noughts := if b = 0 then st.noughts + 1 else 0 }
def growS (st : GSt) (b : Int) : Bool × GSt :=
  match st.kind with
  | none => (decide (1 ≤ b) && decide (b ≤ 9), { st with kind := some b })
  | some k =>
    if st.noughts = 2 then (decide (b = 2), { st with noughts := 0 })
    else match st.first, st.behind with
      | some f, some h =>
        if (st.content.length : Int) = h + 2 then
          (decide (b = 255) && rightS k st.content f h, { st with closed := decide (b = 255) && rightS k st.content f h })
        else (true, st.app b)
      | _, _ => ((measS st.content b).1, (st.app b).met (measS st.content b).2)
structure GOk (st : GSt) : Prop where
  by_ : Byts st.content
  ln : st.content.length ≤ 99999
  kd : ∀ k, st.kind = some k → 0 ≤ k ∧ k ≤ 255
  fi : (st.first = none ∧ st.behind = none) ∨ ∃ f h, st.first = some f ∧ st.behind = some h
def wGrow (CG : Addr) : PW0 := fun xs cs post _ => ∃ (g c : Addr) (st : GSt) (b : Int), xs = [.dat (.cls g), .dat (.int b)] ∧ cs = growC CG g c st ∧ GOk st ∧ 0 ≤ b ∧ b ≤ 255 ∧ post (.dat (.bl (growS st b).1)) (growC CG g c (growS st b).2)
/-- steps up to an expression that is a statement -/
local macro_rules | `(tactic| walk_at "K") => `(tactic| repeat ((fail_if_success (with_reducible refine ws_drop ?_)); first
  | walk_at "d"
  | refine ifT rfl ?_
  | refine ifF rfl ?_))
theorem ok_Growing_grow (T : Txt K mg) : FnOk P w K mg base (L2.CX P w) 8 T.a_Growing_grow T.d_Growing_grow ["self", "byte"] (spG K (wGrow T.c_Growing)) := by
  refine T.F_Growing_grow.okX sc_Growing_grow (fun vs H Q E h => spG_len h fun xs cs post exc ⟨a, b, c, d, e, _⟩ => by rw [e]; rfl) (fun cdv A outer s H vs Q E hr h => ⟨_, (pss_cons (ps_if (pt_cmpR op_isN (pe_fld (pv 0) rfl) pe_non (nomark _)) (pss_cons (ps_fld (pv 0) (pv 1) rfl)
      (pss_one (ps_ret (pe_chain op_le op_le (pe_glob (v := .int 1) (by rfl) T.g_LEAST_KIND ⟨_, rfl⟩) (pv 1) (pe_glob (v := .int 9) (by rfl) T.g_GREATEST_KIND ⟨_, rfl⟩))))) pss_nil)
      (pss_cons (ps_if (pt_cmpR op_eq (pe_fld (pv 0) rfl) pe_int (nomark _)) (pss_cons (ps_fld (pv 0) pe_int rfl)
      (pss_one (ps_ret (pe_cmpR op_eq (pv 1) (pe_glob (v := .int 2) (by rfl) T.g_STUFFING ⟨_, rfl⟩) (nomark _))))) pss_nil)
      (pss_cons (ps_if (PW.pt (pw_and (pt_cmpR op_notN (pe_fld (pv 0) rfl) pe_non (nomark _)) (pw_and1 (pt_cmpR op_eq (pe_callB call_len_seq (by rfl) T.m_len (by decide +kernel) (pa_cons (pe_fld (pv 0) rfl) pa_nil)) (pe_op op_add (pe_fld (pv 0) rfl) pe_int) (nomark _))))) (pss_cons (ps_fld (pv 0) (pe_and (pe_cmpR op_eq (pv 1) (pe_glob (v := .int 255) (by rfl) T.g_END ⟨_, rfl⟩) (nomark _)) (pe_one (pe_meth0 (pv 0) T.cl_Growing T.mt_Growing_is_right (ok_Growing_is_right T) (hr.mono (by decide)) T.b_Growing_is_right .nil (passes_call (takes_of rfl rfl rfl rfl) (fun _ _ _ _ h => h))))) rfl)
      (pss_one (ps_ret (pe_fld (pv 0) rfl)))) pss_nil)
      (pss_cons (ps_expr (pe_bm PySem.F.plainAttrs_list PySem.F.slot_list_append PySem.F.type_list_append mt_append (pe_fld (pv 0) rfl) (pa_cons (pv 1) pa_nil)))
      (pss_cons (ps_fld (pv 0) (pe_ifExp (pt_cmpR op_eq (pv 1) pe_int (nomark _)) (pe_op op_add (pe_fld (pv 0) rfl) pe_int) pe_int) rfl)
      (pss_one (ps_ret (pe_or (pe_cmpR op_notN (pe_fld (pv 0) rfl) pe_non (nomark _)) (pe_one (pe_meth0 (pv 0) T.cl_Growing T.mt_Growing_measure (ok_Growing_measure T) (hr.mono (by decide)) T.b_Growing_measure .nil pass0)))))))))), enter h fun F xs cs post hE hw => ?_⟩)
  subst hE
  obtain ⟨g, c, ⟨a, kd, ct, nt, fi, be, cl⟩, b, rfl, rfl, ⟨hby, hl, hk, hf⟩, b0, b1, q⟩ := hw
  dsimp only at hby hl hk hf
  dsimp only [growC] at q ⊢
  have ll : (ct.map D.int).length = ct.length := List.length_map ..
  refine ws_seq ?_
  refine ws_if ?_
  walk_at "D"
  refine we_fld ?_
  walk_at "D"
  refine ⟨_, _, _, _, .tag (j := 0) rfl, T.cl_Growing, T.na_Growing_kind, rfl, ?_⟩
  cases kd with
  | none =>
    walk_at "D"
    refine ws_fsetT ?_
    walk_at "D"
    refine ⟨0, g, _, _, _, _, rfl, rfl, rfl, rfl, T.cl_Growing, T.na_Growing_kind, rfl, ?_⟩
    walk_at "D"
    refine we_chain ?_
    walk_at "D"
    refine ifC (fun c1 => ?_) (fun c1 => ?_)
    · walk_at "D"
      have e : (growS ⟨a, none, ct, nt, fi, be, cl⟩ b) = (decide (b ≤ 9), ⟨a, some b, ct, nt, fi, be, cl⟩) := by
        show (decide (1 ≤ b) && decide (b ≤ 9), _) = _
        rw [c1, Bool.true_and]
      rw [e] at q
      exact fin_dat rfl q
    · have e : (growS ⟨a, none, ct, nt, fi, be, cl⟩ b) = (false, ⟨a, some b, ct, nt, fi, be, cl⟩) := by
        show (decide (1 ≤ b) && decide (b ≤ 9), _) = _
        rw [c1, Bool.false_and]
      rw [e] at q
      exact fin_dat rfl q
  | some k =>
    walk_at "D"
    refine we_fld ?_
    walk_at "D"
    refine ⟨_, _, _, _, .tag (j := 0) rfl, T.cl_Growing, T.na_Growing_noughts, rfl, ?_⟩
    walk_at "D"
    refine ifC (fun c1 => ?_) (fun c1 => ?_)
    · have c1 : nt = 2 := of_decide_eq_true c1
      have e : growS ⟨a, some k, ct, nt, fi, be, cl⟩ b = (decide (b = 2), ⟨a, some k, ct, 0, fi, be, cl⟩) := if_pos c1
      rw [e] at q
      walk_at "D"
      refine ws_fsetT ?_
      walk_at "D"
      refine ⟨0, g, _, _, _, _, rfl, rfl, rfl, rfl, T.cl_Growing, T.na_Growing_noughts, rfl, ?_⟩
      walk_at "D"
      exact fin_dat rfl q
    · have c3 : ¬ nt = 2 := of_decide_eq_false c1
      clear c1
      walk_at "D"
      refine we_fld ?_
      walk_at "D"
      refine ⟨_, _, _, _, .tag (j := 0) rfl, T.cl_Growing, T.na_Growing_behind, rfl, ?_⟩
      rcases hf with ⟨rfl, rfl⟩ | ⟨f, h, rfl, rfl⟩
      · have e : growS ⟨a, some k, ct, nt, none, none, cl⟩ b = ((measS ct b).1, (GSt.app ⟨a, some k, ct, nt, none, none, cl⟩ b).met (measS ct b).2) := if_neg c3
        rw [e] at q
        walk_at "K"
        refine ws_drop ?_
        refine we_bmT ?_
        walk_at "D"
        refine we_fld ?_
        walk_at "D"
        refine ⟨_, _, _, _, .tag (j := 0) rfl, T.cl_Growing, T.na_Growing_content, rfl, ?_⟩
        refine ⟨⟨1, c, _, rfl, rfl⟩, ?_⟩
        walk_at "D"
        refine wm_appendT (j := 1) rfl rfl (by rw [ll]; omega) ?_
        walk_at "D"
        refine ws_fsetT ?_
        refine WpE.imp (k := fun y ρ1 => y = .dat (.int (if b = 0 then nt + 1 else 0)) ∧ ρ1 = ⟨[some (.dat (.cls g)), some (.dat (.int b))], [.oth (insX g T.c_Growing gN (growF c ⟨a, some k, ct, nt, none, none, cl⟩)), .oth (lstX c (ct.map D.int ++ [.int b]))]⟩) ?_ ?_
        · walk_at "D"
          refine ifC (fun c2 => ?_) (fun c2 => ?_)
          · rw [if_pos (of_decide_eq_true c2)]
            walk_at "D"
            refine we_fld ?_
            walk_at "D"
            refine ⟨_, _, _, _, .tag (j := 0) rfl, T.cl_Growing, T.na_Growing_noughts, rfl, ?_⟩
            walk_at "D"
            exact ⟨rfl, rfl⟩
          · rw [if_neg (of_decide_eq_false c2)]
            walk_at "D"
            exact ⟨rfl, rfl⟩
        rintro y ρ1 ⟨rfl, rfl⟩
        walk_at "D"
        refine ⟨0, g, _, _, _, _, rfl, rfl, rfl, rfl, T.cl_Growing, T.na_Growing_noughts, rfl, ?_⟩
        walk_at "D"
        refine we_fld ?_
        walk_at "D"
        refine ⟨_, _, _, _, .tag (j := 0) rfl, T.cl_Growing, T.na_Growing_behind, rfl, ?_⟩
        walk_at "D"
        refine we_meth ?_
        walk_at "D"
        refine ⟨_, _, .tag (j := 0) rfl, rfl, ?_⟩
        walk_at "D"
        have e2 : ct.map D.int ++ [.int b] = (ct ++ [b]).map D.int := by rw [List.map_append]; rfl
        rw [e2]
        refine wspP0 (ds := [.cls g]) (js := [0, 1]) (cs := growC T.c_Growing g c (GSt.app ⟨a, some k, ct, nt, none, none, cl⟩ b)) rfl (by decide) rfl ⟨g, c, _, ct, b, rfl, rfl, rfl, ?_, ?_, ?_⟩
        · intro y m
          rcases List.mem_append.mp m with m | m
          · exact hby y m
          · rw [List.mem_singleton.mp m]; exact ⟨b0, b1⟩
        · show (ct ++ [b]).length ≤ _
          rw [List.length_append]
          show ct.length + 1 ≤ _
          omega
        · exact ⟨rfl, rfl, fin_dat rfl q⟩
      · walk_at "D"
        refine we_fld ?_
        walk_at "D"
        refine ⟨_, _, _, _, .tag (j := 0) rfl, T.cl_Growing, T.na_Growing_content, rfl, ?_⟩
        walk_at "D"
        refine wc_lenL (.tag (j := 1) rfl) ?_
        rw [ll]
        walk_at "D"
        refine we_fld ?_
        walk_at "D"
        refine ⟨_, _, _, _, .tag (j := 0) rfl, T.cl_Growing, T.na_Growing_behind, rfl, ?_⟩
        walk_at "D"
        refine wr_I0i (i := h) ?_
        walk_at "D"
        refine ifC (fun c4 => ?_) (fun c4 => ?_)
        · have c4 : (ct.length : Int) = h + 2 := of_decide_eq_true c4
          have e : growS ⟨a, some k, ct, nt, some f, some h, cl⟩ b = (decide (b = 255) && rightS k ct f h, ⟨a, some k, ct, nt, some f, some h, decide (b = 255) && rightS k ct f h⟩) := (if_neg c3).trans (if_pos c4)
          rw [e] at q
          walk_at "K"
          refine ws_fsetT ?_
          refine WpE.imp (k := fun y ρ1 => y = .dat (.bl (decide (b = 255) && rightS k ct f h)) ∧ ρ1 = ⟨[some (.dat (.cls g)), some (.dat (.int b))], growC T.c_Growing g c ⟨a, some k, ct, nt, some f, some h, cl⟩⟩) ?_ ?_
          · walk_at "D"
            refine ifC (fun c5 => ?_) (fun c5 => ?_)
            · have c5 : b = 255 := of_decide_eq_true c5
              rw [decide_eq_true c5, Bool.true_and]
              walk_at "D"
              refine we_meth ?_
              walk_at "D"
              refine ⟨_, _, .tag (j := 0) rfl, rfl, ?_⟩
              walk_at "D"
              refine wspP0 (ds := [.cls g]) (js := [0, 1]) (cs := growC T.c_Growing g c ⟨a, some k, ct, nt, some f, some h, cl⟩) rfl (by decide) rfl ⟨g, c, _, k, f, h, rfl, rfl, rfl, rfl, rfl, ?_, ?_, rfl, rfl, rfl, rfl⟩
              · intro y m
                rcases List.mem_cons.mp m with rfl | m
                · exact hk y rfl
                · exact hby y m
              · show ct.length ≤ _
                omega
            · have c5 : ¬ b = 255 := of_decide_eq_false c5
              rw [decide_eq_false c5, Bool.false_and]
              exact ⟨rfl, rfl⟩
          rintro y ρ1 ⟨rfl, rfl⟩
          walk_at "D"
          refine ⟨0, g, _, _, _, _, rfl, rfl, rfl, rfl, T.cl_Growing, T.na_Growing_closed, rfl, ?_⟩
          walk_at "D"
          refine we_fld ?_
          walk_at "D"
          refine ⟨_, _, _, _, .tag (j := 0) rfl, T.cl_Growing, T.na_Growing_closed, rfl, ?_⟩
          walk_at "D"
          exact fin_dat rfl q
        · have c4 : ¬ (ct.length : Int) = h + 2 := of_decide_eq_false c4
          have e : growS ⟨a, some k, ct, nt, some f, some h, cl⟩ b = (true, GSt.app ⟨a, some k, ct, nt, some f, some h, cl⟩ b) := (if_neg c3).trans (if_neg c4)
          rw [e] at q
          walk_at "K"
          refine ws_drop ?_
          refine we_bmT ?_
          walk_at "D"
          refine we_fld ?_
          walk_at "D"
          refine ⟨_, _, _, _, .tag (j := 0) rfl, T.cl_Growing, T.na_Growing_content, rfl, ?_⟩
          refine ⟨⟨1, c, _, rfl, rfl⟩, ?_⟩
          walk_at "D"
          refine wm_appendT (j := 1) rfl rfl (by rw [ll]; omega) ?_
          walk_at "D"
          refine ws_fsetT ?_
          refine WpE.imp (k := fun y ρ1 => y = .dat (.int (if b = 0 then nt + 1 else 0)) ∧ ρ1 = ⟨[some (.dat (.cls g)), some (.dat (.int b))], [.oth (insX g T.c_Growing gN (growF c ⟨a, some k, ct, nt, some f, some h, cl⟩)), .oth (lstX c (ct.map D.int ++ [.int b]))]⟩) ?_ ?_
          · walk_at "D"
            refine ifC (fun c2 => ?_) (fun c2 => ?_)
            · rw [if_pos (of_decide_eq_true c2)]
              walk_at "D"
              refine we_fld ?_
              walk_at "D"
              refine ⟨_, _, _, _, .tag (j := 0) rfl, T.cl_Growing, T.na_Growing_noughts, rfl, ?_⟩
              walk_at "D"
              exact ⟨rfl, rfl⟩
            · rw [if_neg (of_decide_eq_false c2)]
              walk_at "D"
              exact ⟨rfl, rfl⟩
          rintro y ρ1 ⟨rfl, rfl⟩
          walk_at "D"
          refine ⟨0, g, _, _, _, _, rfl, rfl, rfl, rfl, T.cl_Growing, T.na_Growing_noughts, rfl, ?_⟩
          walk_at "D"
          refine we_fld ?_
          walk_at "D"
          refine ⟨_, _, _, _, .tag (j := 0) rfl, T.cl_Growing, T.na_Growing_behind, rfl, ?_⟩
          walk_at "D"
          have e2 : ct.map D.int ++ [.int b] = (ct ++ [b]).map D.int := by rw [List.map_append]; rfl
          rw [e2]
          exact fin_dat rfl q
end

section
variable {P : Program} {w : World} {K : PySem.W.Frag} {mg : Str → Option Value} {base : Heap}
/-! ### a row that comes by parts -/
def GSt.bod (st : GSt) : List Int := match st.first, st.behind with
  | some f, some h => cutI st.content (some f) (some h)
  | _, _ => []
def boxD (st : GSt) : D := .tup [.int st.at_, oD st.kind, .lst (st.bod.map D.int)]
def stepF (re no : Int) (gr : Option GSt) (b : Int) : Option GSt × Option GSt :=
  if b = 1 ∧ 2 ≤ no then (some (GSt.init (re - 2)), none)
  else match gr with
    | none => (none, none)
    | some st =>
      if (growS st b).1 = true then
        if (growS st b).2.closed = true then (none, some (growS st b).2) else (some (growS st b).2, none)
      else (none, none)
def runF : Int → Int → Option GSt → List Int → List GSt
  | _, _, _, [] => []
  | re, no, gr, b :: r => (stepF re no gr b).2.toList ++ runF (re + 1) (if b = 0 then no + 1 else 0) (stepF re no gr b).1 r
structure GI (m : Nat) (st : GSt) : Prop where
  by_ : Byts st.content
  ln : st.content.length + m ≤ 90000
  kd : ∀ k, st.kind = some k → 0 ≤ k ∧ k ≤ 255
  fi : (st.first = none ∧ st.behind = none) ∨ ∃ f h, st.first = some f ∧ st.behind = some h
  op : st.closed = false
theorem GI.ok {m : Nat} {st : GSt} (h : GI m st) : GOk st := ⟨h.by_, by have := h.ln; omega, h.kd, h.fi⟩
theorem GI.init {m : Nat} (a : Int) (h : m ≤ 90000) : GI m (GSt.init a) := ⟨(fun _ m => nomatch m), by show 0 + m ≤ _; omega, (fun _ z => nomatch z), .inl ⟨rfl, rfl⟩, rfl⟩
theorem Byts.app {ct : List Int} {b : Int} (h : Byts ct) (b0 : 0 ≤ b) (b1 : b ≤ 255) : Byts (ct ++ [b]) := by
  intro y m
  rcases List.mem_append.mp m with m | m
  · exact h y m
  · rw [List.mem_singleton.mp m]; exact ⟨b0, b1⟩
theorem GI.app {m : Nat} {st : GSt} {b : Int} (h : GI (m + 1) st) (b0 : 0 ≤ b) (b1 : b ≤ 255) : GI m (st.app b) := ⟨h.by_.app b0 b1, by have := h.ln; show (st.content ++ [b]).length + m ≤ _; rw [List.length_append]; show st.content.length + 1 + m ≤ _; omega, h.kd, h.fi, h.op⟩
theorem GI.less {m : Nat} {st : GSt} (h : GI (m + 1) st) : GI m st := ⟨h.by_, by have := h.ln; omega, h.kd, h.fi, h.op⟩
theorem GI.met {m : Nat} {st : GSt} (h : GI m st) (hf : st.first = none ∧ st.behind = none) : ∀ x, GI m (st.met x)
  | none => h
  | some (p, q) => ⟨h.by_, h.ln, h.kd, .inr ⟨p, q, rfl, rfl⟩, h.op⟩
theorem grow_end {m : Nat} {st : GSt} {b : Int} (h : GI (m + 1) st) (b0 : 0 ≤ b) (b1 : b ≤ 255) (g : (growS st b).1 = true) : ((growS st b).2.closed = true ∧ ∃ k f h, (growS st b).2.kind = some k ∧ (growS st b).2.first = some f ∧ (growS st b).2.behind = some h) ∨ ((growS st b).2.closed = false ∧ GI m (growS st b).2) := by
  cases hk : st.kind with
  | none =>
    have e : growS st b = (decide (1 ≤ b) && decide (b ≤ 9), { st with kind := some b }) := by unfold growS; rw [hk]
    rw [e]
    exact .inr ⟨h.op, h.by_, h.less.ln, fun k hk => by cases hk; exact ⟨b0, b1⟩, h.fi, h.op⟩
  | some k =>
    by_cases n2 : st.noughts = 2
    · have e : growS st b = (decide (b = 2), { st with noughts := 0 }) := by unfold growS; rw [hk]; exact if_pos n2
      rw [e]
      exact .inr ⟨h.op, h.by_, h.less.ln, h.kd, h.fi, h.op⟩
    · rcases h.fi with ⟨f1, f2⟩ | ⟨f, q, f1, f2⟩
      · have e : growS st b = ((measS st.content b).1, (st.app b).met (measS st.content b).2) := by unfold growS; rw [hk, f1, f2]; exact if_neg n2
        rw [e]
        have := (h.app b0 b1).met (x := (measS st.content b).2) ⟨f1, f2⟩
        exact .inr ⟨this.op, this⟩
      · by_cases l2 : (st.content.length : Int) = q + 2
        · have e : growS st b = (decide (b = 255) && rightS k st.content f q, { st with closed := decide (b = 255) && rightS k st.content f q }) := by unfold growS; rw [hk, f1, f2]; exact (if_neg n2).trans (if_pos l2)
          rw [e] at g ⊢
          exact .inl ⟨g, k, f, q, hk, f1, f2⟩
        · have e : growS st b = (true, st.app b) := by unfold growS; rw [hk, f1, f2]; exact (if_neg n2).trans (if_neg l2)
          rw [e]
          have := h.app b0 b1
          exact .inr ⟨this.op, this⟩
theorem GI.le {m n : Nat} {st : GSt} (h : GI m st) (l : n ≤ m) : GI n st := ⟨h.by_, by have := h.ln; omega, h.kd, h.fi, h.op⟩
def fN : List Str := ["reached", "noughts", "growing"]
def wFeedInit (CF : Addr) : PW0 := fun xs cs post _ => xs = [.cel 0] ∧ cs = [.ins CF [] []] ∧ post (.dat .non) [.ins CF fN [.int 0, .int 0, .non]]
theorem ok_Feed_init (T : Txt K mg) : FnOk P w K mg base CX0 1 T.a_Feed_init T.d_Feed_init ["self"] (spG K (wFeedInit T.c_Feed)) := by
  refine T.F_Feed_init.ok sc_Feed_init (fun vs H Q E h => spG_len h fun xs cs post exc ⟨e, _⟩ => by rw [e]; rfl) (fun cdv A outer s H vs Q E hr h => ⟨_, (pss_cons (ps_fld (pv 0) pe_int rfl)
      (pss_cons (ps_fld (pv 0) pe_int rfl)
      (pss_one (ps_fld (pv 0) pe_non rfl)))), enterN h fun F xs cs post hE hw => ?_⟩)
  obtain ⟨rfl, rfl, q⟩ := hw
  walk_at "D"
  refine ws_fset ?_
  walk_at "D"
  refine ⟨0, _, [], [], _, _, rfl, by walk_at "fz", rfl, T.cl_Feed, T.na_Feed_reached, rfl, ?_⟩
  walk_at "D"
  refine ws_fset ?_
  walk_at "D"
  refine ⟨0, _, _, _, _, _, rfl, by walk_at "fz", rfl, T.cl_Feed, T.na_Feed_noughts, rfl, ?_⟩
  walk_at "D"
  refine ws_fset ?_
  walk_at "D"
  refine ⟨0, _, _, _, _, _, rfl, by walk_at "fz", rfl, T.cl_Feed, T.na_Feed_growing, rfl, ?_⟩
  walk_at "D"
  exact fin_dat rfl q
def grA (g : Addr) : Option GSt → D
  | none => .non
  | some _ => .cls g
def grC (CG g c : Addr) : Option GSt → List Cell
  | none => []
  | some st => growC CG g c st
/-- a feed: its own fields, the growing box's and its content's -/
def feedX (CF CG : Addr) (re no : Int) (gr : Option GSt) : RegX where
  ok T _ a := ∃ dx vs g c, T a = some (.ins CF dx (fN.zip vs)) ∧ (∀ (K : PySem.W.Frag) (G : Hp), Reps K G [.int re, .int no, grA g gr] vs) ∧ ∀ st, gr = some st → a ≠ g ∧ a ≠ c ∧ g ≠ c ∧ (∃ dx2 ws, T g = some (.ins CG dx2 (gN.zip ws)) ∧ ∀ (K : PySem.W.Frag) (G : Hp), Reps K G (growF c st) ws) ∧ ∃ us, T c = some (.lst us) ∧ ∀ (K : PySem.W.Frag) (G : Hp), Reps K G (st.content.map D.int) us
  mono := fun _ h => h
theorem feedX_at {CF CG a : Addr} {re no : Int} {gr : Option GSt} {T G : Hp} (h : (feedX CF CG re no gr).ok T G a) : ∃ o, T a = some o := by
  obtain ⟨dx, vs, _, _, h, _⟩ := h
  exact ⟨_, h⟩
theorem feedX_any {CF CG a : Addr} {re no : Int} {gr : Option GSt} {T G G' : Hp} (h : (feedX CF CG re no gr).ok T G a) : (feedX CF CG re no gr).ok T G' a := h
theorem feedX_C {CF CG : Addr} {re no : Int} {gr : Option GSt} {m : Str} (h : hasN m fN = false) : RegC CF m (feedX CF CG re no gr) := fun T G a ok => by
  obtain ⟨dx, vs, _, _, h1, h2, _⟩ := ok
  exact ⟨dx, _, h1, look_none h⟩
theorem feedX_F {CF CG : Addr} {re no : Int} {gr : Option GSt} : RegF CF "reached" (.int re) (feedX CF CG re no gr) := fun K T G a ok => by
  obtain ⟨dx, vs, g, _, h1, h2, _⟩ := ok
  obtain ⟨v, hv, rv⟩ := look_rep (ns := fN) (f := "reached") (h2 K G) (d := .int re) rfl
  exact ⟨dx, _, v, h1, hv, rv⟩
section
variable {K : PySem.W.Frag} {F : Fx} {ρ : En} {ks : KS} {tt : TS}
theorem openF {CF CG : Addr} {re no : Int} {gr : Option GSt} {j : Nat} {t : Option Addr} (hj : ρ.ce[j]? = some (.reg t (feedX CF CG re no gr))) {as : List Addr} {σ : L2.St} {H G : Hp} (e : EnvOk K F ρ as σ H G) : ∃ g c ps, EnvOk K F ⟨ρ.sl, ρ.ce.set j (.ins CF fN [.int re, .int no, grA g gr]) ++ grC CG g c gr⟩ (as ++ ps) σ H G := by
  obtain ⟨a, ha⟩ : ∃ a, as[j]? = some a := ⟨_, List.getElem?_eq_getElem (by rw [e.ln]; exact (List.getElem?_eq_some_iff.mp hj).1)⟩
  obtain ⟨Ts, r⟩ := e.rg
  obtain ⟨_, dx, vs, g, c, hT, hr, hg⟩ := r.ok j _ _ a hj ha
  have ga : G a = none := (e.ce j _ a hj ha).2.2
  have root : CellOk K G H a (.ins CF fN [.int re, .int no, grA g gr]) := ⟨ga, dx, vs, (r.pl j a _ hT).1, rfl, hr K G⟩
  cases gr with
  | none =>
    have e2 := e.openR r hj ha (c0 := .ins CF fN [.int re, .int no, grA g none]) (ps := []) (cs := []) (fun _ _ z => nomatch z) root rfl (by simp) (fun _ z => nomatch z) (by simp) (fun i c p h => by simp at h)
    exact ⟨g, c, _, e2⟩
  | some st =>
    obtain ⟨n1, n2, n3, ⟨dx2, ws, hg1, hg2⟩, us, hc1, hc2⟩ := hg st rfl
    have e2 := e.openR r hj ha (c0 := .ins CF fN [.int re, .int no, grA g (some st)]) (ps := [g, c]) (cs := growC CG g c st) (fun _ _ z => nomatch z) root rfl (by simp [n1, n2, n3]) (fun p hp => by
      simp only [List.mem_cons, List.not_mem_nil, or_false] at hp
      rcases hp with rfl | rfl
      · exact ⟨_, hg1⟩
      · exact ⟨_, hc1⟩) (fun i t X z => by
      cases i with
      | zero => cases z
      | succ i =>
        cases i with
        | zero => cases z
        | succ i => simp [growC] at z) (fun i c2 p h1 h2 => by
      cases i with
      | zero =>
        cases h1
        cases h2
        exact ⟨(r.pl j g _ hg1).2.1, _, (r.pl j g _ hg1).1, rfl, dx2, ws, rfl, rfl, hg2⟩
      | succ i =>
        cases i with
        | zero =>
          cases h1
          cases h2
          exact ⟨(r.pl j c _ hc1).2.1, _, (r.pl j c _ hc1).1, rfl, us, rfl, hc2⟩
        | succ i => simp [growC] at h1)
    exact ⟨g, c, _, e2⟩
theorem closeF {ρ0 : En} {CF CG : Addr} {re no : Int} {gr : Option GSt} {g c : Addr} {j : Nat} {t : Option Addr} (jn : j < ρ0.ce.length) (ht : ∀ f, t = some f → ∃ X, ρ0.ce[j]? = some (.reg (some f) X)) (hj : ρ.ce[j]? = some (.ins CF fN [.int re, .int no, grA g gr]))
    (hg : ∀ st, gr = some st → ∃ i1 i2, ρ0.ce.length ≤ i1 ∧ ρ0.ce.length ≤ i2 ∧ ρ.ce[i1]? = some (.oth (insX g CG gN (growF c st))) ∧ ρ.ce[i2]? = some (.oth (lstX c (st.content.map D.int)))) : Rel K F ρ0 ρ ((ρ.trunc ρ0.ce.length).cell j (.reg t (feedX CF CG re no gr))) := fun as as0 σ H G G0 e gr0 hn h0 htag => by
  obtain ⟨a, ha⟩ : ∃ a, as[j]? = some a := ⟨_, List.getElem?_eq_getElem (by rw [e.ln]; exact (List.getElem?_eq_some_iff.mp hj).1)⟩
  have ta : ∀ f, t = some f → a = f := fun f hf => by
    obtain ⟨X, hX⟩ := ht f hf
    have h1 := htag j f X hX
    obtain ⟨_, rr, rfl⟩ := gr0
    rw [List.getElem?_append_left (List.getElem?_eq_some_iff.mp h1).1, h1] at ha
    exact (Option.some.inj ha).symm
  obtain ⟨fa, _, ga, dx, vs, hH, ln, hr⟩ := e.ce j _ a hj ha
  have hr' : ∀ (K' : PySem.W.Frag) (G' : Hp), Reps K' G' [.int re, .int no, grA g gr] vs := fun K' G' => Reps.atoms (by cases gr <;> rfl) hr
  have inj : ∀ {i l : Nat} {b : Addr}, as[i]? = some b → as[l]? = some b → i = l := fun h1 h2 => (List.getElem?_inj (List.getElem?_eq_some_iff.mp h1).1 e.nd).mp (h1.trans h2.symm)
  cases hgr : gr with
  | none =>
    rw [hgr] at hr'
    refine ⟨_, _, e.closeR (T := fun b => if b = a then some (.ins CF dx (fN.zip vs)) else none) h0 jn hj (fun z => nomatch z) (fun _ _ z => nomatch z) ha (fun b o hb => ?_) ta ⟨dx, vs, g, c, if_pos rfl, hr', fun st z => nomatch z⟩, gr0.trunc (Nat.le_of_eq hn)⟩
    have hb : (if b = a then some (HO.ins CF dx (fN.zip vs)) else none) = some o := hb
    by_cases q : b = a
    · rw [if_pos q] at hb
      cases hb
      exact ⟨by rw [q]; exact hH, j, _, by rw [q]; exact ha, hj, (fun z => nomatch z), (fun _ _ z => nomatch z), .inl rfl⟩
    · rw [if_neg q] at hb; cases hb
  | some st =>
    rw [hgr] at hr'
    obtain ⟨i1, i2, l1, l2, h1, h2⟩ := hg st hgr
    obtain ⟨b1, hb1⟩ : ∃ a, as[i1]? = some a := ⟨_, List.getElem?_eq_getElem (by rw [e.ln]; exact (List.getElem?_eq_some_iff.mp h1).1)⟩
    obtain ⟨b2, hb2⟩ : ∃ a, as[i2]? = some a := ⟨_, List.getElem?_eq_getElem (by rw [e.ln]; exact (List.getElem?_eq_some_iff.mp h2).1)⟩
    obtain ⟨_, _, _, o1, ho1, q1, dx2, ws, e1, _, w1⟩ := e.ce i1 _ b1 h1 hb1
    obtain ⟨_, _, _, o2, ho2, q2, us, e2, w2⟩ := e.ce i2 _ b2 h2 hb2
    subst q1 q2 e1 e2
    have n12 : i1 ≠ i2 := fun z => by
      subst z
      rw [h1] at h2
      have h2 : Cell.oth (insX b1 CG gN (growF b2 st)) = Cell.oth (lstX b2 (st.content.map D.int)) := Option.some.inj h2
      rw [hb1] at hb2
      cases hb2
      rw [ho1] at ho2
      cases ho2
    have m1 : a ≠ b1 := fun z => by have := inj ha (z ▸ hb1); omega
    have m2 : a ≠ b2 := fun z => by have := inj ha (z ▸ hb2); omega
    have m3 : b1 ≠ b2 := fun z => n12 (inj hb1 (z ▸ hb2))
    refine ⟨_, _, e.closeR (T := fun b => if b = a then some (.ins CF dx (fN.zip vs)) else if b = b1 then some (.ins CG dx2 (gN.zip ws)) else if b = b2 then some (.lst us) else none) h0 jn hj (fun z => nomatch z) (fun _ _ z => nomatch z) ha (fun b o hb => ?_) ta ⟨dx, vs, b1, b2, if_pos rfl, hr', fun st2 z => ?_⟩, gr0.trunc (Nat.le_of_eq hn)⟩
    · have hb : (if b = a then some (HO.ins CF dx (fN.zip vs)) else if b = b1 then some (.ins CG dx2 (gN.zip ws)) else if b = b2 then some (.lst us) else none) = some o := hb
      by_cases q : b = a
      · rw [if_pos q] at hb
        cases hb
        exact ⟨by rw [q]; exact hH, j, _, by rw [q]; exact ha, hj, (fun z => nomatch z), (fun _ _ z => nomatch z), .inl rfl⟩
      · rw [if_neg q] at hb
        by_cases q1 : b = b1
        · rw [if_pos q1] at hb
          cases hb
          exact ⟨by rw [q1]; exact ho1, i1, _, by rw [q1]; exact hb1, h1, (fun z => nomatch z), (fun _ _ z => nomatch z), .inr l1⟩
        · rw [if_neg q1] at hb
          by_cases q2 : b = b2
          · rw [if_pos q2] at hb
            cases hb
            exact ⟨by rw [q2]; exact ho2, i2, _, by rw [q2]; exact hb2, h2, (fun z => nomatch z), (fun _ _ z => nomatch z), .inr l2⟩
          · rw [if_neg q2] at hb; cases hb
    · cases z
      refine ⟨m1, m2, m3, ⟨dx2, ws, ?_, w1⟩, us, ?_, w2⟩
      · show (if b1 = a then some (HO.ins CF dx (fN.zip vs)) else if b1 = b1 then some (.ins CG dx2 (gN.zip ws)) else if b1 = b2 then some (.lst us) else none) = _
        rw [if_neg (Ne.symm m1), if_pos rfl]
      · show (if b2 = a then some (HO.ins CF dx (fN.zip vs)) else if b2 = b1 then some (.ins CG dx2 (gN.zip ws)) else if b2 = b2 then some (.lst us) else none) = _
        rw [if_neg (Ne.symm m2), if_neg (Ne.symm m3), if_pos rfl]
end
/-- what a row leaves of the noughts and of the growing box -/
def endF : Int → Int → Option GSt → List Int → Int × Option GSt
  | _, no, gr, [] => (no, gr)
  | re, no, gr, b :: r => endF (re + 1) (if b = 0 then no + 1 else 0) (stepF re no gr b).1 r
/-- what a byte leaves of the growing box, and what it adds to the found ones -/
structure FX where
  gD : D
  fo : List D
  C : List Cell
def FX.ok (CG : Addr) (x : FX) (gr : Option GSt) (fo : List D) : Prop := x.fo = fo ∧ ((x.gD = .non ∧ gr = none) ∨ ∃ g c st, x.gD = .cls g ∧ gr = some st ∧ (x.C = growC CG g c st ∨ ∃ c1 c2, x.C = c1 :: c2 :: growC CG g c st))
def wTake (CF CG CN : Addr) : PW0 := fun xs cs post exc => (∃ (ns : List Int) (t : Option Addr) (re no : Int) (gr : Option GSt) (m : Nat), xs = [.cel 0, .dat (.lst (ns.map D.int))] ∧ cs = [.reg t (feedX CF CG re no gr)] ∧ Byts ns ∧ ns.length ≤ m ∧ m ≤ 80000 ∧ (∀ st, gr = some st → GI m st) ∧ post (.new ((runF re no gr ns).map boxD)) [.reg t (feedX CF CG (re + ns.length) (endF re no gr ns).1 (endF re no gr ns).2)]) ∨ ∃ (f : Addr) (d : D), xs = [.dat (.cls f), .dat d] ∧ cs = [] ∧ pl d = true ∧ isRw d = false ∧ exc CN
theorem ok_Feed_take (T : Txt K mg) : FnOk P w K mg base (L2.CX P w) 9 T.a_Feed_take T.d_Feed_take ["self", "part"] (spG K (wTake T.c_Feed T.c_Growing T.c_NoBytes)) := by
  refine T.F_Feed_take.okX sc_Feed_take (fun vs H Q E h => spG_len h fun xs cs post exc w => by
    rcases w with ⟨a, t, re, no, gr, m, e, _⟩ | ⟨a, b, e, _⟩ <;> rw [e] <;> rfl) (fun cdv A outer s H vs Q E hr h => ⟨_, (pss_cons (ps_expr (pe_call (ok_refuse_no_bytes T) (hr.mono (by decide)) (by rfl) T.g_refuse_no_bytes T.F_refuse_no_bytes.kp T.b_refuse_no_bytes .nil (passes_call (takes_of rfl rfl rfl rfl) (fun _ _ _ _ h => h)) (pa_cons (pv 1) pa_nil)))
      (pss_cons (ps_set (i := 2) sc_Feed_take.nd rfl (Or.inl rfl) (pe_lst pa_nil))
      (pss_cons (ps_for (passes_of rfl) rfl (pi_list (pv 1)) (pg_name (i := 3) sc_Feed_take.nd rfl (Or.inl rfl))
        (pss_cons (ps_if (PW.pt (pw_and (pt_cmpR op_eq (pv 3) pe_int (nomark _)) (pw_and1 (pt_cmpR op_ge (pe_fld (pv 0) rfl) pe_int (nomark _))))) (pss_one (ps_fld (pv 0) (pe_make T.mk_Growing (ok_Growing_init T) (hr.mono (by decide)) (by rfl) T.g_Growing T.b_Growing_init .nil pass0 (pa_cons (pe_op op_sub (pe_fld (pv 0) rfl) pe_int) pa_nil)) rfl)) (pss_one (ps_if (pt_cmpR op_notN (pe_fld (pv 0) rfl) pe_non (nomark _)) (pss_one (ps_if (pt_not (pt_val (pe_meth (pe_fld (pv 0) rfl) T.cl_Growing T.mt_Growing_grow (ok_Growing_grow T) (hr.mono (by decide)) T.b_Growing_grow .nil (passes_call (takes_of rfl rfl rfl rfl) (fun _ _ _ _ h => h)) (pa_cons (pv 3) pa_nil)))) (pss_one (ps_fld (pv 0) pe_non rfl)) (pss_one (ps_if (pt_val (pe_fld (pe_fld (pv 0) rfl) rfl)) (pss_cons (ps_expr (pe_bm PySem.F.plainAttrs_list PySem.F.slot_list_append PySem.F.type_list_append mt_append (pv 2) (pa_cons (pe_tup (pa_cons (pe_fld (pe_fld (pv 0) rfl) rfl) (pa_cons (pe_fld (pe_fld (pv 0) rfl) rfl) (pa_cons (pe_meth0 (pe_fld (pv 0) rfl) T.cl_Growing T.mt_Growing_body (ok_Growing_body T) (hr.mono (by decide)) T.b_Growing_body .nil pass0) pa_nil)))) pa_nil)))
      (pss_one (ps_fld (pv 0) pe_non rfl))) pss_nil)))) pss_nil)))
      (pss_cons (ps_fld (pv 0) (pe_ifExp (pt_cmpR op_eq (pv 3) pe_int (nomark _)) (pe_op op_add (pe_fld (pv 0) rfl) pe_int) pe_int) rfl)
      (pss_one (ps_fldaug (pv 0) pe_int in_add)))))
      (pss_one (ps_ret (pv 2)))))), enter h fun F xs cs post hE hw => ?_⟩)
  subst hE
  rcases hw with ⟨ns, t, re0, no0, gr0, m, rfl, rfl, hb, lm, hl, gi0, q⟩ | ⟨f, d, rfl, rfl, hp, hd, hx⟩
  rotate_left
  · walk_at "D"
    walk_at "cx"
    exact ⟨d, rfl, rfl, hp, (fun z => by rw [hd] at z; cases z), fun _ => hx⟩
  walk_at "D"
  walk_at "cx"
  refine ⟨_, rfl, rfl, by rw [pl]; exact pls_int ns, fun _ => ?_, fun z => by rw [rw_is hb] at z; cases z⟩
  refine ⟨rfl, ?_⟩
  refine ws_seqP (fun _ : Unit => True) (fun _ => ⟨[some (.cel 0), some (.dat (.lst (ns.map D.int))), some (.cel 1), none], [.reg t (feedX T.c_Feed T.c_Growing re0 no0 gr0), .lst []]⟩) (fun _ _ => ?_) ?_
  rotate_left
  · walk_at "D"
    exact ⟨(), trivial, .tr .all⟩
  generalize hend : endF re0 no0 gr0 ns = en at q
  refine ws_seqR (fun _ : Option D => True) (fun x => ⟨[some (.cel 0), some (.dat (.lst (ns.map D.int))), some (.cel 1), x.map AV.dat], [.reg t (feedX T.c_Feed T.c_Growing (re0 + ns.length) en.1 en.2), .lst ((runF re0 no0 gr0 ns).map boxD)]⟩) (fun _ _ => ?_) ?_
  · walk_at "D"
    exact ⟨_, .cel (Nat.le_of_ble_eq_true rfl) rfl, rfl, q⟩
  refine ws_forO ?_
  walk_at "D"
  intro as σ H1 G e
  obtain ⟨g0, c0, ps, e2⟩ := openF (j := 0) rfl e
  refine ⟨_, ps, e2, ?_⟩
  clear e e2
  refine loop_any (fun es ρ => ∃ (rest : List Int) (re no : Int) (gr : Option GSt) (g c : Addr) (fo : List D) (x : Option D), es = rest.map D.int ∧ ρ = ⟨[some (.cel 0), some (.dat (.lst (ns.map D.int))), some (.cel 1), x.map AV.dat], .ins T.c_Feed fN [.int re, .int no, grA g gr] :: .lst fo :: grC T.c_Growing g c gr⟩ ∧ fo ++ (runF re no gr rest).map boxD = (runF re0 no0 gr0 ns).map boxD ∧ (∀ st, gr = some st → GI rest.length st) ∧ Byts rest ∧ rest.length ≤ 80000 ∧ fo.length + rest.length ≤ 80000 ∧ endF re no gr rest = en ∧ re + rest.length = re0 + ns.length) ⟨ns, re0, no0, gr0, g0, c0, [], none, rfl, rfl, rfl, (fun st h => (gi0 st h).le lm), hb, by omega, by show 0 + _ ≤ _; omega, hend, rfl⟩ ?_ ?_
  · rintro ρ ⟨rest, re, no, gr, g, c, fo, x, e1, rfl, e2, _, _, _, _, e4, e5⟩
    have e3 : rest = [] := by cases rest with | nil => rfl | cons => cases e1
    subst e3
    have e2 : fo = (runF re0 no0 gr0 ns).map boxD := by rw [← e2]; exact (List.append_nil _).symm
    subst e2
    have e4 : (no, gr) = en := e4
    have e5 : re = re0 + ns.length := by rw [← e5]; exact (Int.add_zero re).symm
    subst e4 e5
    refine ⟨.dat _, x, trivial, ?_⟩
    cases x <;> exact closeF (j := 0) (t := t) (CG := T.c_Growing) (g := g) (c := c) (re := re0 + ns.length) (no := no) (gr := gr) Nat.zero_lt_two (fun f hf => ⟨_, by rw [hf]; rfl⟩) rfl (fun st hs => by
      subst hs
      exact ⟨2, 3, Nat.le_refl 2, Nat.le_succ 2, rfl, rfl⟩)
  · rintro d es ρ ⟨rest, re, no, gr, g, c, fo, x, e1, rfl, e2, hg, hb2, hl2, hl3, e6, e7⟩
    cases rest with
    | nil => cases e1
    | cons b rest =>
      obtain ⟨rfl, rfl⟩ := List.cons.inj e1
      have hb3 := hb2 b List.mem_cons_self
      rw [List.length_cons] at hg hl2 hl3
      refine ⟨.dat _, ?_⟩
      refine wg_name ?_
      refine ws_seqP (fun x : FX => x.ok T.c_Growing (stepF re no gr b).1 (fo ++ (stepF re no gr b).2.toList.map boxD)) (fun x => ⟨[some (.cel 0), some (.dat (.lst (ns.map D.int))), some (.cel 1), some (.dat (.int b))], .ins T.c_Feed fN [.int re, .int no, x.gD] :: .lst x.fo :: x.C⟩) ?_ ?_
      · rintro ⟨gD, fo2, C⟩ ⟨e3, hx⟩
        dsimp only at e3 hx ⊢
        have e4 : fo2 ++ (runF (re + 1) (if b = 0 then no + 1 else 0) (stepF re no gr b).1 rest).map boxD = (runF re0 no0 gr0 ns).map boxD := by
          rw [e3, List.append_assoc, ← List.map_append]
          exact e2
        have l4 : fo2.length + rest.length ≤ 80000 := by
          rw [e3, List.length_append, List.length_map]
          have : (stepF re no gr b).2.toList.length ≤ 1 := by cases (stepF re no gr b).2 <;> simp
          omega
        have g4 : ∀ st, (stepF re no gr b).1 = some st → GI rest.length st := by
          intro st
          unfold stepF
          by_cases z : b = 1 ∧ 2 ≤ no
          · rw [if_pos z]
            intro h
            cases h
            exact GI.init _ (by omega)
          · rw [if_neg z]
            cases gr with
            | none => intro h; cases h
            | some st0 =>
              dsimp only
              by_cases y : (growS st0 b).1 = true
              · rw [if_pos y]
                rcases grow_end (hg st0 rfl) hb3.1 hb3.2 y with ⟨cl, _⟩ | ⟨cl, gi⟩
                · rw [if_pos cl]
                  intro h
                  cases h
                · rw [if_neg (by rw [cl]; exact Bool.false_ne_true)]
                  intro h
                  cases h
                  exact gi
              · rw [if_neg y]
                intro h
                cases h
        have b4 : Byts rest := fun y m => hb2 y (List.mem_cons_of_mem _ m)
        have e6 : endF (re + 1) (if b = 0 then no + 1 else 0) (stepF re no gr b).1 rest = en := e6
        have e7 : re + 1 + (rest.length : Int) = re0 + ns.length := by rw [← e7, List.length_cons]; omega
        refine ws_seq ?_
        refine ws_fset ?_
        refine WpE.imp (k := fun y ρ1 => y = .dat (.int (if b = 0 then no + 1 else 0)) ∧ ρ1 = ⟨[some (.cel 0), some (.dat (.lst (ns.map D.int))), some (.cel 1), some (.dat (.int b))], .ins T.c_Feed fN [.int re, .int no, gD] :: .lst fo2 :: C⟩) ?_ ?_
        · walk_at "D"
          refine ifC (fun c2 => ?_) (fun c2 => ?_)
          · rw [if_pos (of_decide_eq_true c2)]
            walk_at "D"
            refine we_fld ?_
            walk_at "D"
            refine ⟨_, _, _, _, .cel (j := 0) rfl, T.cl_Feed, T.na_Feed_noughts, rfl, ?_⟩
            walk_at "D"
            exact ⟨rfl, rfl⟩
          · rw [if_neg (of_decide_eq_false c2)]
            walk_at "D"
            exact ⟨rfl, rfl⟩
        rintro y ρ1 ⟨rfl, rfl⟩
        walk_at "D"
        refine ⟨0, _, _, _, _, _, rfl, by walk_at "fz", rfl, T.cl_Feed, T.na_Feed_noughts, rfl, ?_⟩
        walk_at "D"
        refine ws_fldaug ?_
        walk_at "D"
        refine ⟨0, _, _, _, _, rfl, rfl, T.cl_Feed, T.na_Feed_reached, rfl, rfl, ?_⟩
        rcases hx with ⟨hd, hn⟩ | ⟨g2, c2, st, hd, hn, hC⟩
        · rw [hn] at e4 g4 e6
          rw [hd]
          exact now ⟨_, .cut, rest, re + 1, _, none, 0, 0, fo2, some (.int b), rfl, rfl, e4, g4, b4, by omega, l4, e6, e7⟩
        · rw [hn] at e4 g4 e6
          rw [hd]
          rcases hC with hC | ⟨c3, c4, hC⟩
          · rw [hC]
            exact now ⟨_, .all, rest, re + 1, _, some st, g2, c2, fo2, some (.int b), rfl, rfl, e4, g4, b4, by omega, l4, e6, e7⟩
          · rw [hC]
            exact now ⟨_, .drop 4 (Nat.le_of_ble_eq_true rfl) (Nat.le_of_ble_eq_true rfl), rest, re + 1, _, some st, g2, c2, fo2, some (.int b), rfl, rfl, e4, g4, b4, by omega, l4, e6, e7⟩
      · cases gr with
        | none =>
          refine ws_if ?_
          refine WpT.imp (kb := fun t ρ1 => t = decide (b = 1 ∧ 2 ≤ no) ∧ ρ1 = ⟨[some (.cel 0), some (.dat (.lst (ns.map D.int))), some (.cel 1), some (.dat (.int b))], .ins T.c_Feed fN [.int re, .int no, .non] :: .lst fo :: []⟩) ?_ ?_
          · walk_at "D"
            refine ifC (fun c1 => ?_) (fun c1 => ?_)
            · have c1 : b = 1 := of_decide_eq_true c1
              walk_at "D"
              refine we_fld ?_
              walk_at "D"
              refine ⟨_, _, _, _, .cel (j := 0) rfl, T.cl_Feed, T.na_Feed_noughts, rfl, ?_⟩
              walk_at "D"
              exact ⟨decide_eq_decide.mpr ⟨fun h => ⟨c1, h⟩, fun h => h.2⟩, rfl⟩
            · have c1 : ¬ b = 1 := of_decide_eq_false c1
              exact ⟨(decide_eq_false fun h => c1 h.1).symm, rfl⟩
          rintro t ρ1 ⟨rfl, rfl⟩
          refine ifC (fun c1 => ?_) (fun c1 => ?_)
          · have e : stepF re no none b = (some (GSt.init (re - 2)), none) := if_pos (of_decide_eq_true c1)
            rw [e]
            refine ws_fset ?_
            refine we_ptr ?_
            refine we_make ?_
            walk_at "D"
            refine we_fld ?_
            walk_at "D"
            refine ⟨_, _, _, _, .cel (j := 0) rfl, T.cl_Feed, T.na_Feed_reached, rfl, ?_⟩
            walk_at "D"
            refine ⟨_, _, by walk_at "fz", ?_⟩
            refine wsp1 (j := 2) rfl rfl rfl ⟨re - 2, rfl, rfl, fun c2 => ⟨_, rfl, rfl, rfl, 2, _, rfl, rfl, rfl, fun g2 X hX => ?_⟩⟩
            cases hX
            walk_at "D"
            refine ⟨0, _, _, _, _, _, rfl, by walk_at "fz", rfl, T.cl_Feed, T.na_Feed_growing, rfl, ?_⟩
            exact ⟨⟨.cls g2, fo, _⟩, ⟨(List.append_nil _).symm, .inr ⟨g2, c2, _, rfl, rfl, .inl rfl⟩⟩, .tr .all⟩
          · have c2 := of_decide_eq_false c1
            clear c1
            have e : stepF re no none b = (none, none) := if_neg c2
            rw [e]
            walk_at "D"
            refine we_fld ?_
            walk_at "D"
            refine ⟨_, _, _, _, .cel (j := 0) rfl, T.cl_Feed, T.na_Feed_growing, rfl, ?_⟩
            walk_at "D"
            exact ⟨⟨.non, fo, []⟩, ⟨(List.append_nil _).symm, .inl ⟨rfl, rfl⟩⟩, .tr .all⟩
        | some st =>
          have gi := hg st rfl
          refine ws_if ?_
          refine WpT.imp (kb := fun t ρ1 => t = decide (b = 1 ∧ 2 ≤ no) ∧ ρ1 = ⟨[some (.cel 0), some (.dat (.lst (ns.map D.int))), some (.cel 1), some (.dat (.int b))], .ins T.c_Feed fN [.int re, .int no, .cls g] :: .lst fo :: growC T.c_Growing g c st⟩) ?_ ?_
          · walk_at "D"
            refine ifC (fun c1 => ?_) (fun c1 => ?_)
            · have c1 : b = 1 := of_decide_eq_true c1
              walk_at "D"
              refine we_fld ?_
              walk_at "D"
              refine ⟨_, _, _, _, .cel (j := 0) rfl, T.cl_Feed, T.na_Feed_noughts, rfl, ?_⟩
              walk_at "D"
              exact ⟨decide_eq_decide.mpr ⟨fun h => ⟨c1, h⟩, fun h => h.2⟩, rfl⟩
            · have c1 : ¬ b = 1 := of_decide_eq_false c1
              exact ⟨(decide_eq_false fun h => c1 h.1).symm, rfl⟩
          rintro t ρ1 ⟨rfl, rfl⟩
          refine ifC (fun c1 => ?_) (fun c1 => ?_)
          · have e : stepF re no (some st) b = (some (GSt.init (re - 2)), none) := if_pos (of_decide_eq_true c1)
            rw [e]
            refine ws_fset ?_
            refine we_ptr ?_
            refine we_make ?_
            walk_at "D"
            refine we_fld ?_
            walk_at "D"
            refine ⟨_, _, _, _, .cel (j := 0) rfl, T.cl_Feed, T.na_Feed_reached, rfl, ?_⟩
            walk_at "D"
            refine ⟨_, _, by walk_at "fz", ?_⟩
            refine wsp1 (j := 4) rfl rfl rfl ⟨re - 2, rfl, rfl, fun c2 => ⟨_, rfl, rfl, rfl, 4, _, rfl, rfl, rfl, fun g2 X hX => ?_⟩⟩
            cases hX
            walk_at "D"
            refine ⟨0, _, _, _, _, _, rfl, by walk_at "fz", rfl, T.cl_Feed, T.na_Feed_growing, rfl, ?_⟩
            exact ⟨⟨.cls g2, fo, _⟩, ⟨(List.append_nil _).symm, .inr ⟨g2, c2, _, rfl, rfl, .inr ⟨_, _, rfl⟩⟩⟩, .tr .all⟩
          · have c2 := of_decide_eq_false c1
            clear c1
            walk_at "D"
            refine we_fld ?_
            walk_at "D"
            refine ⟨_, _, _, _, .cel (j := 0) rfl, T.cl_Feed, T.na_Feed_growing, rfl, ?_⟩
            walk_at "D"
            refine we_meth ?_
            walk_at "D"
            refine we_fld ?_
            walk_at "D"
            refine ⟨_, _, _, _, .cel (j := 0) rfl, T.cl_Feed, T.na_Feed_growing, rfl, ?_⟩
            refine ⟨_, _, .tag (j := 2) rfl, rfl, ?_⟩
            walk_at "D"
            refine wspP0 (ds := [.cls g, .int b]) (js := [2, 3]) (cs := growC T.c_Growing g c st) rfl (by decide) rfl ⟨g, c, st, b, rfl, rfl, gi.ok, hb3.1, hb3.2, rfl, rfl, ?_⟩
            walk_at "D"
            refine ifC (fun c3 => ?_) (fun c3 => ?_)
            · have g1 : ¬ (growS st b).1 = true := by
                intro z
                rw [z] at c3
                cases c3
              have e : stepF re no (some st) b = (none, none) := (if_neg c2).trans (if_neg g1)
              rw [e]
              refine ws_fset ?_
              walk_at "D"
              refine ⟨0, _, _, _, _, _, rfl, by walk_at "fz", rfl, T.cl_Feed, T.na_Feed_growing, rfl, ?_⟩
              exact ⟨⟨.non, fo, _⟩, ⟨(List.append_nil _).symm, .inl ⟨rfl, rfl⟩⟩, .tr .all⟩
            · have g1 : (growS st b).1 = true := by
                cases z : (growS st b).1 with
                | true => rfl
                | false => rw [z] at c3; cases c3
              have e0 : stepF re no (some st) b = if (growS st b).2.closed = true then (none, some (growS st b).2) else (some (growS st b).2, none) := (if_neg c2).trans (if_pos g1)
              refine ws_if ?_
              walk_at "D"
              refine we_fld ?_
              refine we_fld ?_
              walk_at "D"
              refine ⟨_, _, _, _, .cel (j := 0) rfl, T.cl_Feed, T.na_Feed_growing, rfl, ?_⟩
              refine ⟨_, _, _, _, .tag (j := 2) rfl, T.cl_Growing, T.na_Growing_closed, rfl, ?_⟩
              walk_at "D"
              rcases grow_end gi hb3.1 hb3.2 g1 with ⟨cl, k, f, h2, hk, hf, hh⟩ | ⟨cl, _⟩
              · have e : stepF re no (some st) b = (none, some (growS st b).2) := e0.trans (if_pos cl)
                rw [e]
                have eb : boxD (growS st b).2 = .tup [.int (growS st b).2.at_, oD (growS st b).2.kind, .lst ((cutI (growS st b).2.content (some f) (some h2)).map D.int)] := by
                  unfold boxD GSt.bod
                  rw [hf, hh]
                refine ifT cl ?_
                walk_at "D"
                refine we_fld ?_
                refine we_fld ?_
                walk_at "D"
                refine ⟨_, _, _, _, .cel (j := 0) rfl, T.cl_Feed, T.na_Feed_growing, rfl, ?_⟩
                refine ⟨_, _, _, _, .tag (j := 2) rfl, T.cl_Growing, T.na_Growing_at, rfl, ?_⟩
                walk_at "D"
                refine we_fld ?_
                refine we_fld ?_
                walk_at "D"
                refine ⟨_, _, _, _, .cel (j := 0) rfl, T.cl_Feed, T.na_Feed_growing, rfl, ?_⟩
                refine ⟨_, _, _, _, .tag (j := 2) rfl, T.cl_Growing, T.na_Growing_kind, rfl, ?_⟩
                walk_at "D"
                refine we_meth ?_
                refine we_fld ?_
                walk_at "D"
                refine ⟨_, _, _, _, .cel (j := 0) rfl, T.cl_Feed, T.na_Feed_growing, rfl, ?_⟩
                refine ⟨_, _, .tag (j := 2) rfl, rfl, ?_⟩
                walk_at "D"
                refine wspP0 (ds := [.cls g]) (js := [2, 3]) (cs := growC T.c_Growing g c (growS st b).2) rfl (by decide) rfl ⟨g, c, _, f, h2, rfl, rfl, hf, hh, rfl, rfl, ?_⟩
                walk_at "D"
                · omega
                walk_at "D"
                refine ws_fset ?_
                walk_at "D"
                refine ⟨0, _, _, _, _, _, rfl, by walk_at "fz", rfl, T.cl_Feed, T.na_Feed_growing, rfl, ?_⟩
                exact ⟨⟨.non, _, _⟩, ⟨by
                  show _ = fo ++ [boxD (growS st b).2]
                  rw [eb], .inl ⟨rfl, rfl⟩⟩, .tr .all⟩
              · have e : stepF re no (some st) b = (some (growS st b).2, none) := e0.trans (if_neg (by rw [cl]; exact Bool.false_ne_true))
                rw [e]
                refine ifF cl ?_
                walk_at "D"
                exact ⟨⟨.cls g, fo, _⟩, ⟨(List.append_nil _).symm, .inr ⟨g, c, _, rfl, rfl, .inl rfl⟩⟩, .tr .all⟩
end
/-! ### what a growing box comes to -/
def runG : GSt → List Int → Option (GSt × List Int)
  | _, [] => none
  | st, b :: r => if (growS st b).1 = true then if (growS st b).2.closed = true then some ((growS st b).2, r) else runG (growS st b).2 r else none
def ownG : Option GSt → List Int → List GSt
  | none, _ => []
  | some st, r => ((runG st r).map Prod.fst).toList
def nx0 (no b : Int) : Int := if b = 0 then no + 1 else 0
def bxF : Int → Int → List Int → List GSt
  | _, _, [] => []
  | re, no, b :: r => (if b = 1 ∧ 2 ≤ no then ownG (some (GSt.init (re - 2))) r else []) ++ bxF (re + 1) (nx0 no b) r
def ZI (no : Int) (st : GSt) : Prop := (st.kind = none ∧ no = 0 ∧ st.noughts = 0) ∨ ∃ k, st.kind = some k ∧ no ≤ st.noughts ∧ st.noughts ≤ 2
theorem met_nought (st : GSt) (x : Option (Int × Int)) : (st.met x).noughts = st.noughts ∧ (st.met x).kind = st.kind ∧ (st.met x).content = st.content ∧ (st.met x).closed = st.closed ∧ (st.met x).at_ = st.at_ := by
  cases x with
  | none => exact ⟨rfl, rfl, rfl, rfl, rfl⟩
  | some x => exact ⟨rfl, rfl, rfl, rfl, rfl⟩
theorem ZI.dead {no : Int} {st : GSt} (h : ZI no st) (n2 : 2 ≤ no) : (growS st 1).1 = false := by
  rcases h with ⟨_, h, _⟩ | ⟨k, hk, h1, h2⟩
  · omega
  · have e : growS st 1 = (decide ((1 : Int) = 2), { st with noughts := 0 }) := by unfold growS; rw [hk]; exact if_pos (by omega)
    rw [e]
    rfl
theorem growS_none {st : GSt} {b : Int} (hk : st.kind = none) : growS st b = (decide (1 ≤ b) && decide (b ≤ 9), { st with kind := some b }) := by unfold growS; rw [hk]
theorem growS_two {st : GSt} {b k : Int} (hk : st.kind = some k) (n2 : st.noughts = 2) : growS st b = (decide (b = 2), { st with noughts := 0 }) := by unfold growS; rw [hk]; exact if_pos n2
theorem growS_meas {st : GSt} {b k : Int} (hk : st.kind = some k) (n2 : st.noughts ≠ 2) (f : st.first = none ∧ st.behind = none) : growS st b = ((measS st.content b).1, (st.app b).met (measS st.content b).2) := by unfold growS; rw [hk, f.1, f.2]; exact if_neg n2
theorem growS_full {st : GSt} {b k f h : Int} (hk : st.kind = some k) (n2 : st.noughts ≠ 2) (f1 : st.first = some f) (f2 : st.behind = some h) (l : (st.content.length : Int) = h + 2) : growS st b = (decide (b = 255) && rightS k st.content f h, { st with closed := decide (b = 255) && rightS k st.content f h }) := by unfold growS; rw [hk, f1, f2]; exact (if_neg n2).trans (if_pos l)
theorem growS_more {st : GSt} {b k f h : Int} (hk : st.kind = some k) (n2 : st.noughts ≠ 2) (f1 : st.first = some f) (f2 : st.behind = some h) (l : ¬ (st.content.length : Int) = h + 2) : growS st b = (true, st.app b) := by unfold growS; rw [hk, f1, f2]; exact (if_neg n2).trans (if_neg l)
theorem ZI.next {no : Int} {st : GSt} {b : Int} (h : ZI no st) (hf : (st.first = none ∧ st.behind = none) ∨ ∃ f h, st.first = some f ∧ st.behind = some h) (g : (growS st b).1 = true) (cl : (growS st b).2.closed = false) : ZI (nx0 no b) (growS st b).2 := by
  rcases h with ⟨hk, h0, h1⟩ | ⟨k, hk, h1, h2⟩
  · rw [growS_none hk] at g ⊢
    have g : (decide (1 ≤ b) && decide (b ≤ 9)) = true := g
    rw [Bool.and_eq_true] at g
    have := of_decide_eq_true g.1
    refine .inr ⟨b, rfl, ?_, ?_⟩
    · show nx0 no b ≤ st.noughts
      unfold nx0
      rw [if_neg (by omega)]
      omega
    · show st.noughts ≤ 2
      omega
  · by_cases n2 : st.noughts = 2
    · rw [growS_two hk n2] at g ⊢
      have g : b = 2 := of_decide_eq_true g
      refine .inr ⟨k, hk, ?_, (by decide : (0 : Int) ≤ 2)⟩
      show nx0 no b ≤ 0
      unfold nx0
      rw [if_neg (by omega)]
      omega
    · have app : ∀ x, ZI (nx0 no b) ((st.app b).met x) := fun x => by
        refine .inr ⟨k, (met_nought _ x).2.1.trans hk, ?_, ?_⟩
        · rw [(met_nought _ x).1]
          show nx0 no b ≤ if b = 0 then st.noughts + 1 else 0
          unfold nx0
          split <;> omega
        · rw [(met_nought _ x).1]
          show (if b = 0 then st.noughts + 1 else 0) ≤ 2
          split <;> omega
      rcases hf with hf | ⟨f, q, f1, f2⟩
      · rw [growS_meas hk n2 hf]
        exact app _
      · by_cases l : (st.content.length : Int) = q + 2
        · rw [growS_full hk n2 f1 f2 l] at g cl
          have g : (decide (b = 255) && rightS k st.content f q) = true := g
          have cl : (decide (b = 255) && rightS k st.content f q) = false := cl
          rw [g] at cl
          cases cl
        · rw [growS_more hk n2 f1 f2 l]
          exact app none
/-- P1a: the boxes of all STARTs -/
theorem runF_bx : ∀ (r : List Int) (re no : Int) (gr : Option GSt), (∀ st, gr = some st → ZI no st ∧ GI r.length st) → Byts r → r.length ≤ 90000 → runF re no gr r = ownG gr r ++ bxF re no r
  | [], re, no, gr, h, _, _ => by cases gr <;> rfl
  | b :: r, re, no, gr, h, hb, hl => by
    have hb3 := hb b List.mem_cons_self
    have hb4 : Byts r := fun y m => hb y (List.mem_cons_of_mem _ m)
    have hl4 : r.length ≤ 90000 := by rw [List.length_cons] at hl; omega
    show (stepF re no gr b).2.toList ++ runF (re + 1) (nx0 no b) (stepF re no gr b).1 r = ownG gr (b :: r) ++ ((if b = 1 ∧ 2 ≤ no then ownG (some (GSt.init (re - 2))) r else []) ++ bxF (re + 1) (nx0 no b) r)
    by_cases c : b = 1 ∧ 2 ≤ no
    · have e : stepF re no gr b = (some (GSt.init (re - 2)), none) := if_pos c
      rw [e, if_pos c]
      have e2 : ownG gr (b :: r) = [] := by
        cases gr with
        | none => rfl
        | some st =>
          have := (h st rfl).1.dead c.2
          rw [← c.1] at this
          show ((if (growS st b).1 = true then _ else none : Option (GSt × List Int)).map Prod.fst).toList = []
          rw [if_neg (by rw [this]; exact Bool.false_ne_true)]
          rfl
      rw [e2]
      refine runF_bx r (re + 1) (nx0 no b) _ (fun st hs => ?_) hb4 hl4
      cases hs
      refine ⟨.inl ⟨rfl, ?_, rfl⟩, GI.init _ hl4⟩
      unfold nx0
      rw [if_neg (by omega)]
    · rw [if_neg c]
      cases gr with
      | none =>
        have e : stepF re no none b = (none, none) := if_neg c
        rw [e]
        exact runF_bx r (re + 1) (nx0 no b) none (fun st hs => nomatch hs) hb4 hl4
      | some st =>
        obtain ⟨zi, gi⟩ := h st rfl
        have e0 : stepF re no (some st) b = if (growS st b).1 = true then if (growS st b).2.closed = true then (none, some (growS st b).2) else (some (growS st b).2, none) else (none, none) := if_neg c
        have eo : ownG (some st) (b :: r) = ((if (growS st b).1 = true then if (growS st b).2.closed = true then some ((growS st b).2, r) else runG (growS st b).2 r else none : Option (GSt × List Int)).map Prod.fst).toList := rfl
        by_cases g : (growS st b).1 = true
        · rw [if_pos g] at e0 eo
          rcases grow_end gi hb3.1 hb3.2 g with ⟨cl, _⟩ | ⟨cl, gi2⟩
          · rw [if_pos cl] at e0 eo
            rw [e0, eo]
            show [(growS st b).2] ++ runF (re + 1) (nx0 no b) none r = _
            rw [runF_bx r (re + 1) (nx0 no b) none (fun st hs => nomatch hs) hb4 hl4]
            rfl
          · rw [if_neg (by rw [cl]; exact Bool.false_ne_true)] at e0 eo
            rw [e0, eo]
            show runF (re + 1) (nx0 no b) (some (growS st b).2) r = _
            rw [runF_bx r (re + 1) (nx0 no b) _ (fun st2 hs => by cases hs; exact ⟨zi.next gi.fi g cl, gi2⟩) hb4 hl4]
            rfl
        · rw [if_neg g] at e0 eo
          rw [e0, eo]
          exact runF_bx r (re + 1) (nx0 no b) none (fun st hs => nomatch hs) hb4 hl4
/-- what stands at the begin of a row -/
def stB (at_ : Int) (l : List Int) : List GSt := if l.take 3 = [0, 0, 1] then ownG (some (GSt.init at_)) (l.drop 3) else []
def bx : Int → List Int → List GSt
  | _, [] => []
  | a, b :: r => stB a (b :: r) ++ bx (a + 1) r
theorem bxF_bx : ∀ (r : List Int) (re no : Int), 0 ≤ no → bxF re no r = if no = 0 then bx re r else if no = 1 then bx (re - 1) (0 :: r) else bx (re - 2) (0 :: 0 :: r)
  | [], re, no, h => by
    have z : ∀ a, stB a [0] = [] := fun a => if_neg (by decide)
    have z2 : ∀ a, stB a [0, 0] = [] := fun a => if_neg (by decide)
    split
    · rfl
    · split
      · show [] = stB _ [0] ++ []
        rw [z]; rfl
      · show [] = stB _ [0, 0] ++ (stB _ [0] ++ [])
        rw [z, z2]; rfl
  | b :: r, re, no, h => by
    show (if b = 1 ∧ 2 ≤ no then ownG (some (GSt.init (re - 2))) r else []) ++ bxF (re + 1) (nx0 no b) r = _
    have hn : 0 ≤ nx0 no b := by unfold nx0; split <;> omega
    rw [bxF_bx r (re + 1) (nx0 no b) hn]
    have t3 : ∀ (a : Int) (x y c : Int) (s : List Int), stB a (x :: y :: c :: s) = if x = 0 ∧ y = 0 ∧ c = 1 then ownG (some (GSt.init a)) s else [] := fun a x y c s => by
      unfold stB
      by_cases q : x = 0 ∧ y = 0 ∧ c = 1
      · obtain ⟨rfl, rfl, rfl⟩ := q
        rw [if_pos (show List.take 3 (0 :: 0 :: 1 :: s) = [0, 0, 1] from rfl), if_pos ⟨rfl, rfl, rfl⟩]
        rfl
      · rw [if_neg q, if_neg fun z => ?_]
        have z : [x, y, c] = [0, 0, 1] := z
        simp only [List.cons.injEq] at z
        exact q ⟨z.1, z.2.1, z.2.2.1⟩
    have no0 : ∀ (a x : Int) (s : List Int), x ≠ 0 → stB a (x :: s) = [] := fun a x s q => if_neg fun z => by
      rw [List.take_succ_cons] at z
      exact q (List.cons.inj z).1
    have no1 : ∀ (a x y : Int) (s : List Int), y ≠ 0 → stB a (x :: y :: s) = [] := fun a x y s q => if_neg fun z => by
      rw [List.take_succ_cons, List.take_succ_cons] at z
      exact q (List.cons.inj (List.cons.inj z).2).1
    unfold nx0
    by_cases b0 : b = 0
    · subst b0
      rw [if_neg (by omega), if_pos rfl, if_neg (show ¬ no + 1 = 0 by omega)]
      by_cases n0 : no = 0
      · subst n0
        rw [if_pos rfl, if_pos (by omega), show re + 1 - 1 = re by omega]
        rfl
      · rw [if_neg n0, if_neg (show ¬ no + 1 = 1 by omega)]
        by_cases n1 : no = 1
        · subst n1
          rw [if_pos rfl, show re + 1 - 2 = re - 1 by omega]
          rfl
        · rw [if_neg n1]
          show [] ++ bx (re + 1 - 2) (0 :: 0 :: r) = stB (re - 2) (0 :: 0 :: 0 :: r) ++ bx (re - 2 + 1) (0 :: 0 :: r)
          rw [t3, if_neg (by omega), show re + 1 - 2 = re - 2 + 1 by omega]
    · rw [if_neg b0, if_pos rfl]
      by_cases n0 : no = 0
      · subst n0
        rw [if_pos rfl, if_neg (by omega)]
        show [] ++ bx (re + 1) r = stB re (b :: r) ++ bx (re + 1) r
        rw [no0 _ _ _ b0]
      · rw [if_neg n0]
        by_cases n1 : no = 1
        · subst n1
          rw [if_pos rfl, if_neg (by omega)]
          show [] ++ bx (re + 1) r = stB (re - 1) (0 :: b :: r) ++ (stB (re - 1 + 1) (b :: r) ++ bx (re - 1 + 1 + 1) r)
          rw [no1 _ _ _ _ b0, no0 _ _ _ b0, show re - 1 + 1 + 1 = re + 1 by omega]
          rfl
        · rw [if_neg n1]
          show _ = stB (re - 2) (0 :: 0 :: b :: r) ++ (stB (re - 2 + 1) (0 :: b :: r) ++ (stB (re - 2 + 1 + 1) (b :: r) ++ bx (re - 2 + 1 + 1 + 1) r))
          rw [t3, no1 _ _ _ _ b0, no0 _ _ _ b0, show re - 2 + 1 + 1 + 1 = re + 1 by omega]
          by_cases b1 : b = 1
          · subst b1
            rw [if_pos (by omega), if_pos ⟨rfl, rfl, rfl⟩]
            rfl
          · rw [if_neg (by omega), if_neg (by omega)]
            rfl
theorem runF_all {ns : List Int} (hb : Byts ns) (hl : ns.length ≤ 90000) : runF 0 0 none ns = bx 0 ns := by
  rw [runF_bx ns 0 0 none (fun st hs => nomatch hs) hb hl, bxF_bx ns 0 0 (by decide), if_pos rfl]
  rfl
/-! ### the law's own reading -/
/-- the bytes unstuffed, each with the rest behind it and its 2 -/
def U : List Int → Int → List (Int × List Int)
  | [], _ => []
  | [b], z => if b = 0 ∧ z = 1 then [] else [(b, [])]
  | b :: c :: r, z => if b = 0 ∧ z = 1 then (if c = 2 then (b, r) :: U r 0 else []) else (b, c :: r) :: U (c :: r) (if b = 0 then 1 else 0)
theorem goN_app : ∀ (l X : List Int) (a p n q : Int), goN l a p = some (n, q) → 0 ≤ a → goN (l ++ X) a p = some (n, q) ∧ a * 128 ≤ n ∧ p < q ∧ q ≤ p + l.length
  | [], _, _, _, _, _, h, _ => nomatch h
  | f :: l, X, a, p, n, q, h, a0 => by
    rw [goN] at h
    rw [List.cons_append, goN]
    have fm := Int.emod_nonneg f (b := 128) (by decide)
    by_cases c : a * 128 + f % 128 > 1000000000000000000000000000000000000000000000000000000000000
    · rw [if_pos c] at h; cases h
    · rw [if_neg c] at h ⊢
      by_cases d : f < 128
      · rw [if_pos d] at h ⊢
        cases h
        rw [List.length_cons]
        exact ⟨rfl, by omega, by omega, by omega⟩
      · rw [if_neg d] at h ⊢
        obtain ⟨h1, h2, h3, h4⟩ := goN_app l X _ _ n q h (by omega)
        rw [List.length_cons]
        exact ⟨h1, by omega, by omega, by omega⟩
theorem numA_app {l : List Int} {n q : Int} (X : List Int) (h : numA l 0 = some (n, q)) : numA (l ++ X) 0 = some (n, q) ∧ 0 ≤ n ∧ 0 < q ∧ q ≤ l.length := by
  cases l with
  | nil => cases h
  | cons f l =>
    rw [numA] at h
    rw [List.cons_append, numA]
    by_cases c : f = 128
    · rw [if_pos c] at h; cases h
    · rw [if_neg c] at h ⊢
      obtain ⟨h1, h2, h3, h4⟩ := goN_app (f :: l) X 0 0 n q h (by decide)
      exact ⟨h1, by omega, h3, by omega⟩
theorem goN_hi : ∀ (l : List Int) (a p : Int), (∀ x ∈ l, 128 ≤ x) → goN l a p = none
  | [], _, _, _ => rfl
  | f :: l, a, p, h => by
    have := h f List.mem_cons_self
    rw [goN, goN_hi l _ _ fun x m => h x (List.mem_cons_of_mem _ m)]
    split
    · rfl
    · rw [if_neg (by omega)]
theorem numA_hi {l : List Int} (h : ∀ x ∈ l, 128 ≤ x) : numA l 0 = none := by
  cases l with
  | nil => rfl
  | cons f l =>
    rw [numA, goN_hi _ _ _ h]
    split <;> rfl
/-- no body has such a length -/
def BadL (F : List Int) : Prop := ∀ n p, numA F 0 = some (n, p) → 60000 < n
theorem meas_cases {ct : List Int} {b : Int} (hm : ct.length < 3) (all : ∀ x ∈ ct, 128 ≤ x ∧ x ≤ 255) (b0 : 0 ≤ b) (b1 : b ≤ 255) :
    (measS ct b = (true, none) ∧ (ct ++ [b]).length < 3 ∧ 128 ≤ b) ∨ (∃ n p : Int, numA (ct ++ [b]) 0 = some (n, p) ∧ 0 ≤ n ∧ n ≤ 60000 ∧ ((ct ++ [b]).length : Int) ≤ p + n + 2 ∧ measS ct b = (true, some (p, p + n))) ∨ (measS ct b = (false, none) ∧ ∀ X, BadL (ct ++ [b] ++ X)) := by
  by_cases c : 128 ≤ b ∧ (ct ++ [b]).length < 3
  · exact .inl ⟨if_pos c, c.2, c.1⟩
  · have e : measS ct b = match numA (ct ++ [b]) 0 with | none => (false, none) | some (n, p) => if n > 60000 then (false, none) else (true, some (p, p + n)) := if_neg c
    cases hr : numA (ct ++ [b]) 0 with
    | none =>
      rw [hr] at e
      refine .inr (.inr ⟨e, fun X n p hX => ?_⟩)
      by_cases hb : 128 ≤ b
      · -- three bytes and no end
        have l3 : ct.length = 2 := by
          have : ¬ (ct ++ [b]).length < 3 := fun z => c ⟨hb, z⟩
          rw [List.length_append, List.length_singleton] at this
          omega
        match ct, l3, all with
        | [x, y], _, all =>
          have hx := all x List.mem_cons_self
          have hy := all y (List.mem_cons_of_mem _ List.mem_cons_self)
          have hX : numA (x :: y :: b :: X) 0 = some (n, p) := hX
          rw [numA] at hX
          by_cases x8 : x = 128
          · rw [if_pos x8] at hX; cases hX
          · rw [if_neg x8, goN, if_neg (by omega), if_neg (by omega), goN, if_neg (by omega), if_neg (by omega), goN, if_neg (by omega), if_neg (by omega)] at hX
            have := (goN_app X [] _ _ n p hX (by omega)).2.1
            omega
      · -- the first is 128
        have fine : ∀ (l : List Int) (a q : Int), l.length < 3 → (∀ x ∈ l, 128 ≤ x ∧ x ≤ 255) → 0 ≤ a → a * 128 * 128 * 128 < 1000000000000 → ∃ n p, goN (l ++ [b]) a q = some (n, p) := by
          intro l a q hl hal a0 a1
          match l, hl, hal with
          | [], _, _ => exact ⟨_, _, by rw [List.nil_append, goN, if_neg (by omega), if_pos (by omega)]⟩
          | [x], _, hal =>
            have hx := hal x List.mem_cons_self
            exact ⟨_, _, by rw [List.cons_append, List.nil_append, goN, if_neg (by omega), if_neg (by omega), goN, if_neg (by omega), if_pos (by omega)]⟩
          | [x, y], _, hal =>
            have hx := hal x List.mem_cons_self
            have hy := hal y (List.mem_cons_of_mem _ List.mem_cons_self)
            exact ⟨_, _, by rw [List.cons_append, List.cons_append, List.nil_append, goN, if_neg (by omega), if_neg (by omega), goN, if_neg (by omega), if_neg (by omega), goN, if_neg (by omega), if_pos (by omega)]⟩
        obtain ⟨n1, p1, h1⟩ := fine ct 0 0 hm all (by decide) (by decide)
        cases ct with
        | nil =>
          have hr : numA [b] 0 = none := hr
          have h1 : goN [b] 0 0 = some (n1, p1) := h1
          rw [numA, if_neg (by omega), h1] at hr
          cases hr
        | cons x ct =>
          have hr : numA (x :: (ct ++ [b])) 0 = none := hr
          have h1 : goN (x :: (ct ++ [b])) 0 0 = some (n1, p1) := h1
          have hX : numA (x :: (ct ++ [b] ++ X)) 0 = some (n, p) := hX
          rw [numA] at hr hX
          by_cases x8 : x = 128
          · rw [if_pos x8] at hX; cases hX
          · rw [if_neg x8, h1] at hr; cases hr
    | some y =>
      obtain ⟨n, p⟩ := y
      rw [hr] at e
      have fs := numA_app [] hr
      by_cases big : n > 60000
      · refine .inr (.inr ⟨e.trans (if_pos big), fun X n2 p2 hX => ?_⟩)
        rw [(numA_app X hr).1] at hX
        cases hX
        exact big
      · refine .inr (.inl ⟨n, p, rfl, fs.2.1, by omega, ?_, e.trans (if_neg big)⟩)
        have goL : ∀ (l : List Int) (a q : Int), (∀ x ∈ l, 128 ≤ x ∧ x ≤ 255) → goN (l ++ [b]) a q = some (n, p) → p = q + l.length + 1 := by
          intro l
          induction l with
          | nil =>
            intro a q _ h
            rw [List.nil_append, goN] at h
            split at h
            · cases h
            · split at h
              · cases h
                show q + 1 = q + ((0 : Nat) : Int) + 1
                omega
              · cases h
          | cons x l ih =>
            intro a q hal h
            have hx := hal x List.mem_cons_self
            rw [List.cons_append, goN] at h
            split at h
            · cases h
            · rw [if_neg (by omega)] at h
              have := ih _ _ (fun y m => hal y (List.mem_cons_of_mem _ m)) h
              rw [List.length_cons]
              omega
        have : p = 0 + ct.length + 1 := by
          cases ct with
          | nil =>
            have hr : numA [b] 0 = some (n, p) := hr
            rw [numA] at hr
            split at hr
            · cases hr
            · exact goL [] 0 0 all hr
          | cons x ct =>
            have hr : numA (x :: (ct ++ [b])) 0 = some (n, p) := hr
            rw [numA] at hr
            split at hr
            · cases hr
            · exact goL (x :: ct) 0 0 all hr
        rw [List.length_append, List.length_singleton]
        omega
def lawOn (k : Int) (V : List (Int × List Int)) : Option (List Int × List Int) :=
  match numA (V.map Prod.fst) 0 with
  | none => none
  | some (n, p) =>
    if n > 60000 ∨ p + n + 2 > V.length then none
    else match V[(p + n + 1).toNat]? with
      | none => none
      | some x => if cutI (V.map Prod.fst) (some (p + n)) (some (p + n + 2)) = sumS k (cutI (V.map Prod.fst) (some p) (some (p + n))) ∧ x.2.head? = some 255 then some (cutI (V.map Prod.fst) (some p) (some (p + n)), x.2.tail) else none
theorem lawOn_bad {k : Int} {V : List (Int × List Int)} (h : BadL (V.map Prod.fst)) : lawOn k V = none := by
  unfold lawOn
  cases e : numA (V.map Prod.fst) 0 with
  | none => rfl
  | some x =>
    obtain ⟨n, p⟩ := x
    have := h n p e
    exact if_pos (.inl this)
theorem sIx_in {m d : Nat} {v : Int} (v0 : 0 ≤ v) (vl : v ≤ m) : HT.sIx m d (some v) = v.toNat := by
  show (if v < 0 then (v + (m : Int)).toNat else min v.toNat m) = v.toNat
  rw [if_neg (by omega)]
  omega
theorem cutI_nat (F : List Int) {a b : Int} (a0 : 0 ≤ a) (ab : a ≤ b) (bl : b ≤ F.length) : cutI F (some a) (some b) = (F.drop a.toNat).take (b.toNat - a.toNat) := by
  unfold cutI
  rw [sIx_in a0 (by omega), sIx_in (by omega) bl]
theorem cutI_end (F : List Int) {a : Int} (a0 : 0 ≤ a) (bl : a ≤ F.length) : cutI F (some a) none = F.drop a.toNat := by
  unfold cutI
  rw [sIx_in a0 bl, HT.sIx_none]
  exact List.take_of_length_le (by rw [List.length_drop]; omega)
theorem cutI_app (F X : List Int) {a b : Int} (a0 : 0 ≤ a) (ab : a ≤ b) (bl : b ≤ F.length) : cutI (F ++ X) (some a) (some b) = cutI F (some a) (some b) := by
  rw [cutI_nat _ a0 ab (by rw [List.length_append]; omega), cutI_nat _ a0 ab bl, List.drop_append_of_le_length (by omega), List.take_append_of_le_length (by rw [List.length_drop]; omega)]
/-- the state of a growing box behind some bytes and their stuffings -/
structure Stt (k a : Int) (ct : List Int) (z : Int) (st : GSt) : Prop where
  at_ : st.at_ = a
  kind : st.kind = some k
  content : st.content = ct
  nought : st.noughts = z
  open_ : st.closed = false
  ph : (st.first = none ∧ st.behind = none ∧ ct.length < 3 ∧ ∀ x ∈ ct, 128 ≤ x ∧ x ≤ 255) ∨ ∃ n p : Int, st.first = some p ∧ st.behind = some (p + n) ∧ numA ct 0 = some (n, p) ∧ 0 ≤ n ∧ n ≤ 60000 ∧ (ct.length : Int) ≤ p + n + 2
def outG (x : GSt × List Int) : Int × Option Int × List Int × List Int := (x.1.at_, x.1.kind, x.1.bod, x.2)
def outL (a k : Int) (y : List Int × List Int) : Int × Option Int × List Int × List Int := (a, some k, y.1, y.2)
theorem lawOn_short {k a : Int} {V0 : List (Int × List Int)} {z : Int} {st : GSt} (h : Stt k a (V0.map Prod.fst) z st) (nf : ∀ q, st.behind = some q → (V0.length : Int) ≠ q + 2) : lawOn k V0 = none := by
  rcases h.ph with ⟨_, _, _, all⟩ | ⟨n, p, f1, f2, hn, n0, n1, hl⟩
  · unfold lawOn
    rw [numA_hi fun x m => (all x m).1]
  · unfold lawOn
    rw [hn]
    have := nf _ f2
    rw [List.length_map] at hl
    exact if_pos (.inr (by omega))
theorem runG_cons (st : GSt) (b : Int) (r : List Int) : runG st (b :: r) = if (growS st b).1 = true then if (growS st b).2.closed = true then some ((growS st b).2, r) else runG (growS st b).2 r else none := rfl
theorem run_full {k a z q : Int} {r : List Int} {st : GSt} {V0 : List (Int × List Int)} (h : Stt k a (V0.map Prod.fst) z st) (hz : z = 0 ∨ z = 1) (hq : st.behind = some q) (hl : (V0.length : Int) = q + 2) (hlast : ∀ x, V0.getLast? = some x → x.2 = r) (X : List (Int × List Int)) : (runG st r).map outG = (lawOn k (V0 ++ X)).map (outL a k) := by
  rcases h.ph with ⟨_, f2, _, _⟩ | ⟨n, p, f1, f2, hn, n0, n1, _⟩
  · rw [f2] at hq; cases hq
  · rw [f2] at hq
    cases hq
    have fs := numA_app (X.map Prod.fst) hn
    have ll : (V0.map Prod.fst).length = V0.length := List.length_map ..
    have e1 : numA ((V0 ++ X).map Prod.fst) 0 = some (n, p) := by rw [List.map_append]; exact fs.1
    have p0 := fs.2.2.1
    obtain ⟨x, hx⟩ : ∃ x, V0.getLast? = some x := by
      cases hV : V0.getLast? with
      | some x => exact ⟨x, rfl⟩
      | none =>
        rw [List.getLast?_eq_none_iff] at hV
        subst hV
        have : ((0 : Nat) : Int) = p + n + 2 := hl
        omega
    have hxr := hlast x hx
    have e2 : (V0 ++ X)[(p + n + 1).toNat]? = some x := by
      rw [List.getElem?_append_left (by omega)]
      rw [List.getLast?_eq_getElem?] at hx
      rw [show (p + n + 1).toNat = V0.length - 1 by omega]
      exact hx
    have e3 : cutI ((V0 ++ X).map Prod.fst) (some (p + n)) (some (p + n + 2)) = cutI (V0.map Prod.fst) (some (p + n)) none := by
      rw [List.map_append, cutI_app _ _ (by omega) (by omega) (by omega), cutI_nat _ (by omega) (by omega) (by omega), cutI_end _ (by omega) (by omega)]
      exact List.take_of_length_le (by rw [List.length_drop]; omega)
    have e4 : cutI ((V0 ++ X).map Prod.fst) (some p) (some (p + n)) = cutI (V0.map Prod.fst) (some p) (some (p + n)) := by
      rw [List.map_append, cutI_app _ _ (by omega) (by omega) (by omega)]
    have eL : lawOn k (V0 ++ X) = if cutI (V0.map Prod.fst) (some (p + n)) none = sumS k (cutI (V0.map Prod.fst) (some p) (some (p + n))) ∧ r.head? = some 255 then some (cutI (V0.map Prod.fst) (some p) (some (p + n)), r.tail) else none := by
      unfold lawOn
      rw [e1]
      dsimp only
      rw [if_neg (by rw [List.length_append]; omega), e2]
      dsimp only
      rw [e3, e4, hxr]
    rw [eL]
    cases r with
    | nil =>
      rw [if_neg fun z => by cases z.2]
      rfl
    | cons b r =>
      have eg := growS_full (b := b) h.kind (by rw [h.nought]; omega) f1 f2 (by rw [h.content, ll]; exact hl)
      rw [h.content] at eg
      rw [runG_cons, eg]
      by_cases c : decide (b = 255) && rightS k (V0.map Prod.fst) p (p + n)
      · rw [if_pos c, if_pos c]
        have c := c
        rw [Bool.and_eq_true] at c
        have c1 : b = 255 := of_decide_eq_true c.1
        have c2 : cutI (V0.map Prod.fst) (some (p + n)) none = sumS k (cutI (V0.map Prod.fst) (some p) (some (p + n))) := of_decide_eq_true c.2
        rw [if_pos ⟨c2, by rw [c1]; rfl⟩]
        show some _ = some _
        unfold outG outL GSt.bod
        rw [f1, f2]
        dsimp only
        rw [h.at_, h.kind]
        rfl
      · rw [if_neg c, if_neg fun y => c ?_]
        · rfl
        · have y2 : b = 255 := by have := y.2; injection this
          rw [Bool.and_eq_true]
          exact ⟨decide_eq_true y2, decide_eq_true y.1⟩
theorem U_cons (b : Int) (r : List Int) (z : Int) : U (b :: r) z = if b = 0 ∧ z = 1 then (match r with | [] => [] | c :: r' => if c = 2 then (b, r') :: U r' 0 else []) else (b, r) :: U r (if b = 0 then 1 else 0) := by
  cases r with
  | nil => rfl
  | cons c r => rfl
theorem map_snoc (V0 : List (Int × List Int)) (x : Int × List Int) : (V0 ++ [x]).map Prod.fst = V0.map Prod.fst ++ [x.1] := by rw [List.map_append]; rfl
theorem last_snoc (V0 : List (Int × List Int)) (x : Int × List Int) : ∀ y, (V0 ++ [x]).getLast? = some y → y.2 = x.2 := by
  intro y h
  rw [List.getLast?_concat] at h
  cases h
  rfl
/-- one more byte in a box that is not whole -/
theorem Stt.step {k a z b : Int} {ct : List Int} {st : GSt} (h : Stt k a ct z st) (hz : z = 0 ∨ z = 1) (nf : ∀ q, st.behind = some q → (ct.length : Int) ≠ q + 2) (b0 : 0 ≤ b) (b1 : b ≤ 255) :
    ((growS st b).1 = false ∧ ∀ X, BadL (ct ++ [b] ++ X)) ∨ ((growS st b).1 = true ∧ (growS st b).2.closed = false ∧ Stt k a (ct ++ [b]) (if b = 0 then z + 1 else 0) (growS st b).2) := by
  have n2 : st.noughts ≠ 2 := by rw [h.nought]; omega
  rcases h.ph with ⟨f1, f2, hm, all⟩ | ⟨n, p, f1, f2, hn, n0, n1, hl⟩
  · rw [growS_meas h.kind n2 ⟨f1, f2⟩, h.content]
    rcases meas_cases hm all b0 b1 with ⟨e, l3, b8⟩ | ⟨n, p, hn, n0, n1, hl, e⟩ | ⟨e, bad⟩
    · rw [e]
      refine .inr ⟨rfl, h.open_, h.at_, h.kind, ?_, ?_, h.open_, .inl ⟨f1, f2, l3, fun x m => ?_⟩⟩
      · show st.content ++ [b] = _
        rw [h.content]
      · show (if b = 0 then st.noughts + 1 else 0) = _
        rw [h.nought]
      · rcases List.mem_append.mp m with m | m
        · exact all x m
        · rw [List.mem_singleton.mp m]; exact ⟨b8, b1⟩
    · rw [e]
      refine .inr ⟨rfl, h.open_, h.at_, h.kind, ?_, ?_, h.open_, .inr ⟨n, p, rfl, rfl, hn, n0, n1, hl⟩⟩
      · show st.content ++ [b] = _
        rw [h.content]
      · show (if b = 0 then st.noughts + 1 else 0) = _
        rw [h.nought]
    · rw [e]
      exact .inl ⟨rfl, bad⟩
  · have := nf _ f2
    rw [growS_more h.kind n2 f1 f2 (by rw [h.content]; omega)]
    refine .inr ⟨rfl, h.open_, h.at_, h.kind, ?_, ?_, h.open_, .inr ⟨n, p, f1, f2, (numA_app [b] hn).1, n0, n1, ?_⟩⟩
    · show st.content ++ [b] = _
      rw [h.content]
    · show (if b = 0 then st.noughts + 1 else 0) = _
      rw [h.nought]
    · rw [List.length_append, List.length_singleton]
      omega
theorem runG_law (k a : Int) : ∀ (N : Nat) (r : List Int) (z : Int) (st : GSt) (V0 : List (Int × List Int)), r.length < N → Stt k a (V0.map Prod.fst) z st → (z = 0 ∨ z = 1) → (∀ x, V0.getLast? = some x → x.2 = r) → Byts r → (runG st r).map outG = (lawOn k (V0 ++ U r z)).map (outL a k) := by
  intro N
  induction N with
  | zero => intro r z st V0 hN; omega
  | succ N ih =>
    intro r z st V0 hN h hz hlast hb
    by_cases nf : ∀ q, st.behind = some q → (V0.length : Int) ≠ q + 2
    · have short := lawOn_short h nf
      cases r with
      | nil =>
        show none = Option.map _ (lawOn k (V0 ++ []))
        rw [List.append_nil, short]
        rfl
      | cons b r =>
        rw [List.length_cons] at hN
        have hb3 := hb b List.mem_cons_self
        have hb4 : Byts r := fun y m => hb y (List.mem_cons_of_mem _ m)
        rw [runG_cons, U_cons]
        rcases h.step hz (by rw [List.length_map]; exact nf) hb3.1 hb3.2 with ⟨g, bad⟩ | ⟨g, cl, s1⟩
        · rw [g, if_neg Bool.false_ne_true]
          have dead : ∀ (x : List Int) (X : List (Int × List Int)), lawOn k (V0 ++ (b, x) :: X) = none := fun x X => lawOn_bad (by
            rw [List.map_append, List.map_cons]
            have := bad (X.map Prod.fst)
            rw [List.append_assoc] at this
            exact this)
          split
          · cases r with
            | nil => rw [List.append_nil, short]; rfl
            | cons c r =>
              dsimp only
              split
              · rw [dead]; rfl
              · rw [List.append_nil, short]; rfl
          · rw [dead]; rfl
        · rw [g, if_pos rfl, cl, if_neg Bool.false_ne_true]
          by_cases c : b = 0 ∧ z = 1
          · obtain ⟨rfl, rfl⟩ := c
            rw [if_pos ⟨rfl, rfl⟩]
            have s1n : (growS st 0).2.noughts = 2 := s1.nought
            cases r with
            | nil => rw [List.append_nil, short]; rfl
            | cons c r =>
              rw [runG_cons, growS_two s1.kind s1n]
              dsimp only
              by_cases c2 : c = 2
              · rw [decide_eq_true c2, if_pos rfl, if_pos c2]
                rw [if_neg (by rw [cl]; exact Bool.false_ne_true)]
                have := ih r 0 { (growS st 0).2 with noughts := 0 } (V0 ++ [((0 : Int), r)]) (by rw [List.length_cons] at hN; omega) (by
                  rw [map_snoc]
                  exact ⟨s1.at_, s1.kind, s1.content, rfl, s1.open_, s1.ph⟩) (.inl rfl) (last_snoc _ _) (fun y m => hb4 y (List.mem_cons_of_mem _ m))
                rw [this, List.append_assoc]
                rfl
              · rw [decide_eq_false c2, if_neg Bool.false_ne_true, if_neg c2, List.append_nil, short]
                rfl
          · rw [if_neg c]
            have ez : (if b = 0 then z + 1 else 0 : Int) = if b = 0 then 1 else 0 := by split <;> omega
            rw [ez] at s1
            have := ih r (if b = 0 then 1 else 0) (growS st b).2 (V0 ++ [(b, r)]) (by omega) (by
              rw [map_snoc]
              exact s1) (by split <;> omega) (last_snoc _ _) hb4
            rw [this, List.append_assoc]
            rfl
    · obtain ⟨q, hq⟩ := Classical.not_forall.mp nf
      have hq2 := Classical.not_imp.mp hq
      exact run_full h hz hq2.1 (Classical.not_not.mp hq2.2) hlast _
/-- what stands at a row's begin, by the law -/
def boxL (l : List Int) : Option (Int × List Int × List Int) :=
  if l.take 3 = [0, 0, 1] then
    match l.drop 3 with
    | [] => none
    | k :: r => if 1 ≤ k ∧ k ≤ 9 then (lawOn k (U r 0)).map fun y => (k, y.1, y.2) else none
  else none
theorem stB_law {a : Int} {l : List Int} (hb : Byts l) : (stB a l).map boxD = ((boxL l).map fun y => D.tup [.int a, .int y.1, .lst (y.2.1.map D.int)]).toList := by
  unfold stB boxL
  by_cases c : l.take 3 = [0, 0, 1]
  · rw [if_pos c, if_pos c]
    have hb2 : Byts (l.drop 3) := fun y m => hb y (List.mem_of_mem_drop m)
    cases hr : l.drop 3 with
    | nil => rfl
    | cons k r =>
      rw [hr] at hb2
      dsimp only
      have eg : growS (GSt.init a) k = (decide (1 ≤ k) && decide (k ≤ 9), { GSt.init a with kind := some k }) := growS_none rfl
      have er : ownG (some (GSt.init a)) (k :: r) = ((runG (GSt.init a) (k :: r)).map Prod.fst).toList := rfl
      rw [er, runG_cons, eg]
      by_cases kk : 1 ≤ k ∧ k ≤ 9
      · have kb : (decide (1 ≤ k) && decide (k ≤ 9)) = true := by rw [decide_eq_true kk.1, decide_eq_true kk.2]; rfl
        rw [kb, if_pos rfl, if_pos kk]
        rw [if_neg (show ¬ ({ GSt.init a with kind := some k } : GSt).closed = true from Bool.false_ne_true)]
        have := runG_law k a (r.length + 1) r 0 { GSt.init a with kind := some k } [] (Nat.lt_succ_self _) ⟨rfl, rfl, rfl, rfl, rfl, .inl ⟨rfl, rfl, by decide, fun _ m => nomatch m⟩⟩ (.inl rfl) (fun _ z => nomatch z) fun y m => hb2 y (List.mem_cons_of_mem _ m)
        rw [List.nil_append] at this
        cases h1 : runG { GSt.init a with kind := some k } r with
        | none =>
          rw [h1] at this
          cases h2 : lawOn k (U r 0) with
          | none => rfl
          | some y => rw [h2] at this; cases this
        | some x =>
          rw [h1] at this
          cases h2 : lawOn k (U r 0) with
          | none => rw [h2] at this; cases this
          | some y =>
            rw [h2] at this
            have this : outG x = outL a k y := by injection this
            have i1 : x.1.at_ = a := congrArg Prod.fst this
            have i2 : x.1.kind = some k := congrArg (fun z => z.2.1) this
            have i3 : x.1.bod = y.1 := congrArg (fun z => z.2.2.1) this
            show [boxD x.1] = [D.tup [.int a, .int k, .lst (y.1.map D.int)]]
            unfold boxD
            rw [i1, i2, i3]
            rfl
      · rw [if_neg kk]
        have kb : (decide (1 ≤ k) && decide (k ≤ 9)) = false := by
          cases z : (decide (1 ≤ k) && decide (k ≤ 9)) with
          | false => rfl
          | true => rw [Bool.and_eq_true] at z; exact absurd ⟨of_decide_eq_true z.1, of_decide_eq_true z.2⟩ kk
        rw [kb, if_neg Bool.false_ne_true]
        rfl
  · rw [if_neg c, if_neg c]
    rfl
/-- all boxes of a row by the law, from a place on -/
def lawBx : Int → List Int → List D
  | _, [] => []
  | a, b :: r => ((boxL (b :: r)).map fun y => D.tup [.int a, .int y.1, .lst (y.2.1.map D.int)]).toList ++ lawBx (a + 1) r
theorem bx_law : ∀ (l : List Int) (a : Int), Byts l → (bx a l).map boxD = lawBx a l
  | [], _, _ => rfl
  | b :: r, a, h => by
    show (stB a (b :: r) ++ bx (a + 1) r).map boxD = _
    rw [List.map_append, stB_law h, bx_law r (a + 1) fun y m => h y (List.mem_cons_of_mem _ m)]
    rfl
theorem found_law {ns : List Int} (hb : Byts ns) (hl : ns.length ≤ 90000) : (runF 0 0 none ns).map boxD = lawBx 0 ns := by rw [runF_all hb hl, bx_law ns 0 hb]

section
variable {P : Program} {w : World} {K : PySem.W.Frag} {mg : Str → Option Value} {base : Heap}
/-! ### the law's own sum, stuffing, numbers, bytes -/
theorem wc_intB {K : PySem.W.Frag} {F : Fx} {ρ : En} {k : AV → En → Prop} {b : Bool} (hk : k (.dat (.int (if b then 1 else 0))) ρ) : WpC K F (fun xs H Q => (∃ i, xs = [V.int i] ∧ Q (.int i) H) ∨ ∃ k, xs = [.bl k] ∧ Q (.int (if k then 1 else 0)) H) [.dat (.bl b)] ρ k := fun as σ H G vs e r Q q => by
  cases r with
  | cons r1 r2 =>
    cases r2
    have : _ = V.bl b := Rep.blE r1
    subst this
    exact .inr ⟨b, rfl, q _ ρ _ as H G hk e .refl (Rep.int _)⟩
def wLSum : PW0 := fun xs cs post _ => ∃ (ns : List Int) (a : Int), xs = [.dat (.lst (ns.map D.int)), .dat (.int a)] ∧ cs = [] ∧ Byts ns ∧ 0 ≤ a ∧ a < 65521 ∧ post (.dat (.int (chkS ns a))) []
theorem ok_l_sum (T : Txt K mg) : FnOk P w K mg base CX0 1 T.a_l_sum T.d_l_sum ["_law_row", "_law_number"] (spG K wLSum) := by
  refine T.F_l_sum.ok sc_l_sum (fun vs H Q E h => spG_len h fun xs cs post exc ⟨a, b, e, _⟩ => by rw [e]; rfl) (fun cdv A outer s H vs Q E hr h => ⟨_, (pss_cons (ps_for PassesOwn.never rfl (pi_list (pv 0)) (pg_name (i := 2) sc_l_sum.nd rfl (Or.inl rfl))
        (pss_one (ps_set (i := 1) sc_l_sum.nd rfl (Or.inl rfl) (pe_op op_mod (pe_op op_add (pe_op op_mul (pv 1) pe_int) (pv 2)) pe_int))))
      (pss_one (ps_ret (pv 1)))), enter h fun F xs cs post hE hw => ?_⟩)
  obtain ⟨ns, a, rfl, rfl, hb, a0, a1, q⟩ := hw
  walk_at "D"
  refine loop_by (fun es ρ => ∃ (rest : List Int) (c : Int) (x : Option AV), es = rest.map D.int ∧ ρ = ⟨[some (.dat (.lst (ns.map D.int))), some (.dat (.int c)), x], []⟩ ∧ chkS rest c = chkS ns a ∧ 0 ≤ c ∧ c < 65521 ∧ Byts rest) ⟨ns, a, none, rfl, rfl, rfl, a0, a1, hb⟩ ?_ ?_
  · rintro ρ ⟨rest, c, x, e1, rfl, e2, _, _, _⟩
    have e3 : rest = [] := by cases rest with | nil => rfl | cons => cases e1
    subst e3
    have e2 : c = chkS ns a := e2
    subst e2
    refine ⟨.dat _, ?_⟩
    walk_at "D"
    exact fin_dat rfl q
  · rintro d es ρ ⟨rest, c, x, e1, rfl, e2, c0, c1, br⟩
    cases rest with
    | nil => cases e1
    | cons b rest =>
      obtain ⟨rfl, rfl⟩ := List.cons.inj e1
      have hb := br b List.mem_cons_self
      refine ⟨.dat _, ?_⟩
      walk_at "D"
      refine wr_Ii (.inl ⟨by omega, by omega⟩) ?_
      walk_at "D"
      refine wr_Ii (by decide) ?_
      walk_at "D"
      exact now ⟨rest, _, _, rfl, rfl, e2, Int.emod_nonneg _ (by decide), Int.emod_lt_of_pos _ (by decide), fun y m => br y (List.mem_cons_of_mem _ m)⟩
def stI : List Int → Int → List Int
  | [], _ => []
  | b :: r, z => if b = 0 ∧ z = 1 then b :: 2 :: stI r 0 else b :: stI r (if b = 0 then 1 else 0)
theorem stI_len : ∀ (l : List Int) (z : Int), (stI l z).length ≤ 2 * l.length
  | [], _ => Nat.le_refl _
  | b :: r, z => by
    unfold stI
    split
    · have := stI_len r 0
      simp only [List.length_cons]; omega
    · have := stI_len r (if b = 0 then 1 else 0)
      simp only [List.length_cons]; omega
theorem stI_byts : ∀ {l : List Int} (z : Int), Byts l → Byts (stI l z)
  | [], _, _ => fun _ m => nomatch m
  | b :: r, z, h => by
    have hb := h b List.mem_cons_self
    have hr : Byts r := fun y m => h y (List.mem_cons_of_mem _ m)
    unfold stI
    split
    · intro y m
      rcases List.mem_cons.mp m with rfl | m
      · exact hb
      rcases List.mem_cons.mp m with rfl | m
      · decide
      · exact stI_byts 0 hr y m
    · intro y m
      rcases List.mem_cons.mp m with rfl | m
      · exact hb
      · exact stI_byts _ hr y m
def wLStuffed : PW0 := fun xs cs post _ => ∃ ns : List Int, xs = [.dat (.lst (ns.map D.int))] ∧ cs = [] ∧ Byts ns ∧ ns.length ≤ 80000 ∧ post (.new ((stI ns 0).map D.int)) []
theorem ok_l_stuffed (T : Txt K mg) : FnOk P w K mg base CX0 1 T.a_l_stuffed T.d_l_stuffed ["_law_row"] (spG K wLStuffed) := by
  refine T.F_l_stuffed.ok sc_l_stuffed (fun vs H Q E h => spG_len h fun xs cs post exc ⟨a, e, _⟩ => by rw [e]; rfl) (fun cdv A outer s H vs Q E hr h => ⟨_, (pss_cons (ps_set (i := 1) sc_l_stuffed.nd rfl (Or.inl rfl) (pe_lst pa_nil))
      (pss_cons (ps_set (i := 2) sc_l_stuffed.nd rfl (Or.inl rfl) pe_int)
      (pss_cons (ps_for PassesOwn.never rfl (pi_list (pv 0)) (pg_name (i := 3) sc_l_stuffed.nd rfl (Or.inl rfl))
        (pss_cons (ps_expr (pe_bm PySem.F.plainAttrs_list PySem.F.slot_list_append PySem.F.type_list_append mt_append (pv 1) (pa_cons (pv 3) pa_nil)))
      (pss_cons (ps_set (i := 2) sc_l_stuffed.nd rfl (Or.inl rfl) (pe_op op_mul (pe_op op_add (pv 2) pe_int) (pe_callTy call_int1 (by rfl) T.m_int (by decide +kernel) (pa_cons (pe_cmpR op_eq (pv 3) pe_int (nomark _)) pa_nil))))
      (pss_one (ps_if (pt_cmpR op_eq (pv 2) pe_int (nomark _)) (pss_cons (ps_expr (pe_bm PySem.F.plainAttrs_list PySem.F.slot_list_append PySem.F.type_list_append mt_append (pv 1) (pa_cons pe_int pa_nil)))
      (pss_one (ps_set (i := 2) sc_l_stuffed.nd rfl (Or.inl rfl) pe_int))) pss_nil)))))
      (pss_one (ps_ret (pv 1)))))), enter h fun F xs cs post hE hw => ?_⟩)
  obtain ⟨ns, rfl, rfl, hb, hl, q⟩ := hw
  have sl := stI_len ns 0
  walk_at "D"
  refine loop_by (fun es ρ => ∃ (rest : List Int) (z : Int) (acc : List Int) (x : Option AV), es = rest.map D.int ∧ ρ = ⟨[some (.dat (.lst (ns.map D.int))), some (.cel 0), some (.dat (.int z)), x], [.lst (acc.map D.int)]⟩ ∧ acc ++ stI rest z = stI ns 0 ∧ (z = 0 ∨ z = 1)) ⟨ns, 0, [], none, rfl, rfl, rfl, .inl rfl⟩ ?_ ?_
  · rintro ρ ⟨rest, z, acc, x, e1, rfl, e2, _⟩
    have e3 : rest = [] := by cases rest with | nil => rfl | cons => cases e1
    subst e3
    have e2 : acc = stI ns 0 := by rw [← e2]; exact (List.append_nil _).symm
    subst e2
    refine ⟨.dat _, ?_⟩
    walk_at "D"
    exact ⟨_, .cel (Nat.zero_le _) rfl, rfl, q⟩
  · rintro d es ρ ⟨rest, z, acc, x, e1, rfl, e2, hz⟩
    cases rest with
    | nil => cases e1
    | cons b rest =>
      obtain ⟨rfl, rfl⟩ := List.cons.inj e1
      have al : acc.length ≤ 160000 := by
        have := congrArg List.length e2
        rw [List.length_append] at this
        omega
      have ma : ∀ c : Int, acc.map D.int ++ [D.int c] = (acc ++ [c]).map D.int := fun c => by rw [List.map_append]; rfl
      refine ⟨.dat _, ?_⟩
      walk_at "D"
      · rw [List.length_map]; omega
      walk_at "D"
      refine wc_intB ?_
      have ez : (z + 1) * (if eqS (D.int b) (D.int 0) = true then 1 else 0) = if b = 0 then z + 1 else 0 := by
        by_cases c : b = 0
        · rw [if_pos (show eqS (D.int b) (D.int 0) = true from decide_eq_true c), if_pos c, Int.mul_one]
        · rw [if_neg (by rw [show eqS (D.int b) (D.int 0) = false from decide_eq_false c]; exact Bool.false_ne_true), if_neg c, Int.mul_zero]
      walk_at "D"
      refine wr_Ii (.inl ⟨by omega, by omega⟩) ?_
      rw [ez]
      walk_at "D"
      refine ifC (fun c => ?_) (fun c => ?_)
      · have c : (if b = 0 then z + 1 else 0) = 2 := of_decide_eq_true c
        have cc : b = 0 ∧ z = 1 := by
          by_cases y : b = 0
          · rw [if_pos y] at c; exact ⟨y, by omega⟩
          · rw [if_neg y] at c; cases c
        have e2 : acc ++ (if b = 0 ∧ z = 1 then b :: 2 :: stI rest 0 else b :: stI rest (if b = 0 then 1 else 0)) = stI ns 0 := e2
        rw [if_pos cc] at e2
        walk_at "D"
        · rw [List.length_append, List.length_map, List.length_singleton]; omega
        walk_at "D"
        refine now ⟨rest, 0, acc ++ [b] ++ [2], some (.dat (.int b)), rfl, ?_, ?_, .inl rfl⟩
        · rw [List.map_append, List.map_append]
          rfl
        · rw [← e2, List.append_assoc, List.append_assoc]
          rfl
      · have c : ¬ (if b = 0 then z + 1 else 0) = 2 := of_decide_eq_false c
        have e2 : acc ++ (if b = 0 ∧ z = 1 then b :: 2 :: stI rest 0 else b :: stI rest (if b = 0 then 1 else 0)) = stI ns 0 := e2
        have ncc : ¬ (b = 0 ∧ z = 1) := fun y => c (by rw [if_pos y.1, y.2]; rfl)
        have e0 : (if b = 0 then z + 1 else 0) = if b = 0 then 1 else 0 := by split <;> omega
        rw [if_neg ncc] at e2
        rw [e0]
        walk_at "D"
        refine now ⟨rest, (if b = 0 then 1 else 0), acc ++ [b], some (.dat (.int b)), rfl, ?_, ?_, by split <;> omega⟩
        · rw [List.map_append]
          rfl
        · rw [← e2, List.append_assoc]
          rfl
def wLNumAt : PW0 := fun xs cs post _ => ∃ ns : List Int, xs = [.dat (.lst (ns.map D.int)), .dat (.int 0)] ∧ cs = [] ∧ Byts ns ∧ ns.length ≤ 100000 ∧ post (.dat (resD (numA ns 0))) []
theorem ok_l_number_at (T : Txt K mg) : FnOk P w K mg base CX0 1 T.a_l_number_at T.d_l_number_at ["_law_row", "_law_at"] (spG K wLNumAt) := by
  refine T.F_l_number_at.ok sc_l_number_at (fun vs H Q E h => spG_len h fun xs cs post exc ⟨a, e, _⟩ => by rw [e]; rfl) (fun cdv A outer s H vs Q E hr h => ⟨_, (pss_cons (ps_if (PW.pt (pw_or (pt_cmpR op_ge (pv 1) (pe_callB call_len_seq (by rfl) T.m_len (by decide +kernel) (pa_cons (pv 0) pa_nil)) (nomark _)) (pw_or1 (pt_cmpR op_eq (pe_ix ix_list (pv 0) (pv 1) (fun _ _ => rfl)) pe_int (nomark _))))) (pss_one (ps_ret pe_non)) pss_nil)
      (pss_cons (ps_set (i := 2) sc_l_number_at.nd rfl (Or.inl rfl) pe_int)
      (pss_cons (ps_for PassesOwn.never rfl (pi_range2 (by rfl) T.m_range (pa_cons (pv 1) (pa_cons (pe_callB call_len_seq (by rfl) T.m_len (by decide +kernel) (pa_cons (pv 0) pa_nil)) pa_nil))) (pg_name (i := 3) sc_l_number_at.nd rfl (Or.inl rfl))
        (pss_cons (ps_set (i := 2) sc_l_number_at.nd rfl (Or.inl rfl) (pe_op op_add (pe_op op_mul (pv 2) pe_int) (pe_op op_mod (pe_ix ix_list (pv 0) (pv 3) (fun _ _ => rfl)) pe_int)))
      (pss_cons (ps_if (pt_cmpR op_gt (pv 2) (pe_op op_pow pe_int pe_int) (nomark _)) (pss_one (ps_ret pe_non)) pss_nil)
      (pss_one (ps_if (pt_cmpR op_lt (pe_ix ix_list (pv 0) (pv 3) (fun _ _ => rfl)) pe_int (nomark _)) (pss_one (ps_ret (pe_tup (pa_cons (pv 2) (pa_cons (pe_op op_add (pv 3) pe_int) pa_nil))))) pss_nil)))))
      (pss_one (ps_ret pe_non))))), enter h fun F xs cs post hE hw => ?_⟩)
  obtain ⟨ns, rfl, rfl, hb, hl0, q⟩ := hw
  cases ns with
  | nil =>
    walk_at "D"
    exact fin_dat rfl q
  | cons f0 r0 =>
    have ll : ((f0 :: r0).map D.int).length = (f0 :: r0).length := List.length_map ..
    have lp : 0 < (f0 :: r0).length := Nat.zero_lt_succ _
    have at0 : atI ((f0 :: r0).map D.int) 0 = some (D.int f0) := at_int (ns := f0 :: r0) (j := 0) lp rfl
    refine ws_seq ?_
    refine ws_if ?_
    refine WpT.imp (kb := fun t ρ1 => t = decide (f0 = 128) ∧ ρ1 = ⟨[some (.dat (.lst ((f0 :: r0).map D.int))), some (.dat (.int 0)), none, none], []⟩) ?_ ?_
    · walk_at "D"
      refine wr_ixL (.dat _) at0 ?_
      walk_at "D"
      exact ⟨rfl, rfl⟩
    · rintro t ρ1 ⟨rfl, rfl⟩
      refine ifC (fun c => ?_) (fun c => ?_)
      · have e : numA (f0 :: r0) 0 = none := if_pos (of_decide_eq_true c)
        rw [e] at q
        walk_at "D"
        exact fin_dat rfl q
      · have e : numA (f0 :: r0) 0 = goN (f0 :: r0) 0 0 := if_neg (of_decide_eq_false c)
        rw [e] at q
        generalize f0 :: r0 = ns at *
        walk_at "D"
        rw [List.length_map]
        rw [show ((ns.length : Int) - 0).toNat = ns.length by omega]
        refine ⟨⟨by omega, by omega, by omega, by omega⟩, ?_⟩
        refine loop_rng (fun i ρ => ∃ (a : Int) (x : Option AV), ρ = ⟨[some (.dat (.lst (ns.map D.int))), some (.dat (.int 0)), some (.dat (.int a)), x], []⟩ ∧ post (.dat (resD (goN (ns.drop i) a (i : Int)))) []) ⟨0, _, rfl, q⟩ ?_ ?_
        · rintro ρ ⟨a, x, rfl, q⟩
          refine ⟨trivial, ?_⟩
          rw [List.drop_of_length_le (Nat.le_refl _)] at q
          walk_at "D"
          exact fin_dat rfl q
        · rintro i ρ hi ⟨a, x, rfl, q⟩
          refine ⟨trivial, ?_⟩
          have hd := drop_at (ns := ns) (j := i) hi
          have hat : atI (ns.map D.int) (0 + (i : Int)) = some (D.int ns[i]) := at_int hi (by omega)
          generalize hf : ns[i] = f at *
          have fb : 0 ≤ f ∧ f ≤ 255 := hb f (by rw [← hf]; exact List.getElem_mem hi)
          rw [hd, goN] at q
          walk_at "D"
          refine wr_Ii (.inr (by decide)) ?_
          walk_at "D"
          refine wr_ixL (.dat _) hat ?_
          walk_at "D"
          refine wr_Ii (by decide) ?_
          walk_at "D"
          refine wr_Ii ⟨by decide, by decide, by decide⟩ ?_
          rw [show (10 : Int) ^ (60 : Int).toNat = 1000000000000000000000000000000000000000000000000000000000000 by decide]
          walk_at "D"
          refine ifC (fun c => ?_) (fun c => ?_)
          · rw [if_pos (of_decide_eq_true c)] at q
            walk_at "D"
            exact fin_dat rfl q
          · rw [if_neg (of_decide_eq_false c)] at q
            walk_at "D"
            refine wr_ixL (.dat _) hat ?_
            walk_at "D"
            refine ifC (fun c => ?_) (fun c => ?_)
            · rw [if_pos (of_decide_eq_true c)] at q
              walk_at "D"
              rw [show (0 : Int) + (i : Int) + 1 = (i : Int) + 1 by omega]
              exact fin_dat rfl q
            · rw [if_neg (of_decide_eq_false c)] at q
              walk_at "D"
              exact now ⟨_, _, rfl, q⟩
end

section
variable {P : Program} {w : World} {K : PySem.W.Frag} {mg : Str → Option Value} {base : Heap}
/-! ### the law's own figures -/
def wCell : PW0 := fun xs cs post _ => ∃ (ns : List Int) (k : Int), xs = [.dat (.scr (ns.map D.int)), .dat (.int k)] ∧ cs = [] ∧ 0 ≤ k ∧ ∀ n, post (.dat (.int n)) []
theorem ok_l_cell_at (T : Txt K mg) : FnOk P w K mg base CX0 1 T.a_l_cell_at T.d_l_cell_at ["_law_script", "_law_k"] (spG K wCell) := by
  refine T.F_l_cell_at.ok sc_l_cell_at (fun vs H Q E h => spG_len h fun xs cs post exc ⟨a, b, e, _⟩ => by rw [e]; rfl) (fun cdv A outer s H vs Q E hr h => ⟨_, (pss_cons (ps_if (pt_cmpR op_lt (pv 1) (pe_callB call_len_seq (by rfl) T.m_len (by decide +kernel) (pa_cons (pv 0) pa_nil)) (nomark _)) (pss_one (ps_ret (pe_ix ix_list (pv 0) (pv 1) (fun _ _ => rfl)))) pss_nil)
      (pss_one (ps_ret pe_int))), enter h fun F xs cs post hE hw => ?_⟩)
  obtain ⟨ns, k, rfl, rfl, k0, q⟩ := hw
  walk_at "D"
  refine ifC (fun c => ?_) (fun c => ?_)
  · have c := of_decide_eq_true c
    rw [List.length_map] at c
    walk_at "D"
    have hl : k.toNat < ns.length := by omega
    have ha : atI (ns.map D.int) k = some (D.int ns[k.toNat]) := by
      have e : ((k.toNat : Nat) : Int) = k := by omega
      have := atI_nat (xs := ns.map D.int) (j := k.toNat) (v := D.int ns[k.toNat]) (by rw [List.getElem?_map, List.getElem?_eq_getElem hl]; rfl)
      rw [e] at this
      exact this
    refine wr_ixL (.scr _) ha ?_
    exact fin_dat rfl (q _)
  · walk_at "D"
    exact fin_dat rfl (q _)
theorem fig_short (n : Nat) (h : (n : Int) ≤ 10 ^ 60) : (figN n).length ≤ 31 := by
  rw [fig_len]
  have : (tlN (n / 128)).length ≤ 30 := tlN_len 30 _ (by
    have : n < 10 ^ 60 + 1 := by omega
    have : (10 : Nat) ^ 60 + 1 < 128 ^ 30 := by decide
    omega)
  omega
def wFig : PW0 := fun xs cs post _ => ∃ n : Nat, xs = [.dat (.int n)] ∧ cs = [] ∧ (n : Int) ≤ 10 ^ 60 ∧ post (.new ((figN n).map D.int)) []
theorem ok_l_figures (T : Txt K mg) : FnOk P w K mg base CX0 1 T.a_l_figures T.d_l_figures ["_law_number"] (spG K wFig) := by
  refine T.F_l_figures.ok sc_l_figures (fun vs H Q E h => spG_len h fun xs cs post exc ⟨a, e, _⟩ => by rw [e]; rfl) (fun cdv A outer s H vs Q E hr h => ⟨_, (pss_cons (ps_set (i := 1) sc_l_figures.nd rfl (Or.inl rfl) (pe_lst (pa_cons (pe_op op_mod (pv 0) pe_int) pa_nil)))
      (pss_cons (ps_while PassesOwn.never (pt_cmpR op_ge (pv 0) pe_int (nomark _)) (pss_cons (ps_set (i := 0) sc_l_figures.nd rfl (Or.inl rfl) (pe_op op_fdiv (pv 0) pe_int))
      (pss_one (ps_set (i := 1) sc_l_figures.nd rfl (Or.inl rfl) (pe_op op_catF (pe_lst (pa_cons (pe_op op_add pe_int (pe_op op_mod (pv 0) pe_int)) pa_nil)) (pv 1))))))
      (pss_one (ps_ret (pv 1))))), enter h fun F xs cs post hE hw => ?_⟩)
  obtain ⟨n, rfl, rfl, hn, q⟩ := hw
  have hs := fig_short n hn
  walk_at "D"
  refine wr_Ii (by decide) ?_
  walk_at "D"
  rw [show ((n : Int) % 128) = ((n % 128 : Nat) : Int) by omega]
  refine ws_while (fun m ρ => ∃ (ds : List Int) (cs : List Cell) (j : Nat), ρ = ⟨[some (.dat (.int (m : Int))), some (.cel j)], cs⟩ ∧ cs[j]? = some (.lst (ds.map D.int)) ∧ (tlN (m / 128)).reverse ++ ds = figN n) n ⟨[((n % 128 : Nat) : Int)], _, 0, rfl, rfl, rfl⟩ ?_
  rintro m ρ ⟨ds, cs, j, rfl, hc, hd⟩
  walk_at "D"
  refine ifC (fun c => ?_) (fun c => ?_)
  · have c := of_decide_eq_true c
    have m0 : m / 128 ≠ 0 := by omega
    rw [tlN_s m0, List.reverse_cons, List.append_assoc] at hd
    have hl : ds.length ≤ 31 := by
      have := congrArg List.length hd
      rw [List.length_append, List.length_append] at this
      omega
    walk_at "D"
    refine wr_Ii ⟨by decide, by decide⟩ ?_
    walk_at "D"
    refine wr_Ii (by decide) ?_
    walk_at "D"
    walk_at "nrm"
    have hj : j < cs.length := (List.getElem?_eq_some_iff.mp hc).1
    refine wr_cat (ds := [.int (128 + (m : Int) / 128 % 128)]) (es := ds.map D.int) (.cel (by simp)) (.cel (by rw [List.getElem?_append_left hj]; exact hc)) (by rw [List.length_map]; simp only [List.length]; omega) ?_
    walk_at "D"
    have e1 : ((m : Int) / 128) = ((m / 128 : Nat) : Int) := by omega
    have e2 : (128 + ((m / 128 : Nat) : Int) % 128) = ((128 + m / 128 % 128 : Nat) : Int) := by omega
    rw [e1, e2]
    refine ⟨m / 128, by omega, ((128 + m / 128 % 128 : Nat) : Int) :: ds, (cs ++ [Cell.lst [.int ((128 + m / 128 % 128 : Nat) : Int)]]) ++ [Cell.lst (.int ((128 + m / 128 % 128 : Nat) : Int) :: ds.map D.int)], (cs ++ [Cell.lst [.int ((128 + m / 128 % 128 : Nat) : Int)]]).length, rfl, ?_, hd⟩
    rw [List.getElem?_concat_length]
    rfl
  · have c := of_decide_eq_false c
    rw [show m / 128 = 0 by omega, tlN_0] at hd
    have hd : ds = figN n := hd
    subst hd
    walk_at "D"
    exact ⟨_, .cel (Nat.zero_le _) hc, rfl, q⟩
theorem wsp_fig {F : Fx} {ρ : En} {k : AV → En → Prop} {E : L2.St → XK} {n : Nat} {x : AV} (hx : x = .dat (.int n)) (hn : (n : Int) ≤ 10 ^ 60) (hk : k (.cel ρ.ce.length) (ρ.add ((figN n).map D.int))) : WpSp K F (spG K wFig) E [x] ρ k := by
  subst hx
  exact wspE (.dat .nil) ⟨n, rfl, rfl, hn, rfl, hk⟩
/-! ### the law's own bytes and boxes -/
def wLBytes : PW0 := fun xs cs post _ => ∃ m : Int, xs = [.cel 0, .dat (.int m)] ∧ cs = [.drw] ∧ 0 ≤ m ∧ m ≤ 900 ∧ ∀ ns : List Int, Byts ns → (ns.length : Int) = m → post (.new (ns.map D.int)) [.drw]
theorem ok_l_bytes (T : Txt K mg) : FnOk P w K mg base CX0 2 T.a_l_bytes T.d_l_bytes ["_law_state", "_law_many"] (spG K wLBytes) := by
  refine T.F_l_bytes.ok sc_l_bytes (fun vs H Q E h => spG_len h fun xs cs post exc ⟨a, e, _⟩ => by rw [e]; rfl) (fun cdv A outer s H vs Q E hr h => ⟨_, (pss_cons (ps_set (i := 2) sc_l_bytes.nd rfl (Or.inl rfl) (pe_call (ok_l_digit T) (hr.mono (by decide)) (by rfl) T.g_l_digit T.F_l_digit.kp T.b_l_digit .nil pass0 (pa_cons (pv 0) (pa_cons pe_int pa_nil))))
      (pss_cons (ps_set (i := 3) sc_l_bytes.nd rfl (Or.inl rfl) (pe_lst pa_nil))
      (pss_cons (ps_for PassesOwn.never rfl (pi_range1 (by rfl) T.m_range (pa_cons (pv 1) pa_nil)) (pg_name (i := 4) sc_l_bytes.nd rfl (Or.inl rfl))
        (pss_cons (ps_set (i := 5) sc_l_bytes.nd rfl (Or.inl rfl) (pe_call (ok_l_digit T) (hr.mono (by decide)) (by rfl) T.g_l_digit T.F_l_digit.kp T.b_l_digit .nil pass0 (pa_cons (pv 0) (pa_cons pe_int pa_nil))))
      (pss_one (ps_expr (pe_bm PySem.F.plainAttrs_list PySem.F.slot_list_append PySem.F.type_list_append mt_append (pv 3) (pa_cons (pe_ix ix_list (pe_lst (pa_cons (pv 5) (pa_cons (pe_op op_mod (pv 5) pe_int) (pa_cons (pe_ix ix_list (pe_lst (pa_cons pe_int (pa_cons pe_int (pa_cons pe_int (pa_cons pe_int (pa_cons pe_int (pa_cons (pv 5) pa_nil))))))) (pe_op op_mod (pv 5) pe_int) (fun _ _ => rfl)) pa_nil)))) (pv 2) (fun _ _ => rfl)) pa_nil))))))
      (pss_one (ps_ret (pv 3)))))), enter h fun F xs cs post hE hw => ?_⟩)
  obtain ⟨m, rfl, rfl, m0, m1, q⟩ := hw
  walk_at "D"
  refine wsp_digit rfl (by decide) (by decide) fun p p0 p1 => ?_
  walk_at "D"
  refine ⟨by omega, ?_⟩
  refine loop_rng (fun i ρ => ∃ (acc : List Int) (x y : Option AV), ρ = ⟨[some (.cel 0), some (.dat (.int m)), some (.dat (.int p)), some (.cel 1), x, y], [.drw, .lst (acc.map D.int)]⟩ ∧ Byts acc ∧ acc.length = i) ⟨[], _, _, rfl, (fun _ m => nomatch m), rfl⟩ ?_ ?_
  · rintro ρ ⟨acc, x, y, rfl, hb, hl⟩
    refine ⟨trivial, ?_⟩
    walk_at "D"
    exact ⟨_, .cel (j := 1) (Nat.le_of_ble_eq_true rfl) rfl, rfl, q acc hb (by omega)⟩
  · rintro i ρ hi ⟨acc, x, y, rfl, hb, hl⟩
    refine ⟨trivial, ?_⟩
    walk_at "D"
    refine wsp_digit rfl (by decide) (by decide) fun b b0 b1 => ?_
    walk_at "D"
    refine wr_Ii (by decide) ?_
    walk_at "D"
    refine wr_Ii (by decide) ?_
    walk_at "D"
    refine wr_ixA (by walk_at "il") (Int.emod_nonneg _ (by decide)) (by show b % 6 < ((6 : Nat) : Int); omega) fun d1 h1 => ?_
    obtain ⟨c1, rfl, c10, c11⟩ : ∃ c : Int, d1 = .int c ∧ 0 ≤ c ∧ c ≤ 255 := by
      simp only [List.mem_cons, List.mem_append, List.not_mem_nil, or_false] at h1
      rcases h1 with rfl | rfl | rfl | rfl | rfl | rfl
      all_goals exact ⟨_, rfl, by omega, by omega⟩
    walk_at "D"
    refine wr_ixA (by walk_at "il") p0 (by show p < ((3 : Nat) : Int); exact p1) fun d2 h2 => ?_
    obtain ⟨c2, rfl, c20, c21⟩ : ∃ c : Int, d2 = .int c ∧ 0 ≤ c ∧ c ≤ 255 := by
      simp only [List.mem_cons, List.mem_append, List.not_mem_nil, or_false] at h2
      rcases h2 with rfl | rfl | rfl
      all_goals exact ⟨_, rfl, by omega, by omega⟩
    walk_at "D"
    · rw [List.length_map]; omega
    walk_at "D"
    refine now ⟨acc ++ [c2], some (.dat (.int (0 + (i : Int)))), some (.dat (.int b)), ?_, hb.app c20 c21, by rw [List.length_append, hl]; rfl⟩
    rw [List.map_append]
    rfl
def boxedI (k : Int) (body : List Int) : List Int := [0, 0, 1, k] ++ stI (figN body.length ++ body ++ sumS k body) 0 ++ [255]
theorem sumS_byts (k : Int) (body : List Int) : Byts (sumS k body) := by
  have := chkS_lt (k :: body) (a := 1) (by decide)
  intro b m
  unfold sumS at m
  rcases List.mem_cons.mp m with rfl | m
  · omega
  · rw [List.mem_singleton.mp m]; omega
theorem Byts.cat {a b : List Int} (h : Byts a) (g : Byts b) : Byts (a ++ b) := fun y m => (List.mem_append.mp m).elim (h y) (g y)
theorem boxedI_byts {k : Int} {body : List Int} (k0 : 0 ≤ k) (k1 : k ≤ 255) (h : Byts body) : Byts (boxedI k body) := by
  refine Byts.cat (Byts.cat ?_ (stI_byts 0 (Byts.cat (Byts.cat (fig_byts _) h) (sumS_byts k body)))) ?_
  · intro y m
    simp only [List.mem_cons, List.not_mem_nil, or_false] at m
    omega
  · intro y m
    rw [List.mem_singleton.mp m]
    decide
def wLBoxed : PW0 := fun xs cs post _ => ∃ (k : Int) (ns : List Int), xs = [.dat (.int k), .dat (.lst (ns.map D.int))] ∧ cs = [] ∧ 0 ≤ k ∧ k ≤ 255 ∧ Byts ns ∧ ns.length ≤ 900 ∧ post (.new ((boxedI k ns).map D.int)) []
theorem ok_l_boxed (T : Txt K mg) : FnOk P w K mg base CX0 2 T.a_l_boxed T.d_l_boxed ["_law_kind", "_law_body"] (spG K wLBoxed) := by
  refine T.F_l_boxed.ok sc_l_boxed (fun vs H Q E h => spG_len h fun xs cs post exc ⟨a, b, e, _⟩ => by rw [e]; rfl) (fun cdv A outer s H vs Q E hr h => ⟨_, (pss_cons (ps_set (i := 2) sc_l_boxed.nd rfl (Or.inl rfl) (pe_op op_catF (pe_op op_catF (pe_call (ok_l_figures T) (hr.mono (by decide)) (by rfl) T.g_l_figures T.F_l_figures.kp T.b_l_figures .nil pass0 (pa_cons (pe_callB call_len_seq (by rfl) T.m_len (by decide +kernel) (pa_cons (pv 1) pa_nil)) pa_nil)) (pv 1)) (pe_callTy call_list_of (by rfl) T.m_list (by decide +kernel) (pa_cons (pe_callB call_divmod (by rfl) T.m_divmod (by decide +kernel) (pa_cons (pe_call (ok_l_sum T) (hr.mono (by decide)) (by rfl) T.g_l_sum T.F_l_sum.kp T.b_l_sum .nil pass0 (pa_cons (pe_op op_catF (pe_lst (pa_cons (pv 0) pa_nil)) (pv 1)) (pa_cons pe_int pa_nil))) (pa_cons pe_int pa_nil))) pa_nil))))
      (pss_one (ps_ret (pe_op op_catF (pe_op op_catF (pe_lst (pa_cons pe_int (pa_cons pe_int (pa_cons pe_int (pa_cons (pv 0) pa_nil))))) (pe_call (ok_l_stuffed T) (hr.mono (by decide)) (by rfl) T.g_l_stuffed T.F_l_stuffed.kp T.b_l_stuffed .nil pass0 (pa_cons (pv 2) pa_nil))) (pe_lst (pa_cons pe_int pa_nil)))))), enter h fun F xs cs post hE hw => ?_⟩)
  obtain ⟨k, ns, rfl, rfl, k0, k1, hb, hl, q⟩ := hw
  have lf := fig_short ns.length (by omega)
  walk_at "D"
  rw [List.length_map]
  refine wsp_fig rfl (by omega) ?_
  walk_at "D"
  refine wr_cat (ds := (figN ns.length).map D.int) (es := ns.map D.int) (.cel rfl) (.dat _) (by rw [List.length_map, List.length_map]; omega) ?_
  walk_at "D"
  refine wr_cat (ds := [.int k]) (es := ns.map D.int) (.cel rfl) (.dat _) (by rw [List.length_map]; simp only [List.length]; omega) ?_
  walk_at "D"
  walk_at "c"
  refine ⟨k :: ns, 1, rfl, rfl, fun y m => by
    rcases List.mem_cons.mp m with rfl | m
    · exact ⟨k0, k1⟩
    · exact hb y m, by decide, by decide, aft_hard rfl ?_⟩
  walk_at "D"
  refine wc_divmod ⟨by decide, by decide⟩ ?_
  walk_at "D"
  refine wr_cat (ds := (figN ns.length).map D.int ++ ns.map D.int) (es := (sumS k ns).map D.int) (.cel rfl) (.cel rfl) (by rw [List.length_append, List.length_map, List.length_map]; simp only [List.length, sumS, List.map]; omega) ?_
  have cl : (figN ns.length ++ ns ++ sumS k ns).length ≤ 1000 := by
    rw [List.length_append, List.length_append]
    simp only [List.length, sumS]
    omega
  have cb : Byts (figN ns.length ++ ns ++ sumS k ns) := Byts.cat (Byts.cat (fig_byts _) hb) (sumS_byts k ns)
  have ec : (figN ns.length).map D.int ++ ns.map D.int ++ (sumS k ns).map D.int = (figN ns.length ++ ns ++ sumS k ns).map D.int := by rw [List.map_append, List.map_append]
  rw [ec]
  unfold boxedI at q
  generalize figN ns.length ++ ns ++ sumS k ns = ct at cl cb q
  have sl := stI_len ct 0
  walk_at "D"
  walk_at "c"
  refine ⟨ct, rfl, rfl, cb, by omega, aft_hards (hards_int _) ?_⟩
  walk_at "D"
  refine wr_cat (ds := [.int 0, .int 0, .int 1, .int k]) (es := (stI ct 0).map D.int) (.cel rfl) (.cel rfl) (by rw [List.length_map]; simp only [List.length]; omega) ?_
  walk_at "D"
  refine wr_cat (ds := [.int 0, .int 0, .int 1, .int k] ++ (stI ct 0).map D.int) (es := [.int 255]) (.cel rfl) (.cel rfl) (by rw [List.length_append, List.length_map]; simp only [List.length]; omega) ?_
  refine ⟨_, .cel (Nat.zero_le _) rfl, rfl, ?_⟩
  rw [show [D.int 0, .int 0, .int 1, .int k] ++ (stI ct 0).map D.int ++ [.int 255] = ([0, 0, 1, k] ++ stI ct 0 ++ [255]).map D.int by rw [List.map_append, List.map_append]; rfl]
  exact q
def fsD (V : List (Int × List Int)) : List D := V.map fun x => D.int x.1
def plD (N : Nat) (V : List (Int × List Int)) : List D := V.map fun x => D.int ((N : Int) - (x.2.length : Int))
theorem fsD_snoc (V : List (Int × List Int)) (b : Int) (r : List Int) : fsD (V ++ [(b, r)]) = fsD V ++ [.int b] := by unfold fsD; rw [List.map_append]; rfl
theorem plD_snoc (N : Nat) (V : List (Int × List Int)) (b : Int) (r : List Int) : plD N (V ++ [(b, r)]) = plD N V ++ [.int ((N : Int) - (r.length : Int))] := by unfold plD; rw [List.map_append]; rfl
theorem cut_last (xs : List D) (d : D) : cutD (xs ++ [d]) none (some (-1)) = xs := by
  unfold cutD
  have e : HT.sIx (xs ++ [d]).length (xs ++ [d]).length (some (-1)) = xs.length := by
    show (if (-1 : Int) < 0 then (-1 + ((xs ++ [d]).length : Int)).toNat else min (-1 : Int).toNat (xs ++ [d]).length) = xs.length
    rw [if_pos (by decide), List.length_append, List.length_singleton]
    omega
  rw [e, HT.sIx_none, List.drop_zero, Nat.sub_zero, List.take_left]
theorem set_last (xs : List D) (d e : D) : (xs ++ [d]).set xs.length e = xs ++ [e] := by
  rw [List.set_append_right _ _ (Nat.le_refl _), Nat.sub_self]
  rfl
theorem ix_last (xs : List D) (d : D) : ixN (xs ++ [d]).length (-1) = some xs.length := by
  unfold ixN
  rw [List.length_append, List.length_singleton]
  simp
  omega
def tailU (b : Int) : List Int → List (Int × List Int)
  | [] => []
  | c :: r => if c = 2 then (b, r) :: U r 0 else []
theorem U_tail (b : Int) (r : List Int) (z : Int) : U (b :: r) z = if b = 0 ∧ z = 1 then tailU b r else (b, r) :: U r (if b = 0 then 1 else 0) := by
  rw [U_cons]
  cases r with
  | nil => rfl
  | cons c r => rfl
/-- what the law reads of a row: the bytes, and the places behind them -/
def wLContents : PW0 := fun xs cs post _ => ∃ (ns : List Int) (j : Nat), xs = [.dat (.lst (ns.map D.int)), .dat (.int j)] ∧ cs = [] ∧ Byts ns ∧ ns.length ≤ 80000 ∧ post (.dat (.tup [.lst (fsD (U (ns.drop j) 0)), .lst (plD ns.length (U (ns.drop j) 0))])) []
theorem ok_l_contents (T : Txt K mg) : FnOk P w K mg base CX0 1 T.a_l_contents T.d_l_contents ["_law_row", "_law_at"] (spG K wLContents) := by
  refine T.F_l_contents.ok sc_l_contents (fun vs H Q E h => spG_len h fun xs cs post exc ⟨a, b, e, _⟩ => by rw [e]; rfl) (fun cdv A outer s H vs Q E hr h => ⟨_, (pss_cons (ps_set (i := 2) sc_l_contents.nd rfl (Or.inl rfl) (pe_lst pa_nil))
      (pss_cons (ps_set (i := 3) sc_l_contents.nd rfl (Or.inl rfl) (pe_lst pa_nil))
      (pss_cons (ps_set (i := 4) sc_l_contents.nd rfl (Or.inl rfl) pe_int)
      (pss_cons (ps_while PassesOwn.never (pt_cmpR op_lt (pv 1) (pe_callB call_len_seq (by rfl) T.m_len (by decide +kernel) (pa_cons (pv 0) pa_nil)) (nomark _)) (pss_cons (ps_if (pt_cmpR op_lt (pv 4) pe_int (nomark _)) (pss_cons (ps_expr (pe_bm PySem.F.plainAttrs_list PySem.F.slot_list_append PySem.F.type_list_append mt_append (pv 2) (pa_cons (pe_ix ix_list (pv 0) (pv 1) (fun _ _ => rfl)) pa_nil)))
      (pss_cons (ps_expr (pe_bm PySem.F.plainAttrs_list PySem.F.slot_list_append PySem.F.type_list_append mt_append (pv 3) (pa_cons (pe_op op_add (pv 1) pe_int) pa_nil)))
      (pss_one (ps_set (i := 4) sc_l_contents.nd rfl (Or.inl rfl) (pe_op op_mul (pe_op op_add (pv 4) pe_int) (pe_callTy call_int1 (by rfl) T.m_int (by decide +kernel) (pa_cons (pe_cmpR op_eq (pe_ix ix_list (pv 0) (pv 1) (fun _ _ => rfl)) pe_int (nomark _)) pa_nil))))))) (pss_one (ps_if (pt_cmpR op_eq (pe_ix ix_list (pv 0) (pv 1) (fun _ _ => rfl)) pe_int (nomark _)) (pss_cons (ps_asg (pe_op op_add (pv 1) pe_int) (pg_sub (pv 3) (pe_un un_neg pe_int) set_list))
      (pss_one (ps_set (i := 4) sc_l_contents.nd rfl (Or.inl rfl) pe_int))) (pss_one (ps_ret (pe_tup (pa_cons (pe_slice sl_list (pv 2) po_none (po_some (pe_un un_neg pe_int))) (pa_cons (pe_slice sl_list (pv 3) po_none (po_some (pe_un un_neg pe_int))) pa_nil))))))))
      (pss_one (ps_set (i := 1) sc_l_contents.nd rfl (Or.inl rfl) (pe_op op_add (pv 1) pe_int)))))
      (pss_cons (ps_if (pt_cmpR op_eq (pv 4) pe_int (nomark _)) (pss_one (ps_ret (pe_tup (pa_cons (pe_slice sl_list (pv 2) po_none (po_some (pe_un un_neg pe_int))) (pa_cons (pe_slice sl_list (pv 3) po_none (po_some (pe_un un_neg pe_int))) pa_nil))))) pss_nil)
      (pss_one (ps_ret (pe_tup (pa_cons (pv 2) (pa_cons (pv 3) pa_nil)))))))))), enter h fun F xs cs post hE hw => ?_⟩)
  obtain ⟨ns, j0, rfl, rfl, hb, hl, q⟩ := hw
  walk_at "D"
  refine ws_while (fun m ρ => ∃ (i : Nat) (z : Int) (A1 A2 : List D), ρ = ⟨[some (.dat (.lst (ns.map D.int))), some (.dat (.int (i : Int))), some (.cel 0), some (.cel 1), some (.dat (.int z))], [.lst A1, .lst A2]⟩ ∧ m = ns.length - i ∧ A1.length ≤ 100000 ∧ (((z = 0 ∨ z = 1) ∧ ∃ V, A1 = fsD V ∧ A2 = plD ns.length V ∧ V.length + (ns.length - i) ≤ 80000 ∧ V ++ U (ns.drop i) z = U (ns.drop j0) 0) ∨ (z = 2 ∧ ∃ V b p, A1 = fsD V ++ [.int b] ∧ A2 = plD ns.length V ++ [.int p] ∧ V.length + 1 + (ns.length - i) ≤ 80000 ∧ V ++ tailU b (ns.drop i) = U (ns.drop j0) 0))) (ns.length - j0) ⟨j0, 0, [], [], rfl, rfl, Nat.zero_le _, .inl ⟨.inl rfl, [], rfl, rfl, by show 0 + _ ≤ _; omega, rfl⟩⟩ ?_
  rintro m ρ ⟨i, z, A1, A2, rfl, rfl, hA, hI⟩
  walk_at "D"
  rw [List.length_map]
  refine ifC (fun c => ?_) (fun c => ?_)
  · have hi : i < ns.length := by have := of_decide_eq_true c; omega
    have hd := drop_at (ns := ns) (j := i) hi
    have hat : atI (ns.map D.int) (i : Int) = some (D.int ns[i]) := at_int hi rfl
    generalize hf : ns[i] = b at *
    have eN : (ns.length : Int) - ((ns.drop (i + 1)).length : Int) = (i : Int) + 1 := by rw [List.length_drop]; omega
    rcases hI with ⟨hz, V, rfl, rfl, hV, hU⟩ | ⟨rfl, V, y, p, rfl, rfl, hV, hU⟩
    · have lV1 : (fsD V).length = V.length := List.length_map ..
      have lV2 : (plD ns.length V).length = V.length := List.length_map ..
      have ez : (z + 1) * (if eqS (D.int b) (D.int 0) = true then 1 else 0) = if b = 0 then z + 1 else 0 := by
        by_cases c : b = 0
        · rw [if_pos (show eqS (D.int b) (D.int 0) = true from decide_eq_true c), if_pos c, Int.mul_one]
        · rw [if_neg (by rw [show eqS (D.int b) (D.int 0) = false from decide_eq_false c]; exact Bool.false_ne_true), if_neg c, Int.mul_zero]
      walk_at "D"
      refine ifT (decide_eq_true (show z < 2 by omega)) ?_
      walk_at "D"
      refine wr_ixL (.dat _) hat ?_
      walk_at "D"
      · omega
      walk_at "D"
      · omega
      walk_at "D"
      refine wr_ixL (.dat _) hat ?_
      walk_at "D"
      refine wc_intB ?_
      walk_at "D"
      refine wr_Ii (.inl ⟨by omega, by omega⟩) ?_
      rw [ez]
      walk_at "D"
      refine ⟨ns.length - (i + 1), by omega, i + 1, (if b = 0 then z + 1 else 0), fsD V ++ [.int b], plD ns.length V ++ [.int ((i : Int) + 1)], rfl, rfl, by rw [List.length_append, List.length_singleton]; omega, ?_⟩
      rw [hd, U_tail] at hU
      by_cases cc : b = 0 ∧ z = 1
      · rw [if_pos cc] at hU
        exact .inr ⟨by rw [if_pos cc.1, cc.2]; rfl, V, b, _, rfl, rfl, by omega, hU⟩
      · rw [if_neg cc] at hU
        have e0 : (if b = 0 then z + 1 else 0 : Int) = if b = 0 then 1 else 0 := by split <;> omega
        rw [e0]
        refine .inl ⟨by split <;> omega, V ++ [(b, ns.drop (i + 1))], (fsD_snoc ..).symm, by rw [plD_snoc, eN], by rw [List.length_append, List.length_singleton]; omega, ?_⟩
        rw [List.append_assoc]
        exact hU
    · have lV2 : (plD ns.length V).length = V.length := List.length_map ..
      walk_at "D"
      refine wr_ixL (.dat _) hat ?_
      walk_at "D"
      rw [hd] at hU
      refine ifC (fun c2 => ?_) (fun c2 => ?_)
      · have c2 : b = 2 := of_decide_eq_true c2
        have hU : V ++ (if b = 2 then (y, ns.drop (i + 1)) :: U (ns.drop (i + 1)) 0 else []) = U (ns.drop j0) 0 := hU
        rw [if_pos c2] at hU
        walk_at "D"
        refine sub_in rfl rfl (by walk_at "fz") rfl (ix_last _ _) ?_
        rw [set_last]
        walk_at "D"
        refine ⟨ns.length - (i + 1), by omega, i + 1, 0, fsD V ++ [.int y], plD ns.length V ++ [.int ((i : Int) + 1)], rfl, rfl, hA, .inl ⟨.inl rfl, V ++ [(y, ns.drop (i + 1))], (fsD_snoc ..).symm, by rw [plD_snoc, eN], by rw [List.length_append, List.length_singleton]; omega, ?_⟩⟩
        rw [List.append_assoc]
        exact hU
      · have c2 : ¬ b = 2 := of_decide_eq_false c2
        have hU : V ++ (if b = 2 then (y, ns.drop (i + 1)) :: U (ns.drop (i + 1)) 0 else []) = U (ns.drop j0) 0 := hU
        rw [if_neg c2, List.append_nil] at hU
        rw [← hU] at q
        walk_at "D"
        rw [cut_last, cut_last]
        exact fin_dat rfl q
  · have hi : ns.length ≤ i := by have := of_decide_eq_false c; omega
    have hd : ns.drop i = [] := List.drop_of_length_le hi
    rw [hd] at hI
    rcases hI with ⟨hz, V, rfl, rfl, hV, hU⟩ | ⟨rfl, V, y, p, rfl, rfl, hV, hU⟩
    · have hU : V ++ [] = U (ns.drop j0) 0 := hU
      rw [List.append_nil] at hU
      rw [← hU] at q
      walk_at "D"
      refine ifF (decide_eq_false (show ¬ z = 2 by omega)) ?_
      walk_at "D"
      exact fin_dat rfl q
    · have hU : V ++ [] = U (ns.drop j0) 0 := hU
      rw [List.append_nil] at hU
      rw [← hU] at q
      walk_at "D"
      rw [cut_last, cut_last]
      exact fin_dat rfl q
end

section
variable {P : Program} {w : World} {K : PySem.W.Frag} {mg : Str → Option Value} {base : Heap}
/-! ### the law's own reading of a box -/
theorem fsD_map (V : List (Int × List Int)) : fsD V = (V.map Prod.fst).map D.int := by unfold fsD; rw [List.map_map]; rfl
theorem U_suf : ∀ (l : List Int) (z : Int) (x : Int × List Int), x ∈ U l z → x.1 ∈ l ∧ ∃ pre, pre ++ x.2 = l ∧ 0 < pre.length := by
  intro l
  induction hn : l.length using Nat.strongRecOn generalizing l with
  | _ n ih =>
    intro z x m
    cases l with
    | nil => cases m
    | cons b r =>
      rw [List.length_cons] at hn
      rw [U_tail] at m
      by_cases c : b = 0 ∧ z = 1
      · rw [if_pos c] at m
        cases r with
        | nil => cases m
        | cons y r =>
          have m : x ∈ (if y = 2 then (b, r) :: U r 0 else []) := m
          by_cases c2 : y = 2
          · rw [if_pos c2] at m
            rcases List.mem_cons.mp m with rfl | m
            · exact ⟨List.mem_cons_self, [b, y], rfl, Nat.zero_lt_succ _⟩
            · obtain ⟨h1, pre, h2, h3⟩ := ih r.length (by rw [List.length_cons] at hn; omega) r rfl 0 x m
              exact ⟨List.mem_cons_of_mem _ (List.mem_cons_of_mem _ h1), b :: y :: pre, by rw [← h2]; rfl, Nat.zero_lt_succ _⟩
          · rw [if_neg c2] at m; cases m
      · rw [if_neg c] at m
        rcases List.mem_cons.mp m with rfl | m
        · exact ⟨List.mem_cons_self, [b], rfl, Nat.zero_lt_succ _⟩
        · obtain ⟨h1, pre, h2, h3⟩ := ih r.length (by omega) r rfl _ x m
          exact ⟨List.mem_cons_of_mem _ h1, b :: pre, by rw [← h2]; rfl, Nat.zero_lt_succ _⟩
theorem U_len : ∀ (l : List Int) (z : Int), (U l z).length ≤ l.length := by
  intro l
  induction hn : l.length using Nat.strongRecOn generalizing l with
  | _ n ih =>
    intro z
    cases l with
    | nil => exact Nat.zero_le _
    | cons b r =>
      rw [List.length_cons] at hn
      rw [U_tail]
      split
      · cases r with
        | nil => exact Nat.zero_le _
        | cons y r =>
          rw [List.length_cons] at hn
          show (if y = 2 then (b, r) :: U r 0 else []).length ≤ _
          split
          · have := ih r.length (by omega) r rfl 0
            rw [List.length_cons]; omega
          · exact Nat.zero_le _
      · have := ih r.length (by omega) r rfl (if b = 0 then 1 else 0)
        rw [List.length_cons]; omega
theorem drop_suf {A s ns : List Int} (h : A ++ s = ns) : ns.drop (ns.length - s.length) = s := by
  subst h
  rw [List.length_append, Nat.add_sub_cancel]
  exact List.drop_left
def resBx (N : Nat) : Option (Int × List Int × List Int) → D
  | none => .non
  | some (k, body, rest) => .tup [.int k, .lst (body.map D.int), .int ((N : Int) - (rest.length : Int))]
theorem cutm (m : Nat) {ns : List Int} {j : Nat} (hj : j ≤ ns.length) : cutD (ns.map D.int) (some (j : Int)) (some ((j : Int) + (m : Int))) = ((ns.drop j).take m).map D.int := by
  rw [cut_int]
  congr 1
  unfold cutI
  rw [sIx_in (v := (j : Int)) (by omega) (by omega)]
  have e : HT.sIx ns.length ns.length (some ((j : Int) + (m : Int))) = min (j + m) ns.length := by
    show (if (j : Int) + (m : Int) < 0 then ((j : Int) + (m : Int) + (ns.length : Int)).toNat else min ((j : Int) + (m : Int)).toNat ns.length) = _
    rw [if_neg (by omega), show ((j : Int) + (m : Int)).toNat = j + m by omega]
  rw [e, show ((j : Int)).toNat = j by omega]
  by_cases c : j + m ≤ ns.length
  · rw [show min (j + m) ns.length - j = m by omega]
  · rw [List.take_of_length_le (by rw [List.length_drop]; omega), List.take_of_length_le (by rw [List.length_drop]; omega)]
theorem cut3 {ns : List Int} {j : Nat} (hj : j ≤ ns.length) : cutD (ns.map D.int) (some (j : Int)) (some ((j : Int) + 3)) = ((ns.drop j).take 3).map D.int := cutm 3 hj
theorem cut1 {ns : List Int} {j : Nat} (hj : j ≤ ns.length) : cutD (ns.map D.int) (some (j : Int)) (some ((j : Int) + 1)) = ((ns.drop j).take 1).map D.int := cutm 1 hj
def wLBoxAt : PW0 := fun xs cs post _ => ∃ (ns : List Int) (j : Nat), xs = [.dat (.lst (ns.map D.int)), .dat (.int j)] ∧ cs = [] ∧ Byts ns ∧ ns.length ≤ 80000 ∧ j ≤ ns.length ∧ post (.dat (resBx ns.length (boxL (ns.drop j)))) []
theorem ok_l_box_at (T : Txt K mg) : FnOk P w K mg base CX0 2 T.a_l_box_at T.d_l_box_at ["_law_row", "_law_at"] (spG K wLBoxAt) := by
  refine T.F_l_box_at.ok sc_l_box_at (fun vs H Q E h => spG_len h fun xs cs post exc ⟨a, b, e, _⟩ => by rw [e]; rfl) (fun cdv A outer s H vs Q E hr h => ⟨_, (pss_cons (ps_if (PW.pt (pw_or (pt_cmpR (op_neD hr.units) (pe_slice sl_list (pv 0) (po_some (pv 1)) (po_some (pe_op op_add (pv 1) pe_int))) (pe_lst (pa_cons pe_int (pa_cons pe_int (pa_cons pe_int pa_nil)))) (nomark _)) (pw_or (pt_cmpR op_lt (pe_callB call_len_seq (by rfl) T.m_len (by decide +kernel) (pa_cons (pv 0) pa_nil)) (pe_op op_add (pv 1) pe_int) (nomark _)) (pw_or1 (pt_not (pt_chain op_le op_le pe_int (pe_ix ix_list (pv 0) (pe_op op_add (pv 1) pe_int) (fun _ _ => rfl)) pe_int)))))) (pss_one (ps_ret pe_non)) pss_nil)
      (pss_cons (ps_asg (pe_call (ok_l_contents T) (hr.mono (by decide)) (by rfl) T.g_l_contents T.F_l_contents.kp T.b_l_contents .nil pass0 (pa_cons (pv 0) (pa_cons (pe_op op_add (pv 1) pe_int) pa_nil))) (pg_tup rfl (pgs_cons (pg_name (i := 2) sc_l_box_at.nd rfl (Or.inl rfl)) (pgs_cons (pg_name (i := 3) sc_l_box_at.nd rfl (Or.inl rfl)) pgs_nil))))
      (pss_cons (ps_set (i := 4) sc_l_box_at.nd rfl (Or.inl rfl) (pe_call (ok_l_number_at T) (hr.mono (by decide)) (by rfl) T.g_l_number_at T.F_l_number_at.kp T.b_l_number_at .nil pass0 (pa_cons (pv 2) (pa_cons pe_int pa_nil))))
      (pss_cons (ps_if (PW.pt (pw_or (pt_cmpR op_isN (pv 4) pe_non (nomark _)) (pw_or (pt_cmpR op_gt (pe_ix ix_tup (pv 4) pe_int (fun _ _ => rfl)) pe_int (nomark _)) (pw_or1 (pt_cmpR op_gt (pe_op op_add (pe_op op_add (pe_ix ix_tup (pv 4) pe_int (fun _ _ => rfl)) (pe_ix ix_tup (pv 4) pe_int (fun _ _ => rfl))) pe_int) (pe_callB call_len_seq (by rfl) T.m_len (by decide +kernel) (pa_cons (pv 2) pa_nil)) (nomark _)))))) (pss_one (ps_ret pe_non)) pss_nil)
      (pss_cons (ps_set (i := 5) sc_l_box_at.nd rfl (Or.inl rfl) (pe_op op_add (pe_op op_add (pe_ix ix_tup (pv 4) pe_int (fun _ _ => rfl)) (pe_ix ix_tup (pv 4) pe_int (fun _ _ => rfl))) pe_int))
      (pss_cons (ps_set (i := 6) sc_l_box_at.nd rfl (Or.inl rfl) (pe_slice sl_list (pv 2) (po_some (pe_ix ix_tup (pv 4) pe_int (fun _ _ => rfl))) (po_some (pe_op op_sub (pv 5) pe_int))))
      (pss_cons (ps_set (i := 7) sc_l_box_at.nd rfl (Or.inl rfl) (pe_ix ix_list (pv 3) (pe_op op_sub (pv 5) pe_int) (fun _ _ => rfl)))
      (pss_cons (ps_if (PW.pt (pw_or (pt_cmpR (op_neD hr.units) (pe_slice sl_list (pv 2) (po_some (pe_op op_sub (pv 5) pe_int)) (po_some (pv 5))) (pe_callTy call_list_of (by rfl) T.m_list (by decide +kernel) (pa_cons (pe_callB call_divmod (by rfl) T.m_divmod (by decide +kernel) (pa_cons (pe_call (ok_l_sum T) (hr.mono (by decide)) (by rfl) T.g_l_sum T.F_l_sum.kp T.b_l_sum .nil pass0 (pa_cons (pe_op op_catF (pe_lst (pa_cons (pe_ix ix_list (pv 0) (pe_op op_add (pv 1) pe_int) (fun _ _ => rfl)) pa_nil)) (pv 6)) (pa_cons pe_int pa_nil))) (pa_cons pe_int pa_nil))) pa_nil)) (nomark _)) (pw_or1 (pt_cmpR (op_neD hr.units) (pe_slice sl_list (pv 0) (po_some (pv 7)) (po_some (pe_op op_add (pv 7) pe_int))) (pe_lst (pa_cons pe_int pa_nil)) (nomark _))))) (pss_one (ps_ret pe_non)) pss_nil)
      (pss_one (ps_ret (pe_tup (pa_cons (pe_ix ix_list (pv 0) (pe_op op_add (pv 1) pe_int) (fun _ _ => rfl)) (pa_cons (pv 6) (pa_cons (pe_op op_add (pv 7) pe_int) pa_nil)))))))))))))), enter h fun F xs cs post hE hw => ?_⟩)
  obtain ⟨ns, j, rfl, rfl, hb, hl, hj, q⟩ := hw
  have ll : (ns.map D.int).length = ns.length := List.length_map ..
  have l3 : (ns.drop j).drop 3 = ns.drop (j + 3) := by rw [List.drop_drop]
  unfold boxL at q
  walk_at "D"
  rw [cut3 hj]
  refine wr_neD 1 (.cel rfl) (.cel rfl) (by rw [fine]; exact fines_intsG 0 _) (by rw [fine]; exact fines_intsG 0 [0, 0, 1]) (by decide) ?_
  rw [show eqD (D.lst (((ns.drop j).take 3).map D.int)) (D.lst [.int 0, .int 0, .int 1]) = decide ((ns.drop j).take 3 = [0, 0, 1]) from eqD_ints _ [0, 0, 1]]
  by_cases c1 : (ns.drop j).take 3 = [0, 0, 1]
  · rw [if_pos c1, l3] at q
    rw [decide_eq_true c1]
    walk_at "D"
    rw [ll]
    cases hr : ns.drop (j + 3) with
    | nil =>
      rw [hr] at q
      have : ns.length ≤ j + 3 := by
        have := congrArg List.length hr
        rw [List.length_drop] at this
        simp only [List.length] at this
        omega
      refine ifT (decide_eq_true (by omega)) ?_
      walk_at "D"
      exact fin_dat rfl q
    | cons k r =>
      rw [hr] at q
      dsimp only at q
      have hj4 : j + 3 < ns.length := by
        have := congrArg List.length hr
        rw [List.length_drop, List.length_cons] at this
        omega
      have hk : ns[j + 3] = k := by
        have := drop_at (ns := ns) (j := j + 3) hj4
        rw [hr] at this
        exact (List.cons.inj this).1.symm
      have hr4 : ns.drop (j + 4) = r := by
        have := drop_at (ns := ns) (j := j + 3) hj4
        rw [hr] at this
        exact (List.cons.inj this).2.symm
      have hat : atI (ns.map D.int) ((j : Int) + 3) = some (D.int k) := by rw [← hk]; exact at_int hj4 (by omega)
      refine ifF (decide_eq_false (by omega)) ?_
      walk_at "D"
      refine we_chain ?_
      walk_at "D"
      refine wr_ixL (.dat _) hat ?_
      walk_at "D"
      by_cases kk : 1 ≤ k ∧ k ≤ 9
      · rw [if_pos kk] at q
        refine ifT (decide_eq_true kk.1) ?_
        walk_at "D"
        rw [decide_eq_true kk.2]
        walk_at "D"
        walk_at "c"
        refine ⟨ns, j + 4, rfl, rfl, hb, hl, rfl, ?_⟩
        rw [hr4, fsD_map]
        have hbr : Byts r := fun y m => hb y (by rw [← hr4] at m; exact List.mem_of_mem_drop m)
        have lr : r.length ≤ ns.length := by rw [← hr4, List.length_drop]; omega
        have lV := U_len r 0
        have bV : Byts ((U r 0).map Prod.fst) := fun y m => by
          obtain ⟨x, hx, rfl⟩ := List.mem_map.mp m
          exact hbr _ (U_suf r 0 x hx).1
        have sV : ∀ x ∈ U r 0, ∃ pre, pre ++ x.2 = r ∧ 0 < pre.length := fun x hx => (U_suf r 0 x hx).2
        unfold lawOn at q
        generalize U r 0 = V at q lV bV sV
        have lF : (V.map Prod.fst).length = V.length := List.length_map ..
        have lD : ((V.map Prod.fst).map D.int).length = V.length := by rw [List.length_map, lF]
        walk_at "D"
        walk_at "c"
        refine ⟨V.map Prod.fst, rfl, rfl, bV, by omega, rfl, ?_⟩
        cases hn : numA (V.map Prod.fst) 0 with
        | none =>
          rw [hn] at q
          walk_at "D"
          exact fin_dat rfl q
        | some x =>
          obtain ⟨n, p⟩ := x
          have fs := numA_app [] hn
          rw [hn] at q
          dsimp only [resD] at q ⊢
          have p0 := fs.2.2.1
          have n0 := fs.2.1
          walk_at "D"
          refine ifC (fun c2 => ?_) (fun c2 => ?_)
          · have c2 := of_decide_eq_true c2
            rw [if_pos (.inl (by omega))] at q
            walk_at "D"
            exact fin_dat rfl q
          · have c2 := of_decide_eq_false c2
            walk_at "D"
            rw [lD]
            refine ifC (fun c3 => ?_) (fun c3 => ?_)
            · have c3 := of_decide_eq_true c3
              rw [if_pos (.inr (by omega))] at q
              walk_at "D"
              exact fin_dat rfl q
            · have c3 := of_decide_eq_false c3
              rw [if_neg (by omega)] at q
              walk_at "D"
              rw [show p + n + 2 - 2 = p + n by omega, cut_int]
              walk_at "D"
              obtain ⟨x, hx⟩ : ∃ x, V[(p + n + 1).toNat]? = some x := ⟨_, List.getElem?_eq_getElem (by omega)⟩
              have hat2 : atI (plD ns.length V) (p + n + 2 - 1) = some (.int ((ns.length : Int) - (x.2.length : Int))) := by
                have := atI_nat (xs := plD ns.length V) (j := (p + n + 1).toNat) (v := D.int ((ns.length : Int) - (x.2.length : Int))) (by unfold plD; rw [List.getElem?_map, hx]; rfl)
                rw [show (((p + n + 1).toNat : Nat) : Int) = p + n + 2 - 1 by omega] at this
                exact this
              rw [hx] at q
              dsimp only at q
              obtain ⟨pre, hp, hpl⟩ := sV x (List.mem_of_getElem? hx)
              have hxl : x.2.length < r.length := by rw [← hp, List.length_append]; omega
              have hdx : ns.drop (ns.length - x.2.length) = x.2 := by
                have e1 : (ns.take (j + 4) ++ pre) ++ x.2 = ns := by rw [List.append_assoc, hp, ← hr4, List.take_append_drop]
                exact drop_suf e1
              refine wr_ixL (.dat _) hat2 ?_
              rw [show (ns.length : Int) - (x.2.length : Int) = ((ns.length - x.2.length : Nat) : Int) by omega]
              walk_at "D"
              rw [show p + n + 2 - 2 = p + n by omega, cut_int]
              walk_at "D"
              refine wr_ixL (.dat _) hat ?_
              walk_at "D"
              have lb : (cutI (V.map Prod.fst) (some p) (some (p + n))).length ≤ 80000 := by have := cutI_len (V.map Prod.fst) (some p) (some (p + n)); omega
              have bb : Byts (cutI (V.map Prod.fst) (some p) (some (p + n))) := fun y m => bV y (cutI_mem m)
              generalize cutI (V.map Prod.fst) (some p) (some (p + n)) = body at q lb bb
              generalize cutI (V.map Prod.fst) (some (p + n)) (some (p + n + 2)) = two at q
              refine wr_cat (ds := [.int k]) (es := body.map D.int) (.cel rfl) (.cel rfl) (by rw [List.length_map]; simp only [List.length]; omega) ?_
              walk_at "D"
              walk_at "c"
              refine ⟨k :: body, 1, rfl, rfl, fun y m => by
                rcases List.mem_cons.mp m with rfl | m
                · omega
                · exact bb y m, by decide, by decide, aft_hard rfl ?_⟩
              walk_at "D"
              refine wc_divmod ⟨by decide, by decide⟩ ?_
              walk_at "D"
              refine wr_neD 1 (.cel rfl) (.cel rfl) (by rw [fine]; exact fines_intsG 0 _) (by rw [fine]; exact fines_intsG 0 (sumS k body)) (by decide) ?_
              rw [show eqD (D.lst (two.map D.int)) (D.lst [.int (chkS (k :: body) 1 / 256), .int (chkS (k :: body) 1 % 256)]) = decide (two = sumS k body) from eqD_ints _ (sumS k body)]
              by_cases c4 : two = sumS k body
              · rw [decide_eq_true c4]
                walk_at "D"
                rw [cut1 (by omega), hdx]
                refine wr_neD 1 (.cel rfl) (.cel rfl) (by rw [fine]; exact fines_intsG 0 _) (by rw [fine]; exact fines_intsG 0 [255]) (by decide) ?_
                rw [show eqD (D.lst ((x.2.take 1).map D.int)) (D.lst [.int 255]) = decide (x.2.take 1 = [255]) from eqD_ints _ [255]]
                by_cases c5 : x.2.take 1 = [255]
                · obtain ⟨t, ht⟩ : ∃ t, x.2 = 255 :: t := by
                    cases hx2 : x.2 with
                    | nil => rw [hx2] at c5; cases c5
                    | cons y t =>
                      rw [hx2] at c5
                      have c5 : [y] = [255] := c5
                      injection c5 with c5
                      exact ⟨t, by rw [c5]⟩
                  rw [if_pos ⟨c4, by rw [ht]; rfl⟩] at q
                  rw [decide_eq_true c5]
                  walk_at "D"
                  refine wr_ixL (.dat _) hat ?_
                  walk_at "D"
                  have e5 : (ns.length : Int) - (x.2.tail.length : Int) = ((ns.length - x.2.length : Nat) : Int) + 1 := by
                    rw [ht] at hxl ⊢
                    rw [List.length_cons] at hxl ⊢
                    rw [List.tail_cons]
                    omega
                  have q : post (.dat (.tup [.int k, .lst (body.map D.int), .int ((ns.length : Int) - (x.2.tail.length : Int))])) [] := q
                  rw [e5] at q
                  exact fin_dat rfl q
                · rw [if_neg (fun y => c5 (by
                    have y2 := y.2
                    cases hx2 : x.2 with
                    | nil => rw [hx2] at y2; cases y2
                    | cons z t =>
                      rw [hx2] at y2
                      have y2 : some z = some 255 := y2
                      injection y2 with y2
                      rw [y2]
                      rfl))] at q
                  rw [decide_eq_false c5]
                  walk_at "D"
                  exact fin_dat rfl q
              · rw [if_neg (fun y => c4 y.1)] at q
                rw [decide_eq_false c4]
                walk_at "D"
                exact fin_dat rfl q
      · rw [if_neg kk] at q
        refine ifC (fun c2 => ?_) (fun c2 => ?_)
        · have c2 : 1 ≤ k := of_decide_eq_true c2
          walk_at "D"
          rw [decide_eq_false (show ¬ k ≤ 9 by omega)]
          walk_at "D"
          exact fin_dat rfl q
        · walk_at "D"
          exact fin_dat rfl q
  · rw [if_neg c1] at q
    rw [decide_eq_false c1]
    walk_at "D"
    exact fin_dat rfl q
end
/-! ### no START stands within a box -/
theorem U_one (r : List Int) (m : Nat) (x : Int × List Int) (h : (U r 1)[m]? = some x) : r.take 2 ≠ [0, 1] := by
  intro e
  cases r with
  | nil => cases e
  | cons b r =>
    cases r with
    | nil => cases e
    | cons c r =>
      have e : [b, c] = [0, 1] := e
      have e1 : b = 0 := (List.cons.inj e).1
      have e2 : c = 1 := (List.cons.inj (List.cons.inj e).2).1
      subst e1 e2
      rw [U_tail, if_pos ⟨rfl, rfl⟩] at h
      cases m <;> cases h
theorem U_no : ∀ (N : Nat) (r : List Int) (z : Int) (m : Nat) (x : Int × List Int), r.length < N → (z = 0 ∨ z = 1) → (U r z)[m]? = some x → x.2.head? = some 255 → ∀ j, j + x.2.length < r.length → (r.drop j).take 3 ≠ [0, 0, 1] := by
  intro N
  induction N with
  | zero => intro r z m x h; omega
  | succ N ih =>
    intro r z m x hN hz h hx j hj
    cases r with
    | nil => cases hj
    | cons b r =>
      rw [List.length_cons] at hN hj
      rw [U_tail] at h
      by_cases c : b = 0 ∧ z = 1
      · rw [if_pos c] at h
        cases r with
        | nil => cases m <;> cases h
        | cons y r =>
          have h : (if y = 2 then (b, r) :: U r 0 else [])[m]? = some x := h
          by_cases c2 : y = 2
          · rw [if_pos c2] at h
            rw [List.length_cons] at hN hj
            match j with
            | 0 =>
              intro e
              have e : b :: y :: r.take 1 = [0, 0, 1] := e
              have := (List.cons.inj (List.cons.inj e).2).1
              omega
            | 1 =>
              intro e
              have e : y :: r.take 2 = [0, 0, 1] := e
              have := (List.cons.inj e).1
              omega
            | j + 2 =>
              cases m with
              | zero =>
                have h : some (b, r) = some x := h
                cases h
                have hj : j + 2 + r.length < r.length + 1 + 1 := hj
                omega
              | succ m => exact ih r 0 m x (by omega) (.inl rfl) h hx j (by omega)
          · rw [if_neg c2] at h
            cases m <;> cases h
      · rw [if_neg c] at h
        cases m with
        | zero =>
          have h : some (b, r) = some x := h
          cases h
          have hj : j + r.length < r.length + 1 := hj
          have : j = 0 := by omega
          subst this
          intro e
          have hx : r.head? = some 255 := hx
          cases r with
          | nil => cases hx
          | cons y r =>
            have hx : y = 255 := by injection hx
            have e : b :: y :: r.take 1 = [0, 0, 1] := e
            have := (List.cons.inj (List.cons.inj e).2).1
            omega
        | succ m =>
          have h : (U r (if b = 0 then 1 else 0))[m]? = some x := h
          cases j with
          | zero =>
            intro e
            have e : b :: r.take 2 = [0, 0, 1] := e
            have e1 := (List.cons.inj e).1
            have e2 := (List.cons.inj e).2
            rw [if_pos e1] at h
            exact U_one r m x h e2
          | succ j => exact ih r _ m x (by omega) (by split <;> omega) h hx j (by omega)
/-- what stands of a box at a row's begin -/
theorem boxL_in {l : List Int} {y : Int × List Int × List Int} (h : boxL l = some y) : ∃ (r : List Int) (m : Nat) (x : Int × List Int), l = 0 :: 0 :: 1 :: y.1 :: r ∧ 1 ≤ y.1 ∧ (U r 0)[m]? = some x ∧ x.2.head? = some 255 ∧ y.2.2 = x.2.tail := by
  unfold boxL at h
  by_cases c : l.take 3 = [0, 0, 1]
  · rw [if_pos c] at h
    cases hr : l.drop 3 with
    | nil => rw [hr] at h; cases h
    | cons k r =>
      rw [hr] at h
      dsimp only at h
      by_cases kk : 1 ≤ k ∧ k ≤ 9
      · rw [if_pos kk] at h
        cases hL : lawOn k (U r 0) with
        | none => rw [hL] at h; cases h
        | some w =>
          rw [hL] at h
          have h : some (k, w.1, w.2) = some y := h
          cases h
          unfold lawOn at hL
          cases hn : numA ((U r 0).map Prod.fst) 0 with
          | none => rw [hn] at hL; cases hL
          | some v =>
            obtain ⟨n, p⟩ := v
            rw [hn] at hL
            dsimp only at hL
            split at hL
            · cases hL
            · split at hL
              · cases hL
              · rename_i x hx
                split at hL
                · rename_i c2
                  cases hL
                  refine ⟨r, _, x, ?_, kk.1, hx, c2.2, rfl⟩
                  have := List.take_append_drop 3 l
                  rw [c, hr] at this
                  exact this.symm
                · cases hL
      · rw [if_neg kk] at h; cases h
  · rw [if_neg c] at h; cases h
theorem boxL_start {l : List Int} {y : Int × List Int × List Int} (h : boxL l = some y) : l.take 3 = [0, 0, 1] := by
  obtain ⟨r, m, x, e, _⟩ := boxL_in h
  rw [e]
  rfl
/-- no other box begins within a box -/
theorem boxL_no {l : List Int} {y y2 : Int × List Int × List Int} (h : boxL l = some y) {j : Nat} (h2 : boxL (l.drop (j + 1)) = some y2) : l.length - y.2.2.length ≤ j + 1 := by
  have hs := boxL_start h2
  obtain ⟨r, m, x, e, k1, hx, hh, hy⟩ := boxL_in h
  obtain ⟨w, hw⟩ : ∃ w, x.2 = 255 :: w := by
    cases hx2 : x.2 with
    | nil => rw [hx2] at hh; cases hh
    | cons a w =>
      rw [hx2] at hh
      have : a = 255 := by injection hh
      exact ⟨w, by rw [this]⟩
  rw [hw] at hy
  have hy : y.2.2 = w := hy
  obtain ⟨pre, hp, _⟩ := (U_suf r 0 x (List.mem_of_getElem? hx)).2
  rw [hy, e]
  rw [e] at hs
  have lr : r.length = pre.length + (w.length + 1) := by rw [← hp, hw, List.length_append, List.length_cons]
  refine Classical.byContradiction fun z => ?_
  have z : j + 1 < (0 :: 0 :: 1 :: y.1 :: r).length - w.length := by omega
  rw [List.length_cons, List.length_cons, List.length_cons, List.length_cons] at z
  match j, hs, z with
  | 0, hs, _ =>
    have hs : [0, 1, y.1] = [0, 0, 1] := hs
    have := (List.cons.inj (List.cons.inj hs).2).1
    omega
  | 1, hs, _ =>
    have hs : 1 :: y.1 :: r.take 1 = [0, 0, 1] := hs
    have := (List.cons.inj hs).1
    omega
  | 2, hs, _ =>
    have hs : y.1 :: r.take 2 = [0, 0, 1] := hs
    have := (List.cons.inj hs).1
    omega
  | j + 3, hs, z =>
    have hs : (r.drop j).take 3 = [0, 0, 1] := hs
    by_cases c : j + x.2.length < r.length
    · exact U_no (r.length + 1) r 0 m x (Nat.lt_succ_self _) (.inl rfl) hx hh j c hs
    · rw [hw, List.length_cons] at c
      have hj : j = pre.length := by omega
      rw [← hp, hj, List.drop_left, hw] at hs
      have hs : 255 :: w.take 2 = [0, 0, 1] := hs
      have := (List.cons.inj hs).1
      omega
/-- the boxes of a row: begin, end, kind, body -/
structure Bq where
  b : Nat
  e : Nat
  k : Int
  body : List Int
def Bq.seen (x : Bq) : D := .tup [.int x.b, .int x.k, .lst (x.body.map D.int)]
def lawB : Nat → List Int → List Bq
  | _, [] => []
  | a, b :: r => ((boxL (b :: r)).map fun y => (⟨a, a + ((b :: r).length - y.2.2.length), y.1, y.2.1⟩ : Bq)).toList ++ lawB (a + 1) r
theorem lawB_seen : ∀ (l : List Int) (a : Nat), lawBx a l = (lawB a l).map Bq.seen
  | [], _ => rfl
  | b :: r, a => by
    have e1 : lawBx a (b :: r) = ((boxL (b :: r)).map fun y => D.tup [.int a, .int y.1, .lst (y.2.1.map D.int)]).toList ++ lawBx ((a : Int) + 1) r := rfl
    have e2 : lawB a (b :: r) = ((boxL (b :: r)).map fun y => (⟨a, a + ((b :: r).length - y.2.2.length), y.1, y.2.1⟩ : Bq)).toList ++ lawB (a + 1) r := rfl
    rw [e1, e2, List.map_append, show (a : Int) + 1 = ((a + 1 : Nat) : Int) by omega, lawB_seen r (a + 1)]
    congr 1
    cases boxL (b :: r) with
    | none => rfl
    | some y => rfl
theorem lawB_is : ∀ (l : List Int) (a : Nat), ∀ x ∈ lawB a l, a ≤ x.b ∧ x.b < a + l.length ∧ ∃ y, boxL (l.drop (x.b - a)) = some y ∧ x.k = y.1 ∧ x.body = y.2.1 ∧ x.e = x.b + ((l.drop (x.b - a)).length - y.2.2.length)
  | [], _, _, m => nomatch m
  | b :: r, a, x, m => by
    have e2 : lawB a (b :: r) = ((boxL (b :: r)).map fun y => (⟨a, a + ((b :: r).length - y.2.2.length), y.1, y.2.1⟩ : Bq)).toList ++ lawB (a + 1) r := rfl
    rw [e2] at m
    rw [List.length_cons]
    rcases List.mem_append.mp m with m | m
    · cases hb : boxL (b :: r) with
      | none => rw [hb] at m; cases m
      | some y =>
        rw [hb] at m
        have m := List.mem_singleton.mp m
        subst m
        refine ⟨Nat.le_refl _, ?_, y, ?_, rfl, rfl, ?_⟩
        · show a < a + (r.length + 1)
          omega
        · show boxL ((b :: r).drop (a - a)) = some y
          rw [Nat.sub_self]
          exact hb
        · show a + ((b :: r).length - y.2.2.length) = a + (((b :: r).drop (a - a)).length - y.2.2.length)
          rw [Nat.sub_self]
          rfl
    · obtain ⟨h1, h2, y, h3, h4, h5, h6⟩ := lawB_is r (a + 1) x m
      have ed : (b :: r).drop (x.b - a) = r.drop (x.b - (a + 1)) := by
        rw [show x.b - a = (x.b - (a + 1)) + 1 by omega]
        rfl
      exact ⟨by omega, by omega, y, by rw [ed]; exact h3, h4, h5, by rw [ed]; exact h6⟩
theorem lawB_apart : ∀ (l : List Int) (a : Nat), (lawB a l).Pairwise fun x y => x.e ≤ y.b
  | [], _ => List.Pairwise.nil
  | b :: r, a => by
    have e2 : lawB a (b :: r) = ((boxL (b :: r)).map fun y => (⟨a, a + ((b :: r).length - y.2.2.length), y.1, y.2.1⟩ : Bq)).toList ++ lawB (a + 1) r := rfl
    rw [e2]
    have ih := lawB_apart r (a + 1)
    cases hb : boxL (b :: r) with
    | none => exact ih
    | some y =>
      refine List.pairwise_cons.mpr ⟨fun x hx => ?_, ih⟩
      obtain ⟨h1, h2, y2, h3, _⟩ := lawB_is r (a + 1) x hx
      have := boxL_no hb (j := x.b - (a + 1)) (y2 := y2) h3
      show a + ((b :: r).length - y.2.2.length) ≤ x.b
      omega
theorem lawB_len : ∀ (l : List Int) (a : Nat), (lawB a l).length ≤ l.length
  | [], _ => Nat.le_refl _
  | b :: r, a => by
    have e2 : lawB a (b :: r) = ((boxL (b :: r)).map fun y => (⟨a, a + ((b :: r).length - y.2.2.length), y.1, y.2.1⟩ : Bq)).toList ++ lawB (a + 1) r := rfl
    have := lawB_len r (a + 1)
    rw [e2, List.length_append, List.length_cons]
    cases boxL (b :: r) with
    | none => show 0 + _ ≤ _; omega
    | some y => show 1 + _ ≤ _; omega
/-! ### what comes by parts -/
theorem runF_app : ∀ (a b : List Int) (re no : Int) (gr : Option GSt), runF re no gr (a ++ b) = runF re no gr a ++ runF (re + a.length) (endF re no gr a).1 (endF re no gr a).2 b
  | [], b, re, no, gr => by
    show _ = [] ++ runF (re + ((0 : Nat) : Int)) no gr b
    rw [show re + ((0 : Nat) : Int) = re by omega]
    rfl
  | x :: a, b, re, no, gr => by
    show (stepF re no gr x).2.toList ++ runF (re + 1) (if x = 0 then no + 1 else 0) (stepF re no gr x).1 (a ++ b) = ((stepF re no gr x).2.toList ++ runF (re + 1) (if x = 0 then no + 1 else 0) (stepF re no gr x).1 a) ++ runF (re + ((x :: a).length : Int)) (endF (re + 1) (if x = 0 then no + 1 else 0) (stepF re no gr x).1 a).1 (endF (re + 1) (if x = 0 then no + 1 else 0) (stepF re no gr x).1 a).2 b
    rw [runF_app a b, List.append_assoc, List.length_cons, show re + ((a.length + 1 : Nat) : Int) = re + 1 + (a.length : Int) by omega]
theorem endF_app : ∀ (a b : List Int) (re no : Int) (gr : Option GSt), endF re no gr (a ++ b) = endF (re + a.length) (endF re no gr a).1 (endF re no gr a).2 b
  | [], b, re, no, gr => by
    show _ = endF (re + ((0 : Nat) : Int)) no gr b
    rw [show re + ((0 : Nat) : Int) = re by omega]
    rfl
  | x :: a, b, re, no, gr => by
    show endF (re + 1) (if x = 0 then no + 1 else 0) (stepF re no gr x).1 (a ++ b) = endF (re + ((x :: a).length : Int)) (endF (re + 1) (if x = 0 then no + 1 else 0) (stepF re no gr x).1 a).1 (endF (re + 1) (if x = 0 then no + 1 else 0) (stepF re no gr x).1 a).2 b
    rw [endF_app a b, List.length_cons, show re + ((a.length + 1 : Nat) : Int) = re + 1 + (a.length : Int) by omega]
theorem stepF_gi {m : Nat} {re no : Int} {gr : Option GSt} {b : Int} (h : ∀ st, gr = some st → GI (m + 1) st) (hm : m ≤ 90000) (b0 : 0 ≤ b) (b1 : b ≤ 255) : ∀ st, (stepF re no gr b).1 = some st → GI m st := by
  intro st
  unfold stepF
  by_cases z : b = 1 ∧ 2 ≤ no
  · rw [if_pos z]
    intro h
    cases h
    exact GI.init _ hm
  · rw [if_neg z]
    cases gr with
    | none => intro h; cases h
    | some st0 =>
      dsimp only
      by_cases y : (growS st0 b).1 = true
      · rw [if_pos y]
        rcases grow_end (h st0 rfl) b0 b1 y with ⟨cl, _⟩ | ⟨cl, gi⟩
        · rw [if_pos cl]
          intro h
          cases h
        · rw [if_neg (by rw [cl]; exact Bool.false_ne_true)]
          intro h
          cases h
          exact gi
      · rw [if_neg y]
        intro h
        cases h
theorem endF_gi : ∀ (ns : List Int) (m : Nat) (re no : Int) (gr : Option GSt), (∀ st, gr = some st → GI (ns.length + m) st) → ns.length + m ≤ 90000 → Byts ns → ∀ st, (endF re no gr ns).2 = some st → GI m st
  | [], m, re, no, gr, h, _, _ => fun st hs => by
    have := h st hs
    rw [List.length_nil, Nat.zero_add] at this
    exact this
  | x :: ns, m, re, no, gr, h, hm, hb => by
    rw [List.length_cons] at hm
    exact endF_gi ns m (re + 1) (if x = 0 then no + 1 else 0) (stepF re no gr x).1 (stepF_gi (fun st hs => by
      have := h st hs
      rw [List.length_cons, show ns.length + 1 + m = ns.length + m + 1 by omega] at this
      exact this) (by omega) (hb x List.mem_cons_self).1 (hb x List.mem_cons_self).2) (by omega) (fun y hy => hb y (List.mem_cons_of_mem _ hy))
theorem runG_len : ∀ (r : List Int) (st : GSt) (x : GSt × List Int), runG st r = some x → x.2.length < r.length
  | [], _, _, h => nomatch h
  | b :: r, st, x, h => by
    rw [runG_cons] at h
    split at h
    · split at h
      · cases h; exact Nat.lt_succ_self _
      · have := runG_len r _ x h
        rw [List.length_cons]
        omega
    · cases h
theorem runG_take : ∀ (r : List Int) (st : GSt) (n : Nat), runG st (r.take n) = (runG st r).bind fun x => if r.length - x.2.length ≤ n then some (x.1, x.2.take (n - (r.length - x.2.length))) else none
  | [], st, n => by rw [List.take_nil]; rfl
  | b :: r, st, 0 => by
    rw [List.take_zero]
    cases h : runG st (b :: r) with
    | none => rfl
    | some x =>
      have := runG_len _ _ _ h
      show none = if _ then _ else _
      rw [if_neg (by omega)]
  | b :: r, st, n + 1 => by
    rw [List.take_succ_cons, runG_cons, runG_cons]
    split
    · split
      · show some _ = if _ then _ else _
        rw [List.length_cons, if_pos (by show r.length + 1 - r.length ≤ n + 1; omega)]
        show _ = some (_, r.take (n + 1 - (r.length + 1 - r.length)))
        rw [show n + 1 - (r.length + 1 - r.length) = n by omega]
      · rw [runG_take r _ n]
        cases h : runG (growS st b).2 r with
        | none => rfl
        | some x =>
          have := runG_len _ _ _ h
          show (if _ then _ else _) = if _ then _ else _
          rw [List.length_cons]
          by_cases c : r.length - x.2.length ≤ n
          · rw [if_pos c, if_pos (by omega), show n + 1 - (r.length + 1 - x.2.length) = n - (r.length - x.2.length) by omega]
          · rw [if_neg c, if_neg (by omega)]
    · rfl
/-- what stands at a row's begin, by a growing box -/
def boxG (l : List Int) : Option (GSt × List Int) := if l.take 3 = [0, 0, 1] then runG (GSt.init 0) (l.drop 3) else none
theorem boxG_law {l : List Int} (hb : Byts l) : (boxG l).map outG = (boxL l).map fun y => ((0 : Int), some y.1, y.2.1, y.2.2) := by
  unfold boxG boxL
  by_cases c : l.take 3 = [0, 0, 1]
  · rw [if_pos c, if_pos c]
    have hb2 : Byts (l.drop 3) := fun y m => hb y (List.mem_of_mem_drop m)
    cases hr : l.drop 3 with
    | nil => rfl
    | cons k r =>
      rw [hr] at hb2
      dsimp only
      have eg : growS (GSt.init 0) k = (decide (1 ≤ k) && decide (k ≤ 9), { GSt.init 0 with kind := some k }) := growS_none rfl
      rw [runG_cons, eg]
      by_cases kk : 1 ≤ k ∧ k ≤ 9
      · have kb : (decide (1 ≤ k) && decide (k ≤ 9)) = true := by rw [decide_eq_true kk.1, decide_eq_true kk.2]; rfl
        rw [kb, if_pos rfl, if_pos kk]
        rw [if_neg (show ¬ ({ GSt.init 0 with kind := some k } : GSt).closed = true from Bool.false_ne_true)]
        have := runG_law k 0 (r.length + 1) r 0 { GSt.init 0 with kind := some k } [] (Nat.lt_succ_self _) ⟨rfl, rfl, rfl, rfl, rfl, .inl ⟨rfl, rfl, by decide, fun _ m => nomatch m⟩⟩ (.inl rfl) (fun _ z => nomatch z) fun y m => hb2 y (List.mem_cons_of_mem _ m)
        rw [List.nil_append] at this
        rw [this, Option.map_map]
        rfl
      · rw [if_neg kk]
        have kb : (decide (1 ≤ k) && decide (k ≤ 9)) = false := by
          cases z : (decide (1 ≤ k) && decide (k ≤ 9)) with
          | false => rfl
          | true => rw [Bool.and_eq_true] at z; exact absurd ⟨of_decide_eq_true z.1, of_decide_eq_true z.2⟩ kk
        rw [kb, if_neg Bool.false_ne_true]
        rfl
  · rw [if_neg c, if_neg c]
    rfl
theorem boxG_take (l : List Int) (n : Nat) : boxG (l.take n) = (boxG l).bind fun x => if l.length - x.2.length ≤ n then some (x.1, x.2.take (n - (l.length - x.2.length))) else none := by
  unfold boxG
  by_cases n3 : n < 3
  · rw [if_neg (by
      intro h
      have := congrArg List.length h
      rw [List.length_take, List.length_take] at this
      simp only [List.length] at this
      omega)]
    split
    · cases h : runG (GSt.init 0) (l.drop 3) with
      | none => rfl
      | some x =>
        have := runG_len _ _ _ h
        rw [List.length_drop] at this
        show none = if _ then _ else _
        rw [if_neg (by omega)]
    · rfl
  · rw [List.take_take, show min 3 n = 3 by omega]
    split
    · rw [List.drop_take, runG_take]
      cases h : runG (GSt.init 0) (l.drop 3) with
      | none => rfl
      | some x =>
        have := runG_len _ _ _ h
        rw [List.length_drop] at this
        show (if _ then _ else _) = if _ then _ else _
        rw [List.length_drop]
        by_cases c : l.length - 3 - x.2.length ≤ n - 3
        · rw [if_pos c, if_pos (by omega), show n - 3 - (l.length - 3 - x.2.length) = n - (l.length - x.2.length) by omega]
        · rw [if_neg c, if_neg (by omega)]
    · rfl
theorem boxL_short {l : List Int} {y : Int × List Int × List Int} (h : boxL l = some y) : y.2.2.length < l.length := by
  obtain ⟨r, m, x, e, _, hx, _, hy⟩ := boxL_in h
  obtain ⟨pre, hp, hp0⟩ := (U_suf r 0 x (List.mem_of_getElem? hx)).2
  have l1 := congrArg List.length hp
  rw [List.length_append] at l1
  rw [hy, e, List.length_tail]
  simp only [List.length_cons]
  omega
theorem boxL_take {l : List Int} (hb : Byts l) (n : Nat) : boxL (l.take n) = (boxL l).bind fun y => if l.length - y.2.2.length ≤ n then some (y.1, y.2.1, y.2.2.take (n - (l.length - y.2.2.length))) else none := by
  have h1 := boxG_law (l := l.take n) (fun y m => hb y (List.mem_of_mem_take m))
  have h2 := boxG_law hb
  rw [boxG_take l n] at h1
  cases hG : boxG l with
  | none =>
    rw [hG] at h1 h2
    cases hL : boxL l with
    | none =>
      cases hT : boxL (l.take n) with
      | none => rfl
      | some y => rw [hT] at h1; cases h1
    | some y => rw [hL] at h2; cases h2
  | some x =>
    rw [hG] at h1 h2
    cases hL : boxL l with
    | none => rw [hL] at h2; cases h2
    | some y =>
      rw [hL] at h2
      have h2 : (x.1.at_, x.1.kind, x.1.bod, x.2) = ((0 : Int), some y.1, y.2.1, y.2.2) := by injection h2
      have i2 : x.1.kind = some y.1 := congrArg (fun z => z.2.1) h2
      have i3 : x.1.bod = y.2.1 := congrArg (fun z => z.2.2.1) h2
      have i4 : x.2 = y.2.2 := congrArg (fun z => z.2.2.2) h2
      have h1 : Option.map outG (if l.length - x.2.length ≤ n then some (x.1, x.2.take (n - (l.length - x.2.length))) else none) = _ := h1
      show _ = if l.length - y.2.2.length ≤ n then some (y.1, y.2.1, y.2.2.take (n - (l.length - y.2.2.length))) else none
      rw [i4] at h1
      by_cases c : l.length - y.2.2.length ≤ n
      · rw [if_pos c] at h1 ⊢
        cases hT : boxL (l.take n) with
        | none => rw [hT] at h1; cases h1
        | some w =>
          rw [hT] at h1
          have h1 : (x.1.at_, x.1.kind, x.1.bod, y.2.2.take (n - (l.length - y.2.2.length))) = ((0 : Int), some w.1, w.2.1, w.2.2) := by injection h1
          have j2 : x.1.kind = some w.1 := congrArg (fun z => z.2.1) h1
          have j3 : x.1.bod = w.2.1 := congrArg (fun z => z.2.2.1) h1
          have j4 : y.2.2.take (n - (l.length - y.2.2.length)) = w.2.2 := congrArg (fun z => z.2.2.2) h1
          rw [i2] at j2
          have j2 := Option.some.inj j2
          rw [j2, ← i3, j3, j4]
      · rw [if_neg c] at h1 ⊢
        cases hT : boxL (l.take n) with
        | none => rfl
        | some w => rw [hT] at h1; cases h1
theorem lawB_take : ∀ (l : List Int) (a n : Nat), Byts l → lawB a (l.take n) = (lawB a l).filter fun x => decide (x.e ≤ a + n)
  | [], a, n, _ => by rw [List.take_nil]; rfl
  | b :: r, a, 0, hb => by
    rw [List.take_zero]
    refine (List.filter_eq_nil_iff.mpr fun x hx => ?_).symm
    obtain ⟨h1, h2, y, h3, _, _, h6⟩ := lawB_is _ _ x hx
    have := boxL_short h3
    rw [decide_eq_true_eq]
    omega
  | b :: r, a, n + 1, hb => by
    have ih := lawB_take r (a + 1) n fun y m => hb y (List.mem_cons_of_mem _ m)
    rw [List.take_succ_cons]
    show ((boxL (b :: r.take n)).map fun y => (⟨a, a + ((b :: r.take n).length - y.2.2.length), y.1, y.2.1⟩ : Bq)).toList ++ lawB (a + 1) (r.take n) = (((boxL (b :: r)).map fun y => (⟨a, a + ((b :: r).length - y.2.2.length), y.1, y.2.1⟩ : Bq)).toList ++ lawB (a + 1) r).filter _
    rw [List.filter_append, ih, show a + 1 + n = a + (n + 1) by omega]
    congr 1
    have hT := boxL_take (l := b :: r) hb (n + 1)
    rw [List.take_succ_cons] at hT
    rw [hT]
    cases hL : boxL (b :: r) with
    | none => rfl
    | some y =>
      have sh := boxL_short hL
      show (Option.map _ (if (b :: r).length - y.2.2.length ≤ n + 1 then some (y.1, y.2.1, y.2.2.take (n + 1 - ((b :: r).length - y.2.2.length))) else none)).toList = List.filter _ [_]
      by_cases c : (b :: r).length - y.2.2.length ≤ n + 1
      · rw [if_pos c, List.filter_cons, if_pos (by rw [decide_eq_true_eq]; show a + ((b :: r).length - y.2.2.length) ≤ a + (n + 1); omega)]
        show [(⟨a, a + ((b :: r.take n).length - (y.2.2.take (n + 1 - ((b :: r).length - y.2.2.length))).length), y.1, y.2.1⟩ : Bq)] = [⟨a, a + ((b :: r).length - y.2.2.length), y.1, y.2.1⟩]
        rw [List.length_take, List.length_cons, List.length_cons, List.length_take]
        rw [List.length_cons] at c sh
        rw [show min n r.length + 1 - min (n + 1 - (r.length + 1 - y.2.2.length)) y.2.2.length = r.length + 1 - y.2.2.length by omega]
      · rw [if_neg c, List.filter_cons, if_neg (by rw [decide_eq_true_eq]; show ¬ a + ((b :: r).length - y.2.2.length) ≤ a + (n + 1); omega)]
        rfl
/-- the boxes whose last byte lies from a place on, below another one -/
def endB (fs : List Bq) (lo hi : Nat) : List Bq := fs.filter fun x => decide (lo < x.e) && decide (x.e ≤ hi)
theorem endB_split : ∀ (fs : List Bq) (lo hi : Nat), fs.Pairwise (fun x y => x.e ≤ y.e) → lo ≤ hi → fs.filter (fun x => decide (x.e ≤ hi)) = fs.filter (fun x => decide (x.e ≤ lo)) ++ endB fs lo hi
  | [], _, _, _, _ => rfl
  | x :: fs, lo, hi, hp, hl => by
    obtain ⟨h1, h2⟩ := List.pairwise_cons.mp hp
    by_cases c : x.e ≤ lo
    · have ih := endB_split fs lo hi h2 hl
      unfold endB at ih ⊢
      rw [List.filter_cons, if_pos (by rw [decide_eq_true_eq]; omega), List.filter_cons, if_pos (by rw [decide_eq_true_eq]; omega), List.filter_cons, if_neg (by rw [decide_eq_false (by omega)]; exact Bool.false_ne_true), ih]
      rfl
    · rw [show (x :: fs).filter (fun x => decide (x.e ≤ lo)) = [] from List.filter_eq_nil_iff.mpr fun y hy => by
        rw [decide_eq_true_eq]
        rcases List.mem_cons.mp hy with rfl | hy
        · exact c
        · have := h1 y hy; omega]
      unfold endB
      show _ = List.filter _ _
      refine List.filter_congr fun y hy => ?_
      have : lo < y.e := by
        rcases List.mem_cons.mp hy with rfl | hy
        · omega
        · have := h1 y hy; omega
      rw [decide_eq_true this]
      rfl
theorem lawB_rise (l : List Int) (a : Nat) : (lawB a l).Pairwise fun x y => x.e ≤ y.e := by
  refine List.Pairwise.imp_of_mem (fun {x y} hx hy h => ?_) (lawB_apart l a)
  obtain ⟨_, _, y2, h3, _, _, h6⟩ := lawB_is l a y hy
  omega
/-- what a part adds -/
theorem part_law {row : List Int} {lo hi : Nat} (hb : Byts row) (hl : row.length ≤ 80000) (h1 : lo ≤ hi) (h2 : hi ≤ row.length) : (runF lo (endF 0 0 none (row.take lo)).1 (endF 0 0 none (row.take lo)).2 ((row.drop lo).take (hi - lo))).map boxD = (endB (lawB 0 row) lo hi).map Bq.seen := by
  have e1 : row.take hi = row.take lo ++ (row.drop lo).take (hi - lo) := by
    rw [← List.drop_take, show row.take lo = (row.take hi).take lo by rw [List.take_take, Nat.min_eq_left h1], List.take_append_drop]
  have bt : ∀ n, Byts (row.take n) := fun n y m => hb y (List.mem_of_mem_take m)
  have lt : ∀ n, (row.take n).length ≤ 90000 := fun n => by rw [List.length_take]; omega
  have f1 := found_law (bt hi) (lt hi)
  have f0 := found_law (bt lo) (lt lo)
  rw [show lawBx 0 (row.take hi) = (lawB 0 (row.take hi)).map Bq.seen from lawB_seen _ 0, lawB_take row 0 hi hb, Nat.zero_add, endB_split _ lo hi (lawB_rise row 0) h1, List.map_append] at f1
  rw [show lawBx 0 (row.take lo) = (lawB 0 (row.take lo)).map Bq.seen from lawB_seen _ 0, lawB_take row 0 lo hb, Nat.zero_add] at f0
  rw [e1, runF_app, List.map_append, f0] at f1
  have f2 := List.append_cancel_left f1
  rw [List.length_take, Nat.min_eq_left (by omega), show (0 : Int) + (lo : Int) = (lo : Int) by omega] at f2
  exact f2
theorem part_end {row : List Int} {lo hi : Nat} (h1 : lo ≤ hi) (h2 : hi ≤ row.length) : endF lo (endF 0 0 none (row.take lo)).1 (endF 0 0 none (row.take lo)).2 ((row.drop lo).take (hi - lo)) = endF 0 0 none (row.take hi) := by
  have e1 : row.take hi = row.take lo ++ (row.drop lo).take (hi - lo) := by
    rw [← List.drop_take, show row.take lo = (row.take hi).take lo by rw [List.take_take, Nat.min_eq_left h1], List.take_append_drop]
  rw [e1, endF_app, List.length_take, Nat.min_eq_left (by omega), show (0 : Int) + (lo : Int) = (lo : Int) by omega]

local macro_rules | `(tactic| walk_at "cat") => `(tactic| refine wr_cat (by walk_at "il") (by walk_at "il") (by simp only [List.length_append, List.length_map, List.length_cons, List.length_nil]; omega) ?_)
local macro_rules | `(tactic| walk_at "E") => `(tactic| repeat (first
  | (with_reducible refine ws_seq ?_; walk_at "nr2")
  | walk_at "d"
  | refine we_dnew ?_
  | refine ifT rfl ?_
  | refine ifF rfl ?_))
section
variable {P : Program} {w : World} {K : PySem.W.Frag} {mg : Str → Option Value} {base : Heap}
theorem ws_wipe {K : PySem.W.Frag} {F : Fx} {ρ : En} {t : TS} {ks : KS} (vs : List Nat) (h : WpS K F t (ρ.wipe vs) ks) : WpS K F t ρ ks := fun as σ H G e D q => h as σ H G (e.wipe rfl) D q
/-! ### a thing laid that nobody looks at -/
section
variable {K : PySem.W.Frag} {F : Fx} {ρ : En}
theorem EnvOk.newH {as : List Addr} {σ : L2.St} {H G : Hp} {p : Addr} {o : HO} (e : EnvOk K F ρ as σ H G) (hp : H p = none) : EnvOk K F ρ as σ (upd H p o) G := by
  refine ⟨fun a u h => upd_old hp (e.gh _ _ h), Same.new e.fh hp, e.fg, e.g0, e.nd, e.pr, e.ln, fun j c a hc ha => ?_, e.sn, e.sl, by obtain ⟨Ts, r⟩ := e.rg; exact ⟨Ts, r.same (fun _ _ _ _ h => upd_old hp h) (fun _ _ _ g => g) (fun _ z => z) fun _ _ z => .inl z⟩⟩
  obtain ⟨f, ⟨u, hu⟩, ok⟩ := e.ce j c a hc ha
  refine ⟨f, ⟨u, upd_old hp hu⟩, ?_⟩
  cases c with
  | gone => trivial
  | reg t X => exact ok
  | lst ds => obtain ⟨g, vs, h, r⟩ := ok; exact ⟨g, vs, upd_old hp h, r⟩
  | ins C9 ns9 ds => obtain ⟨g, dx9, vs, h, ln9, r⟩ := ok; exact ⟨g, dx9, vs, upd_old hp h, ln9, r⟩
  | drw => obtain ⟨g, vs, h, r⟩ := ok; exact ⟨g, vs, upd_old hp h, r⟩
  | oth X => obtain ⟨g, o9, h, r⟩ := ok; exact ⟨g, o9, upd_old hp h, r⟩
end
/-! ### isinstance of a caught error, of one class of several; {k: v} -/
section
variable {K : PySem.W.Frag} {F : Fx} {ρ : En} {k : AV → En → Prop}
theorem reps_cls {G : Hp} {as : List Addr} : ∀ {ys : List Addr} {vs : List V}, RepAs K G as (ys.map fun y => .dat (.cls y)) vs → vs = ys.map V.ref
  | [], _, h => by cases h; rfl
  | y :: ys, _, h => by
    cases h with
    | cons a b => cases (show Rep K G (.cls y) _ from a); rw [reps_cls b]; rfl
theorem paired_cls : ∀ (ys : List Addr), Paired ClsV (ys.map V.ref) (ys.map Value.ref)
  | [] => .nil
  | y :: ys => .cons (.own y) (paired_cls ys)
theorem we_isEs {i : Nat} {e C : Addr} (ys : List Addr) {ta : TA} {b : Bool} (hv : ρ.sl[i]? = some (some (.dat (.cls e)))) (hl : Nat.ble ys.length 1000 = true) (xc : ExcC K C) (ka : PySem.W.kitAny K (.ref C) (ys.map Value.ref) = some b) (hta : WpA K F ta ρ fun avs ρ1 => avs = ys.map (fun y => AV.dat (.cls y)) ∧ k (.dat (.bl b)) ρ1) :
    WpE K F (tCB (rIsEs K (.ref C) none e) (tCons (tVar i) (tCons (tTup ta) tNil))) ρ k := fun as σ H G en Q q => by
  obtain ⟨v, hs, rv⟩ := en.sl i _ hv
  cases (show Rep K G (.cls e) v from rv)
  refine ⟨_, hs, hta as σ H G en _ ?_⟩
  rintro avs ρ1 vs as1 H1 G1 ⟨rfl, hk⟩ e1 g1 r1
  have ev := reps_cls r1
  subst ev
  refine ⟨sz (by rw [List.length_map]; exact hl), fun p hp => ?_⟩
  refine ⟨C, p, ys.map V.ref, ys.map Value.ref, b, rfl, rfl, xc, rfl, upd_same, paired_cls ys, ka, ?_⟩
  exact q _ ρ1 _ as1 _ G1 hk (e1.newH hp) g1 (Rep.bl _)
theorem we_disp1 {x : Str} {i : Nat} {av : AV} (hv : ρ.sl[i]? = some (some av)) (h : k (.dat .dic) ρ) : WpE K F (tDisp [(tC (.str x), tVar i)]) ρ k := fun as σ H G e Q q p hp => by
  obtain ⟨v, hs, rv⟩ := e.sl i _ hv
  obtain ⟨e3, g3⟩ := e.newG (o := .dK (mergeK [] [((.inr x : Key), v)])) hp
  refine ⟨v, hs, upd_same, [(.inr x, v)], rfl, Nat.le_of_ble_eq_true rfl, ?_⟩
  rw [upd_upd]
  exact q _ _ _ _ _ _ h e3 g3 (Rep.dic upd_same)
end
/-! ### a call with keywords; a law's promise -/
theorem we_callN {K : PySem.W.Frag} {F : Fx} {ρ : En} {k : AV → En → Prop} {n m : Nat} {sp : Sp} {gV : List V → List V → List V} {E : XK} {t tk : TA} (h : WpA K F t ρ fun xs ρ1 => WpA K F tk ρ1 fun ys ρ2 => ∃ zs, xs.length = n ∧ ys.length = m ∧ (∀ G as vs ws, RepAs K G as xs vs → RepAs K G as ys ws → RepAs K G as zs (gV vs ws)) ∧ WpSp K F sp (fun _ => E) zs ρ2 k) : WpE K F (L2.tCallN n m sp gV E t tk) ρ k := fun as σ H G e Q q =>
  h as σ H G e _ fun xs ρ1 vs as1 H1 G1 h1 e1 g1 r1 => h1 as1 σ H1 G1 e1 _ fun ys ρ2 ws as2 H2 G2 ⟨zs, l1, l2, hg, h2⟩ e2 g2 r2 => ⟨by rw [r1.length]; exact l1, by rw [r2.length]; exact l2, h2 as2 σ H2 G2 _ e2 (hg _ _ _ _ (r1.mono g2) r2) Q (q.imp (g1.trans g2) fun _ _ z => z)⟩
def spLaw (K : PySem.W.Frag) : Sp := fun vs H Q _ => ∃ (a : Addr) (ns : List Int), vs = [.ref a] ∧ SqL K H a (ns.map V.int) ∧ ns.length ≤ 63 ∧ ∀ H', Q (.bl true) H'
def wLaw : PW0 := fun xs cs post _ => ∃ ns : List Int, xs = [.dat (.scr (ns.map D.int))] ∧ cs = [] ∧ ns.length ≤ 63 ∧ post (.dat (.bl true)) []
theorem law_of {K : PySem.W.Frag} {vs : List V} {H : Hp} {Q : VK} {E : XK} (h : spLaw K vs H Q E) : spG K wLaw vs H Q E := by
  obtain ⟨a, ns, rfl, hs, hl, q⟩ := h
  refine ⟨H, [], fun _ _ => none, [.dat (.scr (ns.map D.int))], [], fun r _ => r = .dat (.bl true), fun _ => False, Same.refl _, ⟨rfl, List.nodup_nil, fun j c a hc => by simp at hc⟩, RegsAt.no (fun j t X z => by simp at z), .cons (Rep.scr hs Reps.ofV) .nil, ⟨ns, rfl, rfl, hl, rfl⟩, ?_, fun _ _ z => z.elim⟩
  intro r cs v H' G' Ts' hp _ _ _ _ _ _ _ rr
  subst hp
  rw [Rep.blE rr]
  exact q H'
theorem cut_ints (ns : List Int) (lo hi : Option Int) : ∃ ms : List Int, cutD (ns.map D.int) lo hi = ms.map D.int ∧ ms.length ≤ ns.length := by
  refine ⟨(ns.drop (HT.sIx ns.length 0 lo)).take (HT.sIx ns.length ns.length hi - HT.sIx ns.length 0 lo), ?_, ?_⟩
  · unfold cutD
    rw [List.length_map, List.map_take, List.map_drop]
  · rw [List.length_take, List.length_drop]
    omega
def wLBoxesIn : PW0 := fun xs cs post _ => ∃ ns : List Int, xs = [.dat (.lst (ns.map D.int))] ∧ cs = [] ∧ Byts ns ∧ ns.length ≤ 80000 ∧ post (.new (lawBx 0 ns)) []
theorem ok_l_boxes_in (T : Txt K mg) : FnOk P w K mg base CX0 3 T.a_l_boxes_in T.d_l_boxes_in ["_law_row"] (spG K wLBoxesIn) := by
  refine T.F_l_boxes_in.ok sc_l_boxes_in (fun vs H Q E h => spG_len h fun xs cs post exc ⟨a, e, _⟩ => by rw [e]; rfl) (fun cdv A outer s H vs Q E hr h => ⟨_, (pss_cons (ps_set (i := 1) sc_l_boxes_in.nd rfl (Or.inl rfl) (pe_lst pa_nil))
      (pss_cons (ps_for PassesOwn.never rfl (pi_range1 (by rfl) T.m_range (pa_cons (pe_callB call_len_seq (by rfl) T.m_len (by decide +kernel) (pa_cons (pv 0) pa_nil)) pa_nil)) (pg_name (i := 2) sc_l_boxes_in.nd rfl (Or.inl rfl))
        (pss_cons (ps_set (i := 3) sc_l_boxes_in.nd rfl (Or.inl rfl) (pe_call (ok_l_box_at T) (hr.mono (by decide)) (by rfl) T.g_l_box_at T.F_l_box_at.kp T.b_l_box_at .nil pass0 (pa_cons (pv 0) (pa_cons (pv 2) pa_nil))))
      (pss_one (ps_if (pt_cmpR op_notN (pv 3) pe_non (nomark _)) (pss_one (ps_expr (pe_bm PySem.F.plainAttrs_list PySem.F.slot_list_append PySem.F.type_list_append mt_append (pv 1) (pa_cons (pe_tup (pa_cons (pv 2) (pa_cons (pe_ix ix_tup (pv 3) pe_int (fun _ _ => rfl)) (pa_cons (pe_ix ix_tup (pv 3) pe_int (fun _ _ => rfl)) pa_nil)))) pa_nil)))) pss_nil))))
      (pss_one (ps_ret (pv 1))))), enter h fun F xs cs post hE hw => ?_⟩)
  obtain ⟨ns, rfl, rfl, hb, hl, q⟩ := hw
  have ll : (ns.map D.int).length = ns.length := List.length_map ..
  walk_at "D"
  rw [ll]
  refine ⟨by omega, ?_⟩
  rw [show ((ns.length : Int)).toNat = ns.length by omega]
  refine loop_rng (fun i ρ => ∃ (acc : List D) (x y : Option AV), ρ = ⟨[some (.dat (.lst (ns.map D.int))), some (.cel 0), x, y], [.lst acc]⟩ ∧ acc ++ lawBx i (ns.drop i) = lawBx 0 ns ∧ acc.length ≤ i) ⟨[], _, _, rfl, rfl, Nat.le_refl _⟩ ?_ ?_
  · rintro ρ ⟨acc, x, y, rfl, e2, hl2⟩
    refine ⟨trivial, ?_⟩
    rw [List.drop_of_length_le (Nat.le_refl _)] at e2
    have e2 : acc = lawBx 0 ns := by rw [← e2]; exact (List.append_nil _).symm
    subst e2
    walk_at "D"
    exact ⟨_, .cel (Nat.zero_le _) rfl, rfl, q⟩
  · rintro i ρ hi ⟨acc, x, y, rfl, e2, hl2⟩
    refine ⟨trivial, ?_⟩
    have hd := drop_at (ns := ns) (j := i) hi
    have e3 : lawBx i (ns.drop i) = ((boxL (ns.drop i)).map fun y => D.tup [.int i, .int y.1, .lst (y.2.1.map D.int)]).toList ++ lawBx ((i : Int) + 1) (ns.drop (i + 1)) := by
      rw [hd]
      rfl
    rw [e3] at e2
    rw [show (0 : Int) + (i : Int) = (i : Int) by omega]
    walk_at "D"
    walk_at "c"
    refine ⟨ns, i, rfl, rfl, hb, hl, by omega, rfl, ?_⟩
    cases hB : boxL (ns.drop i) with
    | none =>
      rw [hB] at e2
      walk_at "D"
      exact now ⟨acc, some (.dat (.int i)), some (.dat .non), rfl, e2, by omega⟩
    | some y =>
      obtain ⟨k, body, rest⟩ := y
      rw [hB] at e2
      dsimp only [resBx]
      walk_at "D"
      · omega
      walk_at "D"
      refine now ⟨acc ++ [.tup [.int i, .int k, .lst (body.map D.int)]], some (.dat (.int i)), some (.dat _), rfl, ?_, by rw [List.length_append, List.length_singleton]; omega⟩
      rw [List.append_assoc]
      exact e2
/-! ### what is no row of bytes -/
def OddR (d : D) : Prop := pl d = true ∧ isRw d = false ∧ lnR d ≤ 50000
theorem pls_app {a b : List D} (h : pls a = true) (k : pls b = true) : pls (a ++ b) = true := by
  induction a with
  | nil => exact k
  | cons x a ih =>
    obtain ⟨h1, h2⟩ := pls_cons h
    show (pl x && pls (a ++ b)) = true
    rw [h1, ih h2]; rfl
def wOddRow : PW0 := fun xs cs post _ => ∃ ns : List Int, xs = [.cel 0, .dat (.lst (ns.map D.int))] ∧ cs = [.drw] ∧ ns.length ≤ 20000 ∧ (∀ d, OddR d → post (.dat d) [.drw]) ∧ (∀ ds, OddR (.lst ds) → post (.new ds) [.drw])
theorem ok_l_odd_row (T : Txt K mg) : FnOk P w K mg base CX0 2 T.a_l_odd_row T.d_l_odd_row ["_law_state", "_law_row"] (spG K wOddRow) := by
  refine T.F_l_odd_row.ok sc_l_odd_row (fun vs H Q E h => spG_len h fun xs cs post exc ⟨a, e, _⟩ => by rw [e]; rfl) (fun cdv A outer s H vs Q E hr h => ⟨_, (pss_cons (ps_if (pt_cmpR op_eq (pe_call (ok_l_digit T) (hr.mono (by decide)) (by rfl) T.g_l_digit T.F_l_digit.kp T.b_l_digit .nil pass0 (pa_cons (pv 0) (pa_cons pe_int pa_nil))) pe_int (nomark _)) (pss_one (ps_ret (pe_ix ix_list (pe_lst (pa_cons pe_non (pa_cons (pe_callTy call_tuple_of (by rfl) T.m_tuple (by decide +kernel) (pa_cons (pv 1) pa_nil)) (pa_cons pe_str (pa_cons pe_int (pa_cons pe_dnewK (pa_cons pe_str (pa_cons pe_int pa_nil)))))))) (pe_call (ok_l_digit T) (hr.mono (by decide)) (by rfl) T.g_l_digit T.F_l_digit.kp T.b_l_digit .nil pass0 (pa_cons (pv 0) (pa_cons pe_int pa_nil))) (fun _ _ => rfl)))) pss_nil)
      (pss_cons (ps_set (i := 2) sc_l_odd_row.nd rfl (Or.inl rfl) (pe_ix ix_list (pe_lst (pa_cons pe_int (pa_cons (pe_un un_neg pe_int) (pa_cons (pe_cmpR op_eq pe_int pe_int (nomark _)) (pa_cons pe_non (pa_cons pe_str (pa_cons (pe_lst (pa_cons pe_int pa_nil)) (pa_cons (pe_tup (pa_cons pe_int pa_nil)) (pa_cons (pe_op op_pow pe_int pe_int) (pa_cons (pe_un un_neg pe_int) (pa_cons (pe_cmpR op_eq pe_int pe_int (nomark _)) pa_nil))))))))))) (pe_call (ok_l_digit T) (hr.mono (by decide)) (by rfl) T.g_l_digit T.F_l_digit.kp T.b_l_digit .nil pass0 (pa_cons (pv 0) (pa_cons pe_int pa_nil))) (fun _ _ => rfl)))
      (pss_cons (ps_set (i := 3) sc_l_odd_row.nd rfl (Or.inl rfl) (pe_call (ok_l_digit T) (hr.mono (by decide)) (by rfl) T.g_l_digit T.F_l_digit.kp T.b_l_digit .nil pass0 (pa_cons (pv 0) (pa_cons (pe_op op_add (pe_callB call_len_seq (by rfl) T.m_len (by decide +kernel) (pa_cons (pv 1) pa_nil)) pe_int) pa_nil))))
      (pss_one (ps_ret (pe_op op_catF (pe_op op_catF (pe_slice sl_list (pv 1) po_none (po_some (pv 3))) (pe_lst (pa_cons (pv 2) pa_nil))) (pe_slice sl_list (pv 1) (po_some (pv 3)) po_none))))))), enter h fun F xs cs post hE hw => ?_⟩)
  obtain ⟨ns, rfl, rfl, hl, q1, q2⟩ := hw
  walk_at "E"
  refine wsp_digit rfl (by decide) (by decide) fun p p0 p1 => ?_
  walk_at "E"
  refine ifC (fun c => ?_) (fun c => ?_)
  · walk_at "E"
    refine wsp_digit rfl (by decide) (by decide) fun g g0 g1 => ?_
    walk_at "E"
    refine wr_ixA (by walk_at "il") g0 (by show g < ((7 : Nat) : Int); exact g1) fun d hd => ?_
    refine fin_dat rfl (q1 d ?_)
    simp only [List.mem_cons, List.not_mem_nil, or_false] at hd
    rcases hd with rfl | rfl | rfl | rfl | rfl | rfl | rfl
    · exact ⟨rfl, rfl, by decide⟩
    · exact ⟨by rw [pl]; exact pls_int ns, rfl, by show (0 : Int) ≤ 50000; decide⟩
    · exact ⟨rfl, rfl, by decide⟩
    · exact ⟨rfl, rfl, by decide⟩
    · exact ⟨rfl, rfl, by decide⟩
    · exact ⟨rfl, rfl, by decide⟩
    · exact ⟨rfl, rfl, by decide⟩
  · walk_at "E"
    refine wr_Ii ⟨by decide, by decide, by decide⟩ ?_
    walk_at "E"
    refine wsp_digit rfl (by decide) (by decide) fun g g0 g1 => ?_
    walk_at "E"
    refine wr_ixA (by walk_at "il") g0 (by show g < ((10 : Nat) : Int); exact g1) fun d hd => ?_
    have od : pl d = true ∧ inR 0 255 d = false := by
      simp only [List.mem_cons, List.not_mem_nil, or_false] at hd
      rcases hd with rfl | rfl | rfl | rfl | rfl | rfl | rfl | rfl | rfl | rfl <;> exact ⟨rfl, by decide⟩
    clear hd
    walk_at "E"
    refine wsp_digit rfl (by rw [List.length_map]; omega) (by rw [List.length_map]; omega) fun a a0 a1 => ?_
    walk_at "E"
    obtain ⟨X, eX, lX⟩ := cut_ints ns none (some a)
    obtain ⟨Y, eY, lY⟩ := cut_ints ns (some a) none
    rw [eX]
    walk_at "E"
    walk_at "cat"
    walk_at "E"
    rw [eY]
    walk_at "E"
    walk_at "cat"
    refine ⟨_, .cel (Nat.le_of_ble_eq_true rfl) rfl, rfl, q2 _ ⟨?_, ?_, ?_⟩⟩
    · exact pls_app (pls_app (pls_int X) (show (pl d && pls []) = true by rw [od.1]; rfl)) (pls_int Y)
    · show (X.map D.int ++ [d] ++ Y.map D.int).all (inR 0 255) = false
      rw [List.all_append, List.all_append, List.all_cons, od.2]
      simp
    · show (((X.map D.int ++ [d] ++ Y.map D.int).length : Nat) : Int) ≤ 50000
      simp only [List.length_append, List.length_map, List.length_cons, List.length_nil]
      omega
theorem boxed_le (k : Int) (body : List Int) (h : body.length ≤ 900) : (boxedI k body).length ≤ 2 * body.length + 71 := by
  have hf := fig_short body.length (by omega)
  have hs := stI_len (figN body.length ++ body ++ sumS k body) 0
  unfold boxedI
  rw [List.length_append, List.length_append] at hs ⊢
  have e1 : (sumS k body).length = 2 := rfl
  have e2 : ([0, 0, 1, k] : List Int).length = 4 := rfl
  have e3 : ([255] : List Int).length = 1 := rfl
  omega
theorem boxed_len (k : Int) (body : List Int) : 4 < (boxedI k body).length := by
  unfold boxedI
  rw [List.length_append, List.length_append]
  show 4 < 4 + _ + 1
  omega
/-! ### how many bytes were taken; streams; boxes that end; what is refused -/
def wTaken (CF CG : Addr) : PW0 := fun xs cs post _ => ∃ (t : Option Addr) (re no : Int) (gr : Option GSt), xs = [.cel 0] ∧ cs = [.reg t (feedX CF CG re no gr)] ∧ post (.dat (.int re)) [.reg t (feedX CF CG re no gr)]
theorem ok_Feed_taken (T : Txt K mg) : FnOk P w K mg base CX0 1 T.a_Feed_taken T.d_Feed_taken ["self"] (spG K (wTaken T.c_Feed T.c_Growing)) := by
  refine T.F_Feed_taken.ok sc_Feed_taken (fun vs H Q E h => spG_len h fun xs cs post exc ⟨t, re, no, gr, e, _⟩ => by rw [e]; rfl) (fun cdv A outer s H vs Q E hr h => ⟨_, (pss_one (ps_ret (pe_fld (pv 0) rfl))), enter h fun F xs cs post hE hw => ?_⟩)
  obtain ⟨t, re, no, gr, rfl, rfl, q⟩ := hw
  walk_at "D"
  refine we_fldR (C := T.c_Feed) (d := .int re) ?_
  walk_at "D"
  refine ⟨_, .cel (j := 0) rfl, feedX_F, T.cl_Feed, T.na_Feed_reached, ?_⟩
  exact fin_dat rfl q
def wLStream : PW0 := fun xs cs post _ => ∃ ms : List Int, xs = [.dat (.lst (ms.map D.int))] ∧ cs = [] ∧ ms.length ≤ 64 ∧ ∀ row : List Int, Byts row → row.length ≤ 100 * ms.length → post (.dat (.lst (row.map D.int))) []
theorem ok_l_stream (T : Txt K mg) : FnOk P w K mg base CX0 3 T.a_l_stream T.d_l_stream ["_law_cells"] (spG K wLStream) := by
  refine T.F_l_stream.ok sc_l_stream (fun vs H Q E h => spG_len h fun xs cs post exc ⟨a, e, _⟩ => by rw [e]; rfl) (fun cdv A outer s H vs Q E hr h => ⟨_, (pss_cons (ps_set (i := 1) sc_l_stream.nd rfl (Or.inl rfl) (pe_lst pa_nil))
      (pss_cons (ps_for PassesOwn.never rfl (pi_list (pv 0)) (pg_name (i := 2) sc_l_stream.nd rfl (Or.inl rfl))
        (pss_cons (ps_set (i := 3) sc_l_stream.nd rfl (Or.inl rfl) (pe_lst (pa_cons (pv 2) pa_nil)))
      (pss_cons (ps_set (i := 4) sc_l_stream.nd rfl (Or.inl rfl) (pe_call (ok_l_digit T) (hr.mono (by decide)) (by rfl) T.g_l_digit T.F_l_digit.kp T.b_l_digit .nil pass0 (pa_cons (pv 3) (pa_cons pe_int pa_nil))))
      (pss_cons (ps_set (i := 5) sc_l_stream.nd rfl (Or.inl rfl) (pe_call (ok_l_boxed T) (hr.mono (by decide)) (by rfl) T.g_l_boxed T.F_l_boxed.kp T.b_l_boxed .nil pass0 (pa_cons (pe_op op_add pe_int (pe_call (ok_l_digit T) (hr.mono (by decide)) (by rfl) T.g_l_digit T.F_l_digit.kp T.b_l_digit .nil pass0 (pa_cons (pv 3) (pa_cons pe_int pa_nil)))) (pa_cons (pe_call (ok_l_bytes T) (hr.mono (by decide)) (by rfl) T.g_l_bytes T.F_l_bytes.kp T.b_l_bytes .nil pass0 (pa_cons (pv 3) (pa_cons (pe_call (ok_l_digit T) (hr.mono (by decide)) (by rfl) T.g_l_digit T.F_l_digit.kp T.b_l_digit .nil pass0 (pa_cons (pv 3) (pa_cons pe_int pa_nil))) pa_nil))) pa_nil))))
      (pss_cons (ps_if (pt_cmpR op_eq (pv 4) pe_int (nomark _)) (pss_one (ps_set (i := 5) sc_l_stream.nd rfl (Or.inl rfl) (pe_call (ok_l_bytes T) (hr.mono (by decide)) (by rfl) T.g_l_bytes T.F_l_bytes.kp T.b_l_bytes .nil pass0 (pa_cons (pv 3) (pa_cons (pe_call (ok_l_digit T) (hr.mono (by decide)) (by rfl) T.g_l_digit T.F_l_digit.kp T.b_l_digit .nil pass0 (pa_cons (pv 3) (pa_cons pe_int pa_nil))) pa_nil))))) pss_nil)
      (pss_cons (ps_if (pt_cmpR op_eq (pv 4) pe_int (nomark _)) (pss_one (ps_set (i := 5) sc_l_stream.nd rfl (Or.inl rfl) (pe_lst (pa_cons pe_int (pa_cons pe_int (pa_cons pe_int (pa_cons (pe_call (ok_l_digit T) (hr.mono (by decide)) (by rfl) T.g_l_digit T.F_l_digit.kp T.b_l_digit .nil pass0 (pa_cons (pv 3) (pa_cons pe_int pa_nil))) pa_nil))))))) pss_nil)
      (pss_cons (ps_if (pt_cmpR op_eq (pv 4) pe_int (nomark _)) (pss_one (ps_set (i := 5) sc_l_stream.nd rfl (Or.inl rfl) (pe_slice sl_list (pv 5) po_none (po_some (pe_call (ok_l_digit T) (hr.mono (by decide)) (by rfl) T.g_l_digit T.F_l_digit.kp T.b_l_digit .nil pass0 (pa_cons (pv 3) (pa_cons (pe_callB call_len_seq (by rfl) T.m_len (by decide +kernel) (pa_cons (pv 5) pa_nil)) pa_nil))))))) pss_nil)
      (pss_one (ps_set (i := 1) sc_l_stream.nd rfl (Or.inl rfl) (pe_op op_catF (pv 1) (pv 5)))))))))))
      (pss_one (ps_ret (pv 1))))), enter h fun F xs cs post hE hw => ?_⟩)
  obtain ⟨ms, rfl, rfl, hm, q⟩ := hw
  refine ws_seqP (fun _ : Unit => True) (fun _ => ⟨[some (.dat (.lst (ms.map D.int))), some (.dat (.lst [])), none, none, none, none], []⟩) (fun _ _ => ?_) ?_
  rotate_left
  · walk_at "D"
    exact ⟨(), trivial, .fz 0 _ rfl .cut⟩
  walk_at "D"
  refine loop_cut (fun es ρ => ∃ (rest acc : List Int) (a2 a3 a4 a5 : Option AV), es = rest.map D.int ∧ Byts acc ∧ acc.length + 100 * rest.length ≤ 100 * ms.length ∧ ρ = ⟨[some (.dat (.lst (ms.map D.int))), some (.dat (.lst (acc.map D.int))), a2, a3, a4, a5], []⟩) ⟨ms, [], _, _, _, _, rfl, (fun _ z => nomatch z), by simp, rfl⟩ ?_ ?_
  · rintro ρ ⟨rest, acc, a2, a3, a4, a5, e1, hb, hl, rfl⟩
    have e3 : rest = [] := by cases rest with | nil => rfl | cons => cases e1
    subst e3
    refine ⟨.dat _, ?_⟩
    walk_at "D"
    exact fin_dat rfl (q acc hb (by rw [List.length_nil] at hl; omega))
  · rintro d es ρ ⟨rest, acc, a2, a3, a4, a5, e1, hb, hl, rfl⟩
    refine ⟨.dat _, ?_⟩
    cases rest with
    | nil => cases e1
    | cons c rest =>
    obtain ⟨rfl, rfl⟩ := List.cons.inj e1
    rw [List.length_cons] at hl
    refine wg_name ?_
    refine ws_wipe [3, 4, 5] ?_
    show WpS K F _ ⟨[some (.dat (.lst (ms.map D.int))), some (.dat (.lst (acc.map D.int))), some (.dat (.int c)), none, none, none], []⟩ _
    refine ws_seqP (fun _ : Unit => True) (fun _ => ⟨[some (.dat (.lst (ms.map D.int))), some (.dat (.lst (acc.map D.int))), some (.dat (.int c)), some (.cel 0), none, none], [.lst [.int c]]⟩) (fun _ _ => ?_) ?_
    rotate_left
    · walk_at "D"
      exact ⟨(), trivial, .tr .all⟩
    refine ws_seqP (fun way : Int => True) (fun way => ⟨[some (.dat (.lst (ms.map D.int))), some (.dat (.lst (acc.map D.int))), some (.dat (.int c)), some (.cel 0), some (.dat (.int way)), none], [.drw]⟩) (fun way _ => ?_) ?_
    rotate_left
    · walk_at "D"
      refine wsp_drw (j := 0) rfl ?_
      walk_at "nr2"
      refine wsp_digit rfl (by decide) (by decide) fun way w0 w1 => ?_
      walk_at "D"
      exact ⟨way, trivial, .tr .all⟩
    refine ws_seqP (fun th : List Int => Byts th ∧ th.length ≤ 95 ∧ (way = 5 → 0 < th.length)) (fun th => ⟨[some (.dat (.lst (ms.map D.int))), some (.dat (.lst (acc.map D.int))), some (.dat (.int c)), some (.cel 0), some (.dat (.int way)), some (.dat (.lst (th.map D.int)))], [.drw]⟩) (fun th hth => ?_) ?_
    rotate_left
    · walk_at "D"
      refine wsp_digit rfl (by decide) (by decide) fun k k0 k1 => ?_
      walk_at "D"
      refine wsp_digit rfl (by decide) (by decide) fun m m0 m1 => ?_
      walk_at "D"
      walk_at "cd"
      refine ⟨m, rfl, rfl, m0, by omega, fun body bb lb => ⟨rfl, by rw [hards_int, Bool.or_true], ?_⟩⟩
      walk_at "D"
      walk_at "c"
      refine ⟨1 + k, body, rfl, rfl, by omega, by omega, bb, by omega, aft_hards (hards_int _) ?_⟩
      have lB := boxed_le (1 + k) body (by omega)
      have lB0 := boxed_len (1 + k) body
      walk_at "D"
      exact ⟨boxedI (1 + k) body, ⟨boxedI_byts (by omega) (by omega) bb, by omega, fun _ => by omega⟩, .fz 2 _ rfl .cut⟩
    obtain ⟨t1, t2, t3⟩ := hth
    refine ws_seqP (fun th : List Int => Byts th ∧ th.length ≤ 95 ∧ (way = 5 → 0 < th.length)) (fun th => ⟨[some (.dat (.lst (ms.map D.int))), some (.dat (.lst (acc.map D.int))), some (.dat (.int c)), some (.cel 0), some (.dat (.int way)), some (.dat (.lst (th.map D.int)))], [.drw]⟩) (fun th hth => ?_) ?_
    rotate_left
    · walk_at "D"
      refine ifC (fun c => ?_) (fun c => ?_)
      · have c : way = 3 := of_decide_eq_true c
        walk_at "D"
        refine wsp_digit rfl (by decide) (by decide) fun m m0 m1 => ?_
        walk_at "D"
        walk_at "cd"
        refine ⟨m, rfl, rfl, m0, by omega, fun body bb lb => ⟨rfl, by rw [hards_int, Bool.or_true], ?_⟩⟩
        walk_at "D"
        exact ⟨body, ⟨bb, by omega, fun z => by omega⟩, .fz 1 _ rfl .cut⟩
      · walk_at "D"
        exact ⟨th, ⟨t1, t2, t3⟩, .tr .all⟩
    clear t1 t2 t3
    obtain ⟨t1, t2, t3⟩ := hth
    refine ws_seqP (fun th : List Int => Byts th ∧ th.length ≤ 95 ∧ (way = 5 → 0 < th.length)) (fun th => ⟨[some (.dat (.lst (ms.map D.int))), some (.dat (.lst (acc.map D.int))), some (.dat (.int c)), some (.cel 0), some (.dat (.int way)), some (.dat (.lst (th.map D.int)))], [.drw]⟩) (fun th hth => ?_) ?_
    rotate_left
    · walk_at "D"
      refine ifC (fun c => ?_) (fun c => ?_)
      · have c : way = 4 := of_decide_eq_true c
        walk_at "D"
        refine wsp_digit rfl (by decide) (by decide) fun m m0 m1 => ?_
        walk_at "D"
        refine ⟨[0, 0, 1, m], ⟨fun y hy => ?_, (show 4 ≤ 95 by decide), fun z => by omega⟩, .fz 1 _ rfl .cut⟩
        simp only [List.mem_cons, List.not_mem_nil, or_false] at hy
        omega
      · walk_at "D"
        exact ⟨th, ⟨t1, t2, t3⟩, .tr .all⟩
    clear t1 t2 t3
    obtain ⟨t1, t2, t3⟩ := hth
    refine ws_seqP (fun th : List Int => Byts th ∧ th.length ≤ 95) (fun th => ⟨[some (.dat (.lst (ms.map D.int))), some (.dat (.lst (acc.map D.int))), some (.dat (.int c)), some (.cel 0), some (.dat (.int way)), some (.dat (.lst (th.map D.int)))], [.drw]⟩) (fun th hth => ?_) ?_
    rotate_left
    · walk_at "D"
      refine ifC (fun c => ?_) (fun c => ?_)
      · have c : way = 5 := of_decide_eq_true c
        have := t3 c
        walk_at "D"
        rw [List.length_map]
        refine wsp_digit rfl (by omega) (by omega) fun m m0 m1 => ?_
        walk_at "D"
        rw [cut_int]
        walk_at "D"
        refine ⟨cutI th none (some m), ⟨fun y hy => t1 y (cutI_mem hy), Nat.le_trans (cutI_len _ _ _) t2⟩, .fz 1 _ rfl .cut⟩
      · walk_at "D"
        exact ⟨th, ⟨t1, t2⟩, .tr .all⟩
    clear t1 t2 t3
    obtain ⟨t1, t2⟩ := hth
    walk_at "D"
    refine wr_frz ?_
    refine wr_cat (ds := acc.map D.int) (es := th.map D.int) (.dat _) (.dat _) (by rw [List.length_map, List.length_map]; omega) ?_
    rw [← List.map_append]
    refine ⟨_, _, rfl, rfl, ?_⟩
    walk_at "D"
    exact now ⟨rest, acc ++ th, _, _, _, _, rfl, Byts.cat hb t1, by rw [List.length_append]; omega, rfl⟩
def wLEnded : PW0 := fun xs cs post _ => ∃ (fs : List Bq) (lo hi : Nat), xs = [.dat (.lst (fs.map Bq.seen)), .dat (.lst (fs.map fun x => .int (x.e : Int))), .dat (.int (lo : Int)), .dat (.int (hi : Int))] ∧ cs = [] ∧ fs.length ≤ 80000 ∧ post (.new ((endB fs lo hi).map Bq.seen)) []
theorem endB_app (a b : List Bq) (lo hi : Nat) : endB (a ++ b) lo hi = endB a lo hi ++ endB b lo hi := List.filter_append ..
theorem ok_l_ended (T : Txt K mg) : FnOk P w K mg base CX0 1 T.a_l_ended T.d_l_ended ["_law_due", "_law_ends", "_law_low", "_law_high"] (spG K wLEnded) := by
  refine T.F_l_ended.ok sc_l_ended (fun vs H Q E h => spG_len h fun xs cs post exc ⟨a, b, c, e, _⟩ => by rw [e]; rfl) (fun cdv A outer s H vs Q E hr h => ⟨_, (pss_one (ps_ret (pe_lc (own := [("_law_k", 4)]) (g := gName 4) (by rfl) sc_l_ended.nd (pi_range1 (by rfl) T.m_range (pa_cons (pe_callB call_len_seq (by rfl) T.m_len (by decide +kernel) (pa_cons (pv 0) pa_nil)) pa_nil)) (blkOk_by (own := [("_law_k", 4)]) (N := N_l_ended) (sc := defScope s_l_ended) (by decide +kernel)) (fun _ _ _ _ _ => (pg_name (i := 4) sc_l_ended.nd rfl (Or.inl rfl))) (fun _ _ _ _ _ => (pts_one (pt_chain op_lt op_le (pv 2) (pe_ix (ix_listK (K := K) rfl) (pv 1) (pv 4) (fun _ _ => rfl)) (pv 3)))) (fun _ _ _ _ _ => (pe_ix (ix_listK (K := K) rfl) (pv 0) (pv 4) (fun _ _ => rfl)))))), enter h fun F xs cs post hE hw => ?_⟩)
  obtain ⟨fs, lo, hi, rfl, rfl, hl, q⟩ := hw
  walk_at "D"
  walk_at "nr4"
  rw [List.length_map]
  refine ⟨by omega, ?_⟩
  rw [show ((fs.length : Int)).toNat = fs.length by omega]
  refine loopC_rng (fun i ρ => ρ = ⟨[some (.dat (.lst (fs.map Bq.seen))), some (.dat (.lst (fs.map fun x => .int (x.e : Int)))), some (.dat (.int (lo : Int))), some (.dat (.int (hi : Int))), none], [.lst ((endB (fs.take i) lo hi).map Bq.seen)]⟩) rfl ?_ ?_
  · rintro ρ rfl
    refine ⟨trivial, ?_⟩
    rw [List.take_length]
    exact ⟨_, .cel (j := 0) (Nat.zero_le _) rfl, rfl, q⟩
  · rintro i ρ hi2 rfl
    refine ⟨trivial, ?_⟩
    have a1 : atI (fs.map fun x => D.int (x.e : Int)) (0 + (i : Int)) = some (.int (fs[i].e : Int)) := by
      have := atI_nat (xs := fs.map fun x => D.int (x.e : Int)) (j := i) (v := D.int (fs[i].e : Int)) (by rw [List.getElem?_map, List.getElem?_eq_getElem hi2]; rfl)
      rw [show 0 + (i : Int) = (i : Int) by omega]
      exact this
    have a2 : atI (fs.map Bq.seen) (0 + (i : Int)) = some fs[i].seen := by
      have := atI_nat (xs := fs.map Bq.seen) (j := i) (v := fs[i].seen) (by rw [List.getElem?_map, List.getElem?_eq_getElem hi2]; rfl)
      rw [show 0 + (i : Int) = (i : Int) by omega]
      exact this
    have et : fs.take (i + 1) = fs.take i ++ [fs[i]] := by rw [List.take_succ, List.getElem?_eq_getElem hi2]; rfl
    have le : (endB (fs.take i) lo hi).length ≤ 80000 := Nat.le_trans (List.length_filter_le _ _) (by rw [List.length_take]; omega)
    walk_at "D"
    refine we_chain ?_
    walk_at "D"
    refine wr_ixL (.dat _) a1 ?_
    walk_at "D"
    have eB : ∀ p : Bool, (decide (lo < fs[i].e) && decide (fs[i].e ≤ hi)) = p → endB (fs.take (i + 1)) lo hi = endB (fs.take i) lo hi ++ if p = true then [fs[i]] else [] := fun p hp => by
      rw [et, endB_app]
      congr 1
      unfold endB
      rw [List.filter_cons, hp]
      rfl
    refine ifC (fun c => ?_) (fun c => ?_)
    · have c := of_decide_eq_true c
      walk_at "D"
      refine ifC (fun c2 => ?_) (fun c2 => ?_)
      · have c2 := of_decide_eq_true c2
        walk_at "D"
        refine wr_ixL (.dat _) a2 ?_
        refine ⟨_, _, _, .dat .nil, rfl, by rw [List.length_map]; omega, now ?_⟩
        rw [eB true (by rw [decide_eq_true (show lo < fs[i].e by omega), decide_eq_true (show fs[i].e ≤ hi by omega)]; rfl), if_pos rfl, List.map_append]
        rfl
      · have c2 := of_decide_eq_false c2
        refine now ?_
        rw [eB false (by rw [decide_eq_false (show ¬ fs[i].e ≤ hi by omega), Bool.and_false]), if_neg Bool.false_ne_true, List.append_nil]
        rfl
    · have c := of_decide_eq_false c
      refine ⟨false, rfl, ?_⟩
      refine now ?_
      rw [eB false (by rw [decide_eq_false (show ¬ lo < fs[i].e by omega), Bool.false_and]), if_neg Bool.false_ne_true, List.append_nil]
      rfl
theorem wsp_cls {K : PySem.W.Frag} {F : Fx} {ρ : En} {k : AV → En → Prop} {sp : Sp} {E : L2.St → XK} {xs : List AV} {j : Nat} (hj : j < ρ.ce.length) (h : ∀ a, ∃ ys, Ptr j a ys xs ∧ WpSp K F sp E ys ρ k) : WpSp K F sp E xs ρ k := fun as σ H G vs e r Q q => by
  obtain ⟨a, ha⟩ : ∃ a, as[j]? = some a := ⟨_, List.getElem?_eq_getElem (by rw [e.ln]; exact hj)⟩
  obtain ⟨ys, hp, hw⟩ := h a
  have r1 : ∀ {ys xs : List AV}, Ptr j a ys xs → ∀ {vs : List V}, RepAs K G as xs vs → RepAs K G as ys vs := fun hq => by
    induction hq with
    | nil => exact fun r => r
    | same _ ih => exact fun r => by cases r with | cons x y => exact .cons x (ih y)
    | ptr _ ih =>
      exact fun r => by
        cases r with
        | cons x y =>
          obtain ⟨b, hb, rfl⟩ := x
          rw [ha] at hb
          cases hb
          exact .cons (Rep.cls a) (ih y)
  exact hw as σ H G vs e (r1 hp r) Q q
def wLRefused (CF CG : Addr) : PW0 := fun xs cs post _ => ∃ (d : D) (t : Option Addr) (re no : Int) (gr : Option GSt), xs = [.cel 0, .dat d] ∧ cs = [.reg t (feedX CF CG re no gr)] ∧ OddR d ∧ post (.dat (.bl true)) [.reg t (feedX CF CG re no gr)]
theorem ok_l_refused (T : Txt K mg) : FnOk P w K mg base CX0 10 T.a_l_refused T.d_l_refused ["_law_feed", "_law_odd"] (spG K (wLRefused T.c_Feed T.c_Growing)) := by
  refine T.F_l_refused.ok sc_l_refused (fun vs H Q E h => spG_len h fun xs cs post exc ⟨a, b, c, d, e, f, _⟩ => by rw [f]; rfl) (fun cdv A outer s H vs Q E hr h => ⟨_, (pss_cons (ps_tryT rfl rfl takes0
        (fun W pn xe tk po => (pss_one (ps_expr (pe_methT (pv 0) T.cl_Feed T.mt_Feed_take (ok_Feed_take T) (hr.mono (by decide)) T.b_Feed_take (fun σ => passAt tk σ) (pa_cons (pv 1) pa_nil)))))
        (.named (i := 2) sc_l_refused.nd rfl rfl ⟨rfl, by decide, .inl T.g_NoBytes⟩ (fun a oe cls d pn hz hf => (pss_one (ps_ret (pe_not (pe_callB (call_isEs (K := K) rfl hz hf) (by rfl) T.m_isinstance (by decide +kernel) (pa_cons (pv 2) (pa_cons (pe_tup (pa_cons (pe_glob (v := .ref T.c_NoKind) (by rfl) T.g_NoKind rfl) (pa_cons (pe_glob (v := .ref T.c_NoPlace) (by rfl) T.g_NoPlace rfl) pa_nil))) pa_nil))))))) (.bare ⟨rfl, by decide, .inl T.g_ScrollError⟩ (fun a oe cls d pn hz hf => (pss_one (ps_ret pe_bl))) .nil)))
      (pss_one (ps_ret pe_bl))), enter h fun F xs cs post hE hw => ?_⟩)
  obtain ⟨d, t, re, no, gr, rfl, rfl, hd, q⟩ := hw
  refine ws_seq ?_
  walk_at "nr2"
  refine ws_tryT (fun C ρ' => C = T.c_NoBytes ∧ ρ' = ⟨[some (.cel 0), some (.dat d), none], [.reg t (feedX T.c_Feed T.c_Growing re no gr)]⟩) (fun F1 W _ hW => ?_) (fun C ρ' hx => ?_)
  · refine ws_drop ?_
    refine we_methSR (C := T.c_Feed) ?_
    walk_at "D"
    refine ⟨_, .cel (j := 0) rfl, feedX_C rfl, ?_⟩
    walk_at "D"
    refine wsp_cls (j := 0) Nat.zero_lt_one fun a => ⟨_, .ptr (.same .nil), ?_⟩
    exact wspT hW (.dat (.dat .nil)) (.inr ⟨a, d, rfl, rfl, hd.1, hd.2.1, rfl, rfl⟩)
  · obtain ⟨rfl, rfl⟩ := hx
    refine ⟨true, T.em_NoBytes_NoBytes, fun e => ?_⟩
    refine ws_ret ?_
    refine we_notV ?_
    refine' we_isEs [T.c_NoKind, T.c_NoPlace] ?hv1 rfl T.xc_NoBytes (b := false) (kitAny_cons T.io_NoBytes_NoKind (fun _ => kitAny_cons T.io_NoBytes_NoPlace (fun _ => rfl) (fun z => nomatch z)) (fun z => nomatch z)) ?hz1
    (case hv1 => exact rfl)
    walk_at "D"
    refine we_cr (fun _ => Rep.cls _) ?_
    walk_at "D"
    refine we_cr (fun _ => Rep.cls _) ?_
    walk_at "D"
    refine ⟨rfl, false, rfl, ?_⟩
    exact fin_dat rfl q
end
/-! ### comprehensions and loops whose invariants speak of the heap at their begin -/
theorem lcL {K : PySem.W.Frag} {a : Addr} {xs : List V} {g : TG} {tt : TT} {te : TE} {vs : List Nat} {σ : L2.St} {H1 : Hp} {D : Addr} {Qd : Hp → Prop} (Pv : Hp → Nat → Hp → Prop) (h0 : Pv H1 0 (upd H1 D (.lst []))) (hl : ∀ i H, i ≤ xs.length → Pv H1 i H → SqL K H a xs)
    (hs : ∀ i x H, xs[i]? = some x → Pv H1 i H → g x (wipe σ vs) H fun σ2 H2 => wipe σ2 vs = wipe σ vs ∧ tt σ2 H2 fun b H3 =>
      if b = true then te σ2 H3 fun y H4 => ∃ acc, H4 D = some (.lst acc) ∧ acc.length < sizeLine ∧ Pv H1 (i + 1) (upd H4 D (.lst (acc ++ [y]))) else Pv H1 (i + 1) H3) (hd : ∀ H, Pv H1 xs.length H → Qd H) :
    ∃ W : Nat → Nat → Hp → Prop, (∃ m, W 0 m (upd H1 D (.lst []))) ∧ ∀ i m H, W i m H →
      ((Itl K a).stop i H ∧ Qd H) ∨ ((Itl K a).go i H ∧ ∃ Nx : Hp → Prop, (∀ H', Nx H' → ∃ m', m' < m ∧ W (i + 1) m' H') ∧ ∀ x H', (Itl K a).yld i H x H' → g x (wipe σ vs) H' fun σ2 H2 => wipe σ2 vs = wipe σ vs ∧ tt σ2 H2 fun b H3 =>
        if b = true then te σ2 H3 fun y H4 => ∃ acc, H4 D = some (.lst acc) ∧ acc.length < sizeLine ∧ Nx (upd H4 D (.lst (acc ++ [y]))) else Nx H3) := lc_list (Pv H1) h0 hl hs hd
theorem lcR {lo : Int} {n : Nat} {g : TG} {tt : TT} {te : TE} {vs : List Nat} {σ : L2.St} {H1 : Hp} {D : Addr} {Qd : Hp → Prop} (Pv : Hp → Nat → Hp → Prop) (h0 : Pv H1 0 (upd H1 D (.lst [])))
    (hs : ∀ i H, i < n → Pv H1 i H → g (.int (lo + i)) (wipe σ vs) H fun σ2 H2 => wipe σ2 vs = wipe σ vs ∧ tt σ2 H2 fun b H3 =>
      if b = true then te σ2 H3 fun y H4 => ∃ acc, H4 D = some (.lst acc) ∧ acc.length < sizeLine ∧ Pv H1 (i + 1) (upd H4 D (.lst (acc ++ [y]))) else Pv H1 (i + 1) H3) (hd : ∀ H, Pv H1 n H → Qd H) :
    ∃ W : Nat → Nat → Hp → Prop, (∃ m, W 0 m (upd H1 D (.lst []))) ∧ ∀ i m H, W i m H →
      ((Itr lo n).stop i H ∧ Qd H) ∨ ((Itr lo n).go i H ∧ ∃ Nx : Hp → Prop, (∀ H', Nx H' → ∃ m', m' < m ∧ W (i + 1) m' H') ∧ ∀ x H', (Itr lo n).yld i H x H' → g x (wipe σ vs) H' fun σ2 H2 => wipe σ2 vs = wipe σ vs ∧ tt σ2 H2 fun b H3 =>
        if b = true then te σ2 H3 fun y H4 => ∃ acc, H4 D = some (.lst acc) ∧ acc.length < sizeLine ∧ Nx (upd H4 D (.lst (acc ++ [y]))) else Nx H3) := lc_range (Pv H1) h0 hs hd
theorem forL {K : PySem.W.Frag} {a : Addr} {xs : List V} {g : TG} {tb : TS} {D : Ends} {σ : L2.St} {H : Hp} (Pv : Hp → Nat → L2.St → Hp → Prop) (h0 : Pv H 0 σ H) (hl : ∀ i σ H', i ≤ xs.length → Pv H i σ H' → SqL K H' a xs)
    (hs : ∀ i x σ H', xs[i]? = some x → Pv H i σ H' → g x σ H' fun σ2 H2 => tb { D with nx := Pv H (i + 1), ct := Pv H (i + 1), bk := D.nx } σ2 H2) (hd : ∀ σ H', Pv H xs.length σ H' → D.nx σ H') :
    ∃ W : Nat → Nat → L2.St → Hp → Prop, (∃ m, W 0 m σ H) ∧ ∀ i m σ H, W i m σ H →
      ((Itl K a).stop i H ∧ D.nx σ H) ∨ ((Itl K a).go i H ∧ ∃ N : L2.St → Hp → Prop, (∀ σ' H', N σ' H' → ∃ m', m' < m ∧ W (i + 1) m' σ' H') ∧ ∀ x H', (Itl K a).yld i H x H' → g x σ H' fun σ2 H2 => tb { D with nx := N, ct := N, bk := D.nx } σ2 H2) := for_list (Pv H) h0 hl hs hd
theorem forR {lo : Int} {n : Nat} {g : TG} {tb : TS} {D : Ends} {σ : L2.St} {H : Hp} (Pv : Hp → Nat → L2.St → Hp → Prop) (h0 : Pv H 0 σ H)
    (hs : ∀ i σ H', i < n → Pv H i σ H' → g (.int (lo + i)) σ H' fun σ2 H2 => tb { D with nx := Pv H (i + 1), ct := Pv H (i + 1), bk := D.nx } σ2 H2) (hd : ∀ σ H', Pv H n σ H' → D.nx σ H') :
    ∃ W : Nat → Nat → L2.St → Hp → Prop, (∃ m, W 0 m σ H) ∧ ∀ i m σ H, W i m σ H →
      ((Itr lo n).stop i H ∧ D.nx σ H) ∨ ((Itr lo n).go i H ∧ ∃ N : L2.St → Hp → Prop, (∀ σ' H', N σ' H' → ∃ m', m' < m ∧ W (i + 1) m' σ' H') ∧ ∀ x H', (Itr lo n).yld i H x H' → g x σ H' fun σ2 H2 => tb { D with nx := N, ct := N, bk := D.nx } σ2 H2) := for_range (Pv H) h0 hs hd
/-- a call's answer when nothing but it matters: the heap by a name -/
theorem name_heap {P : Hp → Prop} {H : Hp} (h : ∀ H', H' = H → P H') : P H := h H rfl
/-! ### a block whose writes touch nothing that stood before it -/
theorem EnvOk.later {K : PySem.W.Frag} {F : Fx} {ρ : En} {as : List Addr} {σ : L2.St} {H H' G : Hp} (e : EnvOk K F ρ as σ H G) (s : Same H H') : EnvOk K F ρ as σ H' G := by
  refine ⟨fun a u h => s _ _ (e.gh _ _ h), Same.trans e.fh s, e.fg, e.g0, e.nd, e.pr, e.ln, fun j c a hc ha => ?_, e.sn, e.sl, by obtain ⟨Ts, r⟩ := e.rg; exact ⟨Ts, r.same (fun _ _ _ _ h => s _ _ h) (fun _ _ _ g => g) (fun _ z => z) fun _ _ z => .inl z⟩⟩
  obtain ⟨f, ⟨u, hu⟩, ok⟩ := e.ce j c a hc ha
  refine ⟨f, ⟨u, s _ _ hu⟩, ?_⟩
  cases c with
  | gone => trivial
  | reg t X => exact ok
  | lst ds => obtain ⟨g, vs, h, r⟩ := ok; exact ⟨g, vs, s _ _ h, r⟩
  | ins C9 ns9 ds => obtain ⟨g, dx9, vs, h, ln9, r⟩ := ok; exact ⟨g, dx9, vs, s _ _ h, ln9, r⟩
  | drw => obtain ⟨g, vs, h, r⟩ := ok; exact ⟨g, vs, s _ _ h, r⟩
  | oth X => obtain ⟨g, o9, h, r⟩ := ok; exact ⟨g, o9, s _ _ h, r⟩
theorem ws_low {K : PySem.W.Frag} {F : Fx} {ρ : En} {t : TS} {ks : KS} (vs : List Nat) (h : ∀ as σ H G D, EnvOk K F ρ as σ H G → (∀ σ' H', Same H H' → L2.wipe σ' vs = L2.wipe σ vs → D.nx σ' H') → t D σ H) (hk : ks.nx (ρ.wipe vs)) : WpS K F t ρ ks := fun as σ H G e D q =>
  h as σ H G D e fun σ' H' s w => q.nx _ as σ' H' G hk ((e.later s).wipe w) .refl
theorem len10 {σ : L2.St} (h : σ.length = 10) : ∃ s0 s1 s2 s3 s4 s5 s6 s7 s8 s9, σ = [s0, s1, s2, s3, s4, s5, s6, s7, s8, s9] := by
  match σ, h with
  | [s0, s1, s2, s3, s4, s5, s6, s7, s8, s9], _ => exact ⟨s0, s1, s2, s3, s4, s5, s6, s7, s8, s9, rfl⟩
theorem isi_list {K : PySem.W.Frag} {H : Hp} {a : Addr} {vs : List V} {Q : VK} (h : SqL K H a vs) (q : Q (.bl true) H) : rIsi K [.ref a, .ty "list"] H Q := ⟨_, _, _, _, true, rfl, .ty _, LK.SqL.ty h, kit_ty (by decide +kernel : kitB "list" "list" = some true), q⟩
theorem isi_tup {K : PySem.W.Frag} {H : Hp} {a : Addr} {vs : List V} {Q : VK} (h : SqT K H a vs) (q : Q (.bl true) H) : rIsi K [.ref a, .ty "tuple"] H Q := ⟨_, _, _, _, true, rfl, .ty _, LK.SqT.ty h, kit_ty (by decide +kernel : kitB "tuple" "tuple" = some true), q⟩
theorem dp_of {K : PySem.W.Frag} {H : Hp} {d : D} {v : V} {n : Nat} (rr : Rep K H d v) (hf : fine n d = true) (hn : n ≤ 64) : Dp K H v (py d) ∧ SeqAt.shaped (py d) = true := by
  obtain ⟨x, y, z⟩ := fine_dp n d v hf rr
  refine ⟨x, ?_⟩
  unfold SeqAt.shaped
  rw [y, decide_eq_true (by omega : PyData.depth (py d) ≤ 64)]
  rfl
theorem ne_same {K : PySem.W.Frag} {H : Hp} {d : D} {v w : V} {n : Nat} {Q : VK} (r1 : Rep K H d v) (r2 : Rep K H d w) (hf : fine n d = true) (hn : n ≤ 64) (nb : noB d = true) (q : Q (.bl false) H) : rNeD K v w H Q := by
  obtain ⟨a, b⟩ := dp_of r1 hf hn
  obtain ⟨a2, b2⟩ := dp_of r2 hf hn
  refine ⟨_, _, a, a2, b, b2, ?_⟩
  rw [show PyData.eqv (py d) (py d) = true from (eqD_iff d d nb nb).mpr rfl]
  exact q
theorem fines_all {n : Nat} : ∀ {ds : List D}, (∀ d ∈ ds, fine n d = true) → fines n ds = true
  | [], _ => by cases n <;> rfl
  | d :: ds, h => by
    have h1 := h d List.mem_cons_self
    have h2 := fines_all fun y hy => h y (List.mem_cons_of_mem _ hy)
    have e : fines n (d :: ds) = (fine n d && fines n ds) := by cases n <;> rfl
    rw [e, h1, h2]; rfl
theorem noBs_all : ∀ {ds : List D}, (∀ d ∈ ds, noB d = true) → noBs ds = true
  | [], _ => rfl
  | d :: ds, h => by
    have h1 := h d List.mem_cons_self
    have h2 := noBs_all fun y hy => h y (List.mem_cons_of_mem _ hy)
    show (noB d && noBs ds) = true
    rw [h1, h2]; rfl
def seenD (a k : Int) (body : List Int) : D := .tup [.int a, .int k, .lst (body.map D.int)]
theorem fine_seen (n : Nat) (a k : Int) (body : List Int) : fine (n + 2) (seenD a k body) = true := by
  show (true && (true && (fine (n + 1) (.lst (body.map D.int)) && true))) = true
  rw [show fine (n + 1) (.lst (body.map D.int)) = fines n (body.map D.int) from rfl, fines_intsG]
  rfl
theorem noB_seen (a k : Int) (body : List Int) : noB (seenD a k body) = true := by
  show (true && (true && (noBs (body.map D.int) && true))) = true
  rw [noBs_intsG]
  rfl
theorem fine_told (fs : List Bq) : fine 3 (.lst (fs.map Bq.seen)) = true := fines_all (n := 2) fun d hd => by
  obtain ⟨x, _, rfl⟩ := List.mem_map.mp hd
  exact fine_seen 0 x.b x.k x.body
theorem noB_told (fs : List Bq) : noB (.lst (fs.map Bq.seen)) = true := noBs_all fun d hd => by
  obtain ⟨x, _, rfl⟩ := List.mem_map.mp hd
  exact noB_seen x.b x.k x.body
/-- a list of tuples whose last items are lists at such places -/
def Loose (K : PySem.W.Frag) (N : Addr → Prop) (H : Hp) (L : Nat) (vs : List V) : Prop := ∀ v ∈ vs, ∃ (t b : Addr) (x y : V) (ys : List V), v = .ref t ∧ SqT K H t [x, y, .ref b] ∧ H b = some (.lst ys) ∧ ys.length ≤ L ∧ N b
theorem Loose.of {K : PySem.W.Frag} {N : Addr → Prop} {H T : Hp} (s : Same T H) : ∀ {fs : List Bq} {vs : List V}, (∀ x ∈ fs, x.body.length ≤ 80000) → Reps K T (fs.map Bq.seen) vs → (∀ b o, T b = some o → N b) → Loose K N H 80000 vs
  | [], vs, _, r, _ => by
    rw [Reps.nilE r]
    exact fun v hv => nomatch hv
  | x :: fs, vs, hx, r, n => by
    obtain ⟨v, ws, rfl, r1, r2⟩ := Reps.consE (d := x.seen) (ds := fs.map Bq.seen) r
    intro u hu
    rcases List.mem_cons.mp hu with rfl | hu
    · obtain ⟨t, us, rfl, h1, h2⟩ := Rep.tupE r1
      obtain ⟨v1, us1, rfl, _, h2⟩ := h2.consE
      obtain ⟨v2, us2, rfl, _, h2⟩ := h2.consE
      obtain ⟨v3, us3, rfl, h3, h2⟩ := h2.consE
      rw [h2.nilE] at h1
      obtain ⟨b, ys, rfl, hb, hr⟩ := Rep.lstE h3
      exact ⟨t, b, v1, v2, ys, rfl, Same.seqT s h1, s _ _ hb, by rw [hr.length, List.length_map]; exact hx x List.mem_cons_self, n b _ hb⟩
    · exact Loose.of s (fun y hy => hx y (List.mem_cons_of_mem _ hy)) r2 n u hu
theorem SqT.keep {K : PySem.W.Frag} {H : Hp} {t b : Addr} {xs ys zs : List V} (h : SqT K H t xs) (hb : H b = some (.lst ys)) : SqT K (upd H b (.lst zs)) t xs := by
  refine LK.SqT.hard (fun a o ha => ?_) h
  by_cases c : a = b
  · subst c
    rw [hb] at ha
    cases ha
    exact .inr ⟨_, rfl⟩
  · exact .inl (by rw [upd_ne c]; exact ha)
theorem Loose.append {K : PySem.W.Frag} {N : Addr → Prop} {H : Hp} {L : Nat} {vs : List V} (h : Loose K N H L vs) {b : Addr} {ys : List V} {z : V} (hb : H b = some (.lst ys)) (hl : ys.length ≤ L) : Loose K N (upd H b (.lst (ys ++ [z]))) (L + 1) vs := fun v hv => by
  obtain ⟨t, c, x, y, us, rfl, h1, h2, h3, h4⟩ := h v hv
  by_cases q : c = b
  · subst q
    rw [h2] at hb
    cases hb
    exact ⟨t, c, x, y, ys ++ [z], rfl, SqT.keep h1 h2, upd_same, by rw [List.length_append, List.length_singleton]; omega, h4⟩
  · exact ⟨t, c, x, y, us, rfl, SqT.keep h1 hb, by rw [upd_ne q]; exact h2, by omega, h4⟩
theorem boxL_body {l : List Int} {y : Int × List Int × List Int} (h : boxL l = some y) : y.2.1.length ≤ l.length := by
  unfold boxL at h
  by_cases c : l.take 3 = [0, 0, 1]
  · rw [if_pos c] at h
    cases hr : l.drop 3 with
    | nil => rw [hr] at h; cases h
    | cons k r =>
      have lr := congrArg List.length hr
      rw [List.length_drop, List.length_cons] at lr
      rw [hr] at h
      dsimp only at h
      by_cases kk : 1 ≤ k ∧ k ≤ 9
      · rw [if_pos kk] at h
        cases hL : lawOn k (U r 0) with
        | none => rw [hL] at h; cases h
        | some w =>
          rw [hL] at h
          have h : some (k, w.1, w.2) = some y := h
          cases h
          show w.1.length ≤ _
          unfold lawOn at hL
          cases hn : numA ((U r 0).map Prod.fst) 0 with
          | none => rw [hn] at hL; cases hL
          | some v =>
            obtain ⟨n, p⟩ := v
            rw [hn] at hL
            dsimp only at hL
            split at hL
            · cases hL
            · split at hL
              · cases hL
              · split at hL
                · cases hL
                  have h1 := cutI_len ((U r 0).map Prod.fst) (some p) (some (p + n))
                  have h2 := U_len r 0
                  rw [List.length_map] at h1
                  show (cutI _ _ _).length ≤ _
                  omega
                · cases hL
      · rw [if_neg kk] at h; cases h
  · rw [if_neg c] at h; cases h
theorem lawB_body {row : List Int} {x : Bq} (h : x ∈ lawB 0 row) : x.body.length ≤ row.length := by
  obtain ⟨_, _, y, h3, _, h5, _⟩ := lawB_is row 0 x h
  have := boxL_body h3
  rw [List.length_drop] at this
  rw [h5]
  omega
theorem reps_ints {K : PySem.W.Frag} {G : Hp} : ∀ {ns : List Int} {vs : List V}, Reps K G (ns.map D.int) vs → vs = ns.map V.int
  | [], _, h => h.nilE
  | n :: ns, _, h => by
    obtain ⟨v, ws, rfl, r1, r2⟩ := Reps.consE (d := D.int n) (ds := ns.map D.int) h
    rw [r1.intE, reps_ints r2]
    rfl
/-! ### a block in which a private part changes -/
section
variable {K : PySem.W.Frag} {F : Fx} {ρ : En} {ks : KS} {t R : TS}
theorem EnvOk.laterR {as : List Addr} {σ : L2.St} {H H' G T' : Hp} {Ts : Nat → Hp} {j : Nat} {to : Option Addr} {X X' : RegX} {a : Addr} (e : EnvOk K F ρ as σ H G) (r : RegsAt Ts F.Fr G H as ρ.ce) (hj : ρ.ce[j]? = some (.reg to X)) (ha : as[j]? = some a) (s : ∀ b o, Ts j b = none → H b = some o → H' b = some o) (ho : ∃ o, H' a = some o) (ok : X'.ok T' G a) (hT : ∀ b o, T' b = some o → H' b = some o ∧ (Ts j b ≠ none ∨ H b = none)) : EnvOk K F (ρ.cell j (.reg to X')) as σ H' G := by
  have jl : j < ρ.ce.length := (List.getElem?_eq_some_iff.mp hj).1
  have off : ∀ {b : Addr} {o : HO}, G b = some o ∨ F.Fr b = some o → Ts j b = none := fun {b o} h => by
    cases z : Ts j b with
    | none => rfl
    | some u =>
      obtain ⟨_, g, f, _⟩ := r.pl j b u z
      rcases h with h | h
      · rw [g] at h; cases h
      · rw [f] at h; cases h
  refine ⟨fun b o h => s b o (off (.inl h)) (e.gh b o h), fun b o h => s b o (off (.inr h)) (e.fh b o h), e.fg, e.g0, e.nd, e.pr, by rw [e.ln]; exact List.length_set.symm, fun i c b hc hb => ?_, e.sn, e.sl, fun i => if i = j then T' else Ts i, fun i h b => ?_, fun i l b o u h1 h2 => ?_, fun i b o h => ?_, fun i t2 X2 b hc hb => ?_⟩
  · have hc : (ρ.ce.set j (.reg to X'))[i]? = some c := hc
    by_cases q : i = j
    · subst q
      rw [List.getElem?_set_self jl] at hc
      cases hc
      rw [ha] at hb
      cases hb
      obtain ⟨f, _, g⟩ := e.ce i _ a hj ha
      exact ⟨f, ho, g⟩
    · rw [List.getElem?_set_ne (fun z => q z.symm)] at hc
      obtain ⟨f, ⟨u, hu⟩, ok⟩ := e.ce i c b hc hb
      have nb : Ts j b = none := by
        cases z : Ts j b with
        | none => rfl
        | some u => exact absurd ((r.pl j b u z).2.2.2 i hb) q
      refine ⟨f, ⟨u, s b u nb hu⟩, ?_⟩
      cases c with
      | gone => trivial
      | reg t X => exact ok
      | lst ds => obtain ⟨g, vs, h, r⟩ := ok; exact ⟨g, vs, s _ _ nb h, r⟩
      | ins C9 ns9 ds => obtain ⟨g, dx9, vs, h, ln9, r⟩ := ok; exact ⟨g, dx9, vs, s _ _ nb h, ln9, r⟩
      | drw => obtain ⟨g, vs, h, r⟩ := ok; exact ⟨g, vs, s _ _ nb h, r⟩
      | oth X => obtain ⟨g, o9, h, r⟩ := ok; exact ⟨g, o9, s _ _ nb h, r⟩
  · show (if i = j then T' else Ts i) b = none
    by_cases q : i = j
    · exact absurd (show (ρ.ce.set j (.reg to X'))[i]? = some (.reg to X') by rw [q, List.getElem?_set_self jl]) (h to X')
    · rw [if_neg q]
      refine r.em i (fun t2 X2 z => h t2 X2 ?_) b
      show (ρ.ce.set j (.reg to X'))[i]? = _
      rw [List.getElem?_set_ne (fun z => q z.symm)]
      exact z
  · have clash : ∀ {i : Nat} {b : Addr} {o u : HO}, i ≠ j → Ts i b = some o → T' b = some u → False := fun {i b o u} q h1 h2 => by
      rcases (hT b u h2).2 with z | z
      · cases y : Ts j b with
        | none => exact z y
        | some w => exact q (r.dj i j b o w h1 y)
      · rw [(r.pl i b o h1).1] at z; cases z
    by_cases q1 : i = j
    · by_cases q2 : l = j
      · rw [q1, q2]
      · rw [if_pos q1] at h1
        rw [if_neg q2] at h2
        exact (clash q2 h2 h1).elim
    · by_cases q2 : l = j
      · rw [if_neg q1] at h1
        rw [if_pos q2] at h2
        exact (clash q1 h1 h2).elim
      · rw [if_neg q1] at h1
        rw [if_neg q2] at h2
        exact r.dj i l b o u h1 h2
  · by_cases q1 : i = j
    · rw [if_pos q1] at h
      obtain ⟨x, y⟩ := hT b o h
      rcases y with y | y
      · cases z : Ts j b with
        | none => exact absurd z y
        | some u =>
          obtain ⟨_, g, f, w⟩ := r.pl j b u z
          exact ⟨x, g, f, fun l hl => by rw [q1]; exact w l hl⟩
      · refine ⟨x, Same.none e.gh y, Same.none e.fh y, fun l hl => ?_⟩
        obtain ⟨c, hc⟩ : ∃ c, ρ.ce[l]? = some c := ⟨_, List.getElem?_eq_getElem (by rw [← e.ln]; exact (List.getElem?_eq_some_iff.mp hl).1)⟩
        obtain ⟨_, ⟨u, hu⟩, _⟩ := e.ce l c b hc hl
        rw [y] at hu
        cases hu
    · rw [if_neg q1] at h
      obtain ⟨x, g, f, w⟩ := r.pl i b o h
      refine ⟨s b o ?_ x, g, f, w⟩
      cases z : Ts j b with
      | none => rfl
      | some u => exact absurd (r.dj i j b o u h z) q1
  · have hc : (ρ.ce.set j (.reg to X'))[i]? = some (Cell.reg t2 X2) := hc
    by_cases q : i = j
    · subst q
      rw [List.getElem?_set_self jl] at hc
      cases hc
      rw [ha] at hb
      cases hb
      rw [if_pos rfl]
      exact ⟨(r.ok i _ _ a hj ha).1, ok⟩
    · rw [List.getElem?_set_ne (fun z => q z.symm)] at hc
      rw [if_neg q]
      exact r.ok i t2 X2 b hc hb
theorem ws_lowR (vs : List Nat) {j : Nat} {to : Option Addr} {X X' : RegX} (hj : ρ.ce[j]? = some (.reg to X))
    (h : ∀ as σ H G D T a, EnvOk K F ρ as σ H G → as[j]? = some a → X.ok T G a → (∀ b o, T b = some o → H b = some o ∧ G b = none) → (∀ σ' H' T', (∀ b o, T b = none → H b = some o → H' b = some o) → (∃ o, H' a = some o) → X'.ok T' G a → (∀ b o, T' b = some o → H' b = some o ∧ (T b ≠ none ∨ H b = none)) → L2.wipe σ' vs = L2.wipe σ vs → R D σ' H') → t D σ H)
    (hk : WpS K F R ((ρ.cell j (.reg to X')).wipe vs) ks) : WpS K F t ρ ks := fun as σ H G e D q => by
  obtain ⟨Ts, r⟩ := e.rg
  obtain ⟨a, ha⟩ : ∃ a, as[j]? = some a := ⟨_, List.getElem?_eq_getElem (by rw [e.ln]; exact (List.getElem?_eq_some_iff.mp hj).1)⟩
  exact h as σ H G D (Ts j) a e ha (r.ok j _ _ a hj ha).2 (fun b o hb => ⟨(r.pl j b o hb).1, (r.pl j b o hb).2.1⟩) fun σ' H' T' s ho ok hT w => hk as σ' H' G ((e.laterR r hj ha s ho ok hT).wipe w) D q
end
/-- a call by data alone, whose answer is a new list -/
theorem call_new {K : PySem.W.Frag} {W : PW0} {G H : Hp} {xs : List AV} {vs : List V} {ds : List D} {Q : VK} {E : XK} (s : Same G H) (r : RepAs K G [] xs vs) (hw : ∀ (post : RV → List Cell → Prop) exc, post (.new ds) [] → W xs [] post exc) (q : ∀ (a : Addr) (ws : List V) (G' H' : Hp), Same H H' → H a = none → H' a = some (.lst ws) → Same G' H' → Reps K G' ds ws → Q (.ref a) H') : spG K W vs H Q E := by
  refine ⟨G, [], fun _ _ => none, xs, [], fun r _ => r = .new ds, fun _ => False, s, ⟨rfl, List.nodup_nil, fun j c a hc => by simp at hc⟩, RegsAt.no (fun j t X z => by simp at z), r, hw _ _ rfl, ?_, fun _ _ z => z.elim⟩
  rintro r cs v H' G' Ts' rfl fr sG gh' nw ck rg' nwT rr
  obtain ⟨a, vs, rfl, na, _, ga, ha, hr⟩ := rr
  refine q a vs G' H' (fun b o h => fr b o (fun z => nomatch z) (fun _ => rfl) h) ?_ ha gh' hr
  rcases na.1 with z | ⟨i, z⟩
  · exact z
  · exact absurd rfl z
theorem repsAs {K : PySem.W.Frag} {G : Hp} : ∀ {ds : List D} {vs : List V}, Reps K G ds vs → RepAs K G [] (ds.map .dat) vs
  | [], _, h => by cases h; exact .nil
  | d :: ds, _, h => by cases h with | cons a b => exact .cons a (repsAs b)
/-- a part is taken -/
theorem call_take {K : PySem.W.Frag} {CF CG CN : Addr} {a l : Addr} {ns : List Int} {re no : Int} {gr : Option GSt} {m : Nat} {H T : Hp} {Q : VK} {E : XK} (hl : H l = some (.lst (ns.map V.int))) (hb : Byts ns) (h1 : ns.length ≤ m) (h2 : m ≤ 80000) (gi : ∀ st, gr = some st → GI m st) (sT : ∀ b o, T b = some o → H b = some o) (ok : ∀ G, (feedX CF CG re no gr).ok T G a) (nl : T l = none)
    (q : ∀ (r : Addr) (vs : List V) (T1 T' H' : Hp), (∀ b o, T b = none → H b = some o → H' b = some o) → (∀ G, (feedX CF CG (re + ns.length) (endF re no gr ns).1 (endF re no gr ns).2).ok T' G a) → (∀ b o, T' b = some o → H' b = some o ∧ (T b ≠ none ∨ H b = none) ∧ T1 b = none) → (H r = none ∨ T r ≠ none) → T' r = none → T1 r = none → H' r = some (.lst vs) → Same T1 H' → Reps K T1 ((runF re no gr ns).map boxD) vs → (∀ b o, T1 b = some o → b = l ∨ H b = none ∨ T b ≠ none) → T1 l ≠ none → Q (.ref r) H') : spG K (wTake CF CG CN) [.ref a, .ref l] H Q E := by
  obtain ⟨oa, hoa⟩ := feedX_at (ok (fun _ => none))
  have nal : a ≠ l := fun z => by rw [z, nl] at hoa; cases hoa
  have gL : ∀ b, T b ≠ none → (if b = l then some (HO.lst (ns.map V.int)) else none) = none := fun b hb => if_neg fun z => hb (by rw [z]; exact nl)
  refine ⟨fun b => if b = l then some (.lst (ns.map V.int)) else none, [a], fun i => if i = 0 then T else fun _ => none, [.cel 0, .dat (.lst (ns.map D.int))], [.reg none (feedX CF CG re no gr)], fun r cs => r = .new ((runF re no gr ns).map boxD) ∧ cs = [.reg none (feedX CF CG (re + ns.length) (endF re no gr ns).1 (endF re no gr ns).2)], fun _ => False, fun b o h => ?_, ⟨rfl, by simp, fun j c b hc hb => ?_⟩, ⟨fun j h b => ?_, fun i j b o u x y => ?_, fun i b o h => ?_, fun j t X b hc hb => ?_⟩, .cons ⟨a, rfl, rfl⟩ (.cons (Rep.lst (if_pos rfl) Reps.ofV) .nil), .inl ⟨ns, none, re, no, gr, m, rfl, rfl, hb, h1, h2, gi, rfl, rfl⟩, ?_, fun _ _ z => z.elim⟩
  · have h : (if b = l then some (HO.lst (ns.map V.int)) else none) = some o := h
    by_cases c : b = l
    · rw [if_pos c] at h
      cases h
      rw [c]
      exact hl
    · rw [if_neg c] at h; cases h
  · cases j with
    | zero =>
      cases hc
      cases hb
      exact ⟨⟨_, sT _ _ hoa⟩, gL a (by rw [hoa]; exact fun z => nomatch z)⟩
    | succ j => simp at hc
  · show (if j = 0 then T else fun _ => none) b = none
    by_cases c : j = 0
    · subst c
      exact absurd rfl (h none _)
    · rw [if_neg c]
  · by_cases c : i = 0
    · by_cases d : j = 0
      · rw [c, d]
      · rw [if_neg d] at y; cases y
    · rw [if_neg c] at x; cases x
  · by_cases c : i = 0
    · rw [if_pos c] at h
      refine ⟨sT b o h, gL b (by rw [h]; exact fun z => nomatch z), rfl, fun k hk => ?_⟩
      cases k with
      | zero => exact c.symm
      | succ k => simp at hk
    · rw [if_neg c] at h; cases h
  · cases j with
    | zero =>
      cases hc
      cases hb
      exact ⟨(fun g z => nomatch z), by rw [if_pos rfl]; exact ok _⟩
    | succ j => simp at hc
  · rintro r cs v H' G' Ts' ⟨rfl, rfl⟩ fr sG gh' nw ck rg' nwT rr
    obtain ⟨p, vs, rfl, na, nT, ga, ha, hr⟩ := rr
    refine q p vs G' (Ts' 0) H' (fun b o hbT h => fr b o ?_ (fun i => ?_) h) (fun G => feedX_any (rg'.ok 0 _ _ a rfl rfl).2) (fun b o hbo => ⟨(rg'.pl 0 b o hbo).1, ?_, (rg'.pl 0 b o hbo).2.1⟩) ?_ (nT 0) ga ha gh' hr (fun b o h => ?_) ?_
    · intro z
      rw [List.mem_singleton.mp z, hoa] at hbT
      cases hbT
    · show (if i = 0 then T else fun _ => none) b = none
      by_cases c : i = 0
      · rw [if_pos c]; exact hbT
      · rw [if_neg c]
    · rcases nwT 0 b o hbo with z | z | ⟨i, z⟩
      · exact .inr z
      · rw [List.mem_singleton.mp z, hoa]; exact .inl fun z => nomatch z
      · have z : (if i = 0 then T else fun _ => none) b ≠ none := z
        by_cases c : i = 0
        · rw [if_pos c] at z; exact .inl z
        · rw [if_neg c] at z; exact absurd rfl z
    · rcases na.1 with z | ⟨i, z⟩
      · exact .inl z
      · have z : (if i = 0 then T else fun _ => none) p ≠ none := z
        by_cases c : i = 0
        · rw [if_pos c] at z; exact .inr z
        · rw [if_neg c] at z; exact absurd rfl z
    · rcases nw b o h with z | z | ⟨i, z⟩
      · have z : (if b = l then some (HO.lst (ns.map V.int)) else none) = some o := z
        by_cases c : b = l
        · exact .inl c
        · rw [if_neg c] at z; cases z
      · exact .inr (.inl z)
      · have z : (if i = 0 then T else fun _ => none) b ≠ none := z
        by_cases c : i = 0
        · rw [if_pos c] at z; exact .inr (.inr z)
        · rw [if_neg c] at z; exact absurd rfl z
    · rw [sG l _ (if_pos rfl)]
      exact fun z => nomatch z
theorem len9 {σ : L2.St} (h : σ.length = 9) : ∃ s0 s1 s2 s3 s4 s5 s6 s7 s8, σ = [s0, s1, s2, s3, s4, s5, s6, s7, s8] := by
  match σ, h with
  | [s0, s1, s2, s3, s4, s5, s6, s7, s8], _ => exact ⟨s0, s1, s2, s3, s4, s5, s6, s7, s8, rfl⟩
theorem cutV_part {ns : List Int} {lo hi : Nat} (h1 : lo ≤ hi) (h2 : hi ≤ ns.length) : cutV (ns.map V.int) (some (lo : Int)) (some (hi : Int)) = ((ns.drop lo).take (hi - lo)).map V.int := by
  unfold cutV
  rw [List.length_map, sIx_in (by omega) (by omega), sIx_in (by omega) (by omega), ← List.map_drop, ← List.map_take]
  rw [show ((lo : Int)).toNat = lo by omega, show ((hi : Int)).toNat = hi by omega]

section
variable {P : Program} {w : World} {K : PySem.W.Frag} {mg : Str → Option Value} {base : Heap}
/-! ### whether a feed takes a part as it is due -/
theorem endB_body {row : List Int} {lo hi : Nat} {x : Bq} (h : x ∈ endB (lawB 0 row) lo hi) : x.body.length ≤ row.length := lawB_body (List.mem_filter.mp h).1
theorem noB_reach {m : Nat} : True := trivial
def wLTakes (CF CG : Addr) : PW0 := fun xs cs post _ => ∃ (row : List Int) (lo hi : Nat) (t : Option Addr), xs = [.cel 0, .dat (.lst (row.map D.int)), .dat (.int (lo : Int)), .dat (.int (hi : Int)), .dat (.lst ((lawB 0 row).map Bq.seen)), .dat (.lst ((lawB 0 row).map fun x => .int (x.e : Int)))] ∧ cs = [.reg t (feedX CF CG lo (endF 0 0 none (row.take lo)).1 (endF 0 0 none (row.take lo)).2)] ∧ Byts row ∧ row.length ≤ 70000 ∧ lo ≤ hi ∧ hi ≤ row.length ∧ post (.dat (.bl true)) [.reg t (feedX CF CG hi (endF 0 0 none (row.take hi)).1 (endF 0 0 none (row.take hi)).2)]
theorem ok_l_takes (T : Txt K mg) : FnOk P w K mg base CX0 10 T.a_l_takes T.d_l_takes ["_law_feed", "_law_row", "_law_low", "_law_high", "_law_due", "_law_ends"] (spG K (wLTakes T.c_Feed T.c_Growing)) := by
  refine T.F_l_takes.ok sc_l_takes (fun vs H Q E h => spG_len h fun xs cs post exc ⟨a, b, c, d, e, _⟩ => by rw [e]; rfl) (fun cdv A outer s H vs Q E hr h => ⟨_, (pss_cons (ps_set (i := 6) sc_l_takes.nd rfl (Or.inl rfl) (pe_slice sl_list (pv 1) (po_some (pv 2)) (po_some (pv 3))))
      (pss_cons (ps_set (i := 7) sc_l_takes.nd rfl (Or.inl rfl) (pe_meth (pv 0) T.cl_Feed T.mt_Feed_take (ok_Feed_take T) (hr.mono (by decide)) T.b_Feed_take .nil passL (pa_cons (pv 6) pa_nil)))
      (pss_cons (ps_if (PW.pt (pw_or (pt_not (pt_val (pe_callB call_isi (by rfl) T.m_isinstance (by decide +kernel) (pa_cons (pv 7) (pa_cons (pe_bltn (v := .ty "list") (by rfl) T.m_list (by decide +kernel) rfl) pa_nil))))) (pw_or (pt_cmpR (op_neD hr.units) (pv 7) (pe_call (ok_l_ended T) (hr.mono (by decide)) (by rfl) T.g_l_ended T.F_l_ended.kp T.b_l_ended .nil pass0 (pa_cons (pv 4) (pa_cons (pv 5) (pa_cons (pv 2) (pa_cons (pv 3) pa_nil))))) (nomark _)) (pw_or1 (pt_cmpR (op_neD hr.units) (pv 6) (pe_slice sl_list (pv 1) (po_some (pv 2)) (po_some (pv 3))) (nomark _)))))) (pss_one (ps_ret pe_bl)) pss_nil)
      (pss_cons (ps_for PassesOwn.never rfl (pi_list (pv 7)) (pg_name (i := 8) sc_l_takes.nd rfl (Or.inl rfl))
        (pss_one (ps_expr (pe_bm PySem.F.plainAttrs_list PySem.F.slot_list_append PySem.F.type_list_append mt_append (pe_ix ix_tup (pv 8) pe_int (fun _ _ => rfl)) (pa_cons pe_int pa_nil)))))
      (pss_cons (ps_expr (pe_bm PySem.F.plainAttrs_list PySem.F.slot_list_append PySem.F.type_list_append mt_append (pv 6) (pa_cons pe_int pa_nil)))
      (pss_cons (ps_expr (pe_bm0 PySem.F.plainAttrs_list PySem.F.slot_list_reverse PySem.F.type_list_reverse mt_reverse (pv 6)))
      (pss_one (ps_ret (pe_cmpR op_eq (pe_meth0 (pv 0) T.cl_Feed T.mt_Feed_taken (ok_Feed_taken T) (hr.mono (by decide)) T.b_Feed_taken .nil pass0) (pv 3) (nomark _)))))))))), enter h fun F xs cs post hE hw => ?_⟩)
  obtain ⟨row, lo, hi, t, rfl, rfl, hb, hl, h1, h2, q⟩ := hw
  generalize hR : (tRet (tOp _ (tMeth _ _ _ _ _ _ _) _) : TS) = R
  refine ws_lowR [6, 7, 8] (R := R) (j := 0) rfl (X' := feedX T.c_Feed T.c_Growing hi (endF 0 0 none (row.take hi)).1 (endF 0 0 none (row.take hi)).2) (fun as σ H0 G DD Tr a e ha ok sT kk => ?_) ?_
  rotate_left
  · show WpS K F _ ⟨[some (.cel 0), some (.dat (.lst (row.map D.int))), some (.dat (.int (lo : Int))), some (.dat (.int (hi : Int))), some (.dat (.lst ((lawB 0 row).map Bq.seen))), some (.dat (.lst ((lawB 0 row).map fun x => .int (x.e : Int)))), none, none, none], [.reg t (feedX T.c_Feed T.c_Growing hi (endF 0 0 none (row.take hi)).1 (endF 0 0 none (row.take hi)).2)]⟩ _
    subst hR
    refine ws_ret ?_
    refine we_op ?_
    refine we_methR (C := T.c_Feed) ?_
    walk_at "D"
    refine ⟨_, .cel (j := 0) rfl, feedX_C rfl, ?_⟩
    walk_at "D"
    refine wsp1 (j := 0) rfl rfl rfl ⟨t, _, _, _, rfl, rfl, _, rfl, rfl, ?_⟩
    walk_at "D"
    rw [show eqS (D.int (hi : Int)) (D.int (hi : Int)) = true from decide_eq_true rfl]
    exact fin_dat rfl q
  obtain ⟨vf, ef, rf⟩ := e.sl 0 _ rfl
  obtain ⟨vr, er, rr⟩ := e.sl 1 _ rfl
  obtain ⟨vlo, elo, rlo⟩ := e.sl 2 _ rfl
  obtain ⟨vhi, ehi, rhi⟩ := e.sl 3 _ rfl
  obtain ⟨vd, ed, rd⟩ := e.sl 4 _ rfl
  obtain ⟨ve, ee, re⟩ := e.sl 5 _ rfl
  obtain ⟨a2, ha2, rfl⟩ := rf
  rw [ha] at ha2
  cases ha2
  obtain ⟨r, rs, rfl, hr1, hr2⟩ := Rep.lstE rr
  have evlo : vlo = .int (lo : Int) := rlo.intE
  have evhi : vhi = .int (hi : Int) := rhi.intE
  subst evlo evhi
  obtain ⟨s0, s1, s2, s3, s4, s5, s6, s7, s8, rfl⟩ := len9 e.sn
  have ef2 : s0 = some (.ref a) := by injection ef
  have er2 : s1 = some (.ref r) := by injection er
  have el2 : s2 = some (.int (lo : Int)) := by injection elo
  have eh2 : s3 = some (.int (hi : Int)) := by injection ehi
  have ed2 : s4 = some vd := by injection ed
  have ee2 : s5 = some ve := by injection ee
  subst ef2 er2 el2 eh2 ed2 ee2
  have hrs := reps_ints hr2
  subst hrs
  have gT : ∀ b o, G b = some o → Tr b = none := fun b o h => by
    cases z : Tr b with
    | none => rfl
    | some u => rw [(sT b u z).2] at h; cases h
  have hH := e.gh _ _ hr1
  have gh := e.gh
  have hrT : Tr r = none := gT _ _ hr1
  have ok' : ∀ G', (feedX T.c_Feed T.c_Growing lo (endF 0 0 none (row.take lo)).1 (endF 0 0 none (row.take lo)).2).ok Tr G' a := fun G' => feedX_any ok
  obtain ⟨dxF, fsF, hTa, hlk⟩ := feedX_C (m := "take") rfl Tr G a ok
  have h0a := (sT _ _ hTa).1
  clear e ef er elo ehi ed ee rr rlo rhi hr1 hr2 ha
  refine ⟨_, rfl, _, rfl, (lo : Int), rfl, _, rfl, (hi : Int), rfl, r, _, rfl, SqL.of hH, fun l hl1 => ?_⟩
  rw [cutV_part h1 h2]
  have pb : Byts ((row.drop lo).take (hi - lo)) := fun y hy => hb y (List.mem_of_mem_drop (List.mem_of_mem_take hy))
  have pl1 : ((row.drop lo).take (hi - lo)).length = hi - lo := by rw [List.length_take, List.length_drop]; omega
  have pe := part_end (row := row) h1 h2
  have pf := part_law hb (by omega) h1 h2
  have gi0 := endF_gi (row.take lo) (hi - lo) 0 0 none (fun _ z => nomatch z) (by rw [List.length_take]; omega) (fun y hy => hb y (List.mem_of_mem_take hy))
  have nla : a ≠ l := fun z => by rw [z, hl1] at h0a; cases h0a
  have nTl : Tr l = none := by
    cases z : Tr l with
    | none => rfl
    | some u => have := (sT l u z).1; rw [hl1] at this; cases this
  generalize hpt : (row.drop lo).take (hi - lo) = part at *
  have hl2 : (upd H0 l (.lst (part.map V.int))) l = some (.lst (part.map V.int)) := upd_same
  have s01 : Same H0 (upd H0 l (.lst (part.map V.int))) := Same.new (Same.refl _) hl1
  refine ⟨_, rfl, a, dxF, fsF, rfl, s01 _ _ h0a, hlk, _, rfl, ?_⟩
  refine call_take (m := hi - lo) hl2 pb (by omega) (by omega) gi0 (fun b o h => s01 _ _ (sT b o h).1) ok' nTl fun p vs T1 T' H2 s12 okT hT' np nT1 nT2 hp sT1 hrs fr1 nTl1 => ?_
  rw [pf] at hrs
  rw [pe, show (lo : Int) + (part.length : Int) = (hi : Int) by omega] at okT
  have gH2 : Same G H2 := fun b o h => s12 b o (gT b o h) (s01 b o (gh b o h))
  have h2r : H2 r = some (.lst (row.map V.int)) := s12 _ _ hrT (s01 _ _ hH)
  have h2l : H2 l = some (.lst (part.map V.int)) := s12 _ _ nTl hl2
  have lpv : part.length ≤ 80000 := by omega
  have lvs : vs.length ≤ 80000 := by
    have x1 := hrs.length
    have x2 := lawB_len row 0
    have x3 : (endB (lawB 0 row) lo hi).length ≤ (lawB 0 row).length := List.length_filter_le _ _
    rw [List.length_map] at x1
    omega
  have npl : p ≠ l := fun z => nTl1 (by rw [← z]; exact nT2)
  have nT'l : T' l = none := by
    cases z : T' l with
    | none => rfl
    | some u => exact absurd (hT' l u z).2.2 nTl1
  refine ⟨_, rfl, ?_⟩
  dsimp only [tCons, tC, tNil]
  refine isi_list (SqL.of hp) ⟨true, rfl, ?_⟩
  refine ifF rfl ?_
  refine ⟨_, rfl, _, rfl, _, rfl, _, rfl, _, rfl, ?_⟩
  refine call_new (xs := [.dat (.lst ((lawB 0 row).map Bq.seen)), .dat (.lst ((lawB 0 row).map fun x : Bq => D.int (x.e : Int))), .dat (.int (lo : Int)), .dat (.int (hi : Int))]) (ds := (endB (lawB 0 row) lo hi).map Bq.seen) gH2 (.cons rd (.cons re (.cons (Rep.int _) (.cons (Rep.int _) .nil)))) (fun post exc hp => ⟨_, lo, hi, rfl, rfl, by have := lawB_len row 0; omega, hp⟩) fun p2 ws G2 H3 s23 np2 hp2 sG2 hrs2 => ?_
  refine ne_same (d := .lst ((endB (lawB 0 row) lo hi).map Bq.seen)) (.lst (s23 _ _ hp) (Reps.mono (Same.trans sT1 s23) _ _ hrs)) (.lst hp2 (Reps.mono sG2 _ _ hrs2)) (fine_told _) (by decide) (noB_told _) ⟨false, rfl, ?_⟩
  refine ifF rfl ?_
  refine ⟨_, rfl, _, rfl, _, rfl, (lo : Int), rfl, _, rfl, (hi : Int), rfl, r, _, rfl, SqL.of (s23 _ _ h2r), fun l2 hl2n => ?_⟩
  rw [cutV_part h1 h2, hpt]
  have s34 : Same H3 (upd H3 l2 (.lst (part.map V.int))) := Same.new (Same.refl _) hl2n
  refine ne_same (d := .lst (part.map D.int)) (n := 1) (.lst (s34 _ _ (s23 _ _ h2l)) Reps.ofV) (.lst upd_same Reps.ofV) (by rw [fine]; exact fines_intsG 0 _) (by decide) (by show noBs (part.map .int) = true; exact noBs_intsG _) ⟨false, rfl, ?_⟩
  refine ifF rfl ?_
  generalize upd H3 l2 (.lst (part.map V.int)) = H4 at s34
  have s24 := Same.trans s23 s34
  have loo : Loose K (fun b => (H0 b = none ∨ Tr b ≠ none) ∧ T' b = none ∧ b ≠ p) H4 80000 vs := Loose.of (Same.trans sT1 s24) (fun x hx => by have := endB_body hx; omega) hrs fun b o h => by
    refine ⟨?_, ?_, fun z => by rw [z, nT2] at h; cases h⟩
    · rcases fr1 b o h with z | z | z
      · rw [z]; exact .inl hl1
      · by_cases c : b = l
        · rw [c]; exact .inl hl1
        · rw [upd_ne c] at z; exact .inl z
      · exact .inr z
    · cases z : T' b with
      | none => rfl
      | some u => rw [(hT' b u z).2.2] at h; cases h
  refine ⟨_, rfl, p, rfl, ⟨_, SqL.of (s24 _ _ hp)⟩, forL (xs := vs) (fun _ i σ' H' => ∃ (u : Option V) (ws : List V), σ' = [some (.ref a), some (.ref r), some (.int (lo : Int)), some (.int (hi : Int)), some vd, some ve, some (.ref l), some (.ref p), u] ∧ (∀ b o, Tr b = none → H0 b = some o → H' b = some o) ∧ (∀ b o, T' b = some o → H' b = some o) ∧ H' p = some (.lst vs) ∧ H' l = some (.lst ws) ∧ ws.length ≤ 80000 + i ∧ Loose K (fun b => (H0 b = none ∨ Tr b ≠ none) ∧ T' b = none ∧ b ≠ p) H' (80000 + i) vs) ⟨_, _, rfl, fun b o hT h => s24 _ _ (s12 _ _ hT (s01 _ _ h)), fun b o h => s24 _ _ (hT' b o h).1, s24 _ _ hp, s24 _ _ h2l, by rw [List.length_map]; omega, loo⟩ ?_ ?_ ?_⟩
  · rintro i σ' H' _ ⟨u, ws, rfl, i1, i2, i3, i4, i5, i6⟩
    exact SqL.of i3
  · rintro i x σ' H' hx ⟨u, ws, rfl, i1, i2, i3, i4, i5, i6⟩
    have hi9 := (List.getElem?_eq_some_iff.mp hx).1
    obtain ⟨tt, b, x1, y1, ys, rfl, ht, hb1, hL, hn1, hn2, hn3⟩ := i6 _ (List.mem_of_getElem? hx)
    refine ⟨_, rfl, tt, _, 2, .ref b, rfl, rfl, ht, rfl, .inl ⟨rfl, _, SqL.of hb1⟩, b, ys, .int 9, rfl, rfl, hb1, szbl (by omega), ?_⟩
    have up : ∀ c o, c ≠ b → H' c = some o → upd H' b (.lst (ys ++ [.int 9])) c = some o := fun c o n h => by rw [upd_ne n]; exact h
    have f1 : ∀ c o, Tr c = none → H0 c = some o → upd H' b (.lst (ys ++ [.int 9])) c = some o := fun c o hT h => by
      refine up c o (fun z => ?_) (i1 c o hT h)
      subst z
      rcases hn1 with z | z
      · rw [z] at h; cases h
      · exact z hT
    have f2 : ∀ c o, T' c = some o → upd H' b (.lst (ys ++ [.int 9])) c = some o := fun c o h => by
      refine up c o (fun z => ?_) (i2 c o h)
      subst z
      rw [hn2] at h
      cases h
    by_cases c : l = b
    · subst c
      exact ⟨_, _, rfl, f1, f2, up p _ (Ne.symm hn3) i3, upd_same, by rw [List.length_append, List.length_singleton]; omega, Loose.append i6 hb1 hL⟩
    · exact ⟨_, _, rfl, f1, f2, up p _ (Ne.symm hn3) i3, up l _ c i4, by omega, Loose.append i6 hb1 hL⟩
  · rintro σ' H' ⟨u, ws, rfl, i1, i2, i3, i4, i5, i6⟩
    refine ⟨_, rfl, .inl ⟨rfl, _, SqL.of i4⟩, l, ws, .int 0, rfl, rfl, i4, szbl (by omega), ?_⟩
    refine ⟨_, rfl, .inl ⟨rfl, _, SqL.of upd_same⟩, l, _, rfl, rfl, upd_same, ?_⟩
    have up : ∀ (c : Addr) (o : HO) (y z : List V), c ≠ l → H' c = some o → upd (upd H' l (.lst y)) l (.lst z) c = some o := fun c o y z n h => by rw [upd_ne n, upd_ne n]; exact h
    obtain ⟨oa, hoa⟩ := feedX_at (okT (fun _ => none))
    refine kk _ _ T' (fun b o hT h => up b o _ _ (fun z => by subst z; rw [hl1] at h; cases h) (i1 b o hT h)) ⟨oa, up a oa _ _ nla (i2 a oa hoa)⟩ (okT _) (fun b o h => ⟨up b o _ _ (fun z => by subst z; rw [nT'l] at h; cases h) (i2 b o h), ?_⟩) rfl
    rcases (hT' b o h).2.1 with z | z
    · exact .inl z
    · refine .inr ?_
      by_cases c : b = l
      · rw [c]; exact hl1
      · rw [upd_ne c] at z; exact z
end
theorem wc_min2 {K : PySem.W.Frag} {F : Fx} {ρ : En} {k : AV → En → Prop} {i j : Int} (hk : k (.dat (.int (if j < i then j else i))) ρ) : WpC K F (fun xs H Q => ∃ i j, xs = [.int i, .int j] ∧ Q (.int (if j < i then j else i)) H) [.dat (.int i), .dat (.int j)] ρ k := fun as σ H G vs e r Q q => by
  cases r with
  | cons a b =>
    cases b with
    | cons b c =>
      cases c
      cases (show Rep K G (.int i) _ from a)
      cases (show Rep K G (.int j) _ from b)
      exact ⟨i, j, rfl, q _ ρ _ as H G hk e .refl (Rep.int _)⟩
theorem we_frz {K : PySem.W.Frag} {F : Fx} {ρ : En} {k : AV → En → Prop} {t : TE} (h : WpE K F t ρ (frzK k)) : WpE K F t ρ k := fun as σ H G e Q q => h as σ H G e Q (got_frz q)
theorem wc_frz {K : PySem.W.Frag} {F : Fx} {ρ : En} {k : AV → En → Prop} {r : List V → Hp → VK → Prop} {xs : List AV} (h : WpC K F r xs ρ (frzK k)) : WpC K F r xs ρ k := fun as σ H G vs e rs Q q => h as σ H G vs e rs Q (got_frz q)
theorem frz_as {K : PySem.W.Frag} {G G' : Hp} {as : List Addr} {j : Nat} {a : Addr} {d : D} (s : Same G G') (ha : as[j]? = some a) (ra : Rep K G' d (.ref a)) {xs : List AV} {vs : List V} (h : RepAs K G as xs vs) : RepAs K G' as (xs.map (frzA j d)) vs := by
  induction h with
  | nil => exact .nil
  | @cons x xs v vs h _ ih =>
    refine .cons ?_ ih
    cases x with
    | dat e => exact Rep.mono s _ _ h
    | cel i =>
      obtain ⟨b, hb, rfl⟩ := h
      show RepA K G' as (if i = j then .dat d else .cel i) (.ref b)
      by_cases q : i = j
      · subst q
        rw [if_pos rfl]
        rw [ha] at hb
        cases hb
        exact ra
      · rw [if_neg q]
        exact ⟨b, hb, rfl⟩
    | tup ys =>
      obtain ⟨b, ws, rfl, hs, hr⟩ := h
      exact ⟨b, ws, rfl, Same.seqT s hs, TNs.frz s ha ra ys ws hr⟩
/-- a list that nobody writes to any more is data ahead of a call -/
theorem wsp_frz {K : PySem.W.Frag} {F : Fx} {ρ : En} {k : AV → En → Prop} {sp : Sp} {E : L2.St → XK} {xs : List AV} {j : Nat} {ds : List D} (hj : ρ.ce[j]? = some (.lst ds)) (h : WpSp K F sp E (xs.map (frzA j (.lst ds))) (ρ.frz j ds) k) : WpSp K F sp E xs ρ k := fun as σ H G vs e r Q q => by
  have hl : j < as.length := by rw [e.ln]; exact (List.getElem?_eq_some_iff.mp hj).1
  obtain ⟨o, e2, g2, rr⟩ := e.frz hj (List.getElem?_eq_getElem hl)
  exact h as σ H _ vs e2 (frz_as g2.1 (List.getElem?_eq_getElem hl) rr r) Q (q.imp g2 fun _ _ z => z)
theorem lawB_told {row : List Int} {x : Bq} (h : x ∈ lawB 0 row) : x.b ≤ row.length ∧ resBx row.length (boxL (row.drop x.b)) = .tup [.int x.k, .lst (x.body.map D.int), .int (x.e : Int)] := by
  obtain ⟨h1, h2, y, h3, h4, h5, h6⟩ := lawB_is row 0 x h
  rw [Nat.sub_zero] at h3 h6
  refine ⟨by omega, ?_⟩
  obtain ⟨r, m, z, e, k1, hx, hh, hy⟩ := boxL_in h3
  obtain ⟨pre, hp, hp0⟩ := (U_suf r 0 z (List.mem_of_getElem? hx)).2
  have l1 : (row.drop x.b).length = row.length - x.b := List.length_drop ..
  have l2 := congrArg List.length e
  rw [List.length_cons, List.length_cons, List.length_cons, List.length_cons] at l2
  have l3 : r.length = pre.length + z.2.length := by rw [← hp, List.length_append]
  have l4 : y.2.2.length ≤ z.2.length := by rw [hy, List.length_tail]; omega
  rw [h3]
  show D.tup [.int y.1, .lst (y.2.1.map D.int), .int ((row.length : Int) - (y.2.2.length : Int))] = _
  rw [h4, h5, show (row.length : Int) - (y.2.2.length : Int) = (x.e : Int) by omega]

section
variable {P : Program} {w : World} {K : PySem.W.Frag} {mg : Str → Option Value} {base : Heap}
/-! ### the law -/
section
variable {F : Fx} {ρ : En} {k : AV → En → Prop} {ks : KS} {te : TE}
theorem we_ptrF {CF CG : Addr} (h : WpE K F te ρ fun y ρ1 => ∃ m, y = .cel m ∧ ρ1.ce[m]? = some (.ins CF fN [.int 0, .int 0, .non]) ∧ ∀ p, k (.dat (.cls p)) (ρ1.cell m (.reg (some p) (feedX CF CG 0 0 none)))) : WpE K F te ρ k := fun as σ H G e Q q =>
  h as σ H G e Q fun y ρ1 v as1 H1 G1 ⟨m, ey, hc, hk⟩ e1 g1 r1 => by
    subst ey
    obtain ⟨a, ha, rfl⟩ := r1
    obtain ⟨fa, _, ga, dx, vs, hH, ln, hr⟩ := e1.ce m _ a hc ha
    obtain ⟨Ts, r⟩ := e1.rg
    have hr' : ∀ (K' : PySem.W.Frag) (G' : Hp), Reps K' G' [.int 0, .int 0, grA 0 none] vs := fun K' G' => Reps.atoms rfl hr
    have only : ∀ i : Nat, as1[i]? = some a → i = m := fun i hi => (List.getElem?_inj (List.getElem?_eq_some_iff.mp hi).1 e1.nd).mp (hi.trans ha.symm)
    refine q _ _ _ as1 H1 G1 (hk a) (e1.toReg (T := fun b => if b = a then some (.ins CF dx (fN.zip vs)) else none) r hc (fun z => nomatch z) (fun _ _ z => nomatch z) ha (fun b o hb => ?_) (fun g z => by injection z) ⟨dx, vs, 0, 0, if_pos rfl, hr', fun st z => nomatch z⟩) g1 (Rep.cls a)
    have hb : (if b = a then some (HO.ins CF dx (fN.zip vs)) else none) = some o := hb
    by_cases c : b = a
    · rw [if_pos c] at hb
      cases hb
      subst c
      refine ⟨hH, ga, fa, only, fun i => ?_⟩
      cases z : Ts i b with
      | none => rfl
      | some u =>
        have := (r.pl i b u z).2.2.2 m ha
        subst this
        obtain ⟨t, X, z2⟩ := r.is z
        rw [hc] at z2
        cases z2
    · rw [if_neg c] at hb; cases hb
theorem ws_whileT {tc : TT} {tb : TS} (W : Nat → En → Prop) (m0 : Nat) (h0 : W m0 ρ) (hs : ∀ m ρ1, W m ρ1 → WpT K F tc ρ1 fun b ρ2 => if b = true then WpS K F tb ρ2 { nx := fun ρ3 => ∃ m' ρ4, m' < m ∧ Tr ρ.ce.length ρ3 ρ4 ∧ W m' ρ4, rt := ks.rt, ct := fun ρ3 => ∃ m' ρ4, m' < m ∧ Tr ρ.ce.length ρ3 ρ4 ∧ W m' ρ4, bk := ks.nx } else ks.nx ρ2) : WpS K F (tWhile tc tb) ρ ks := fun as σ H G e D q => by
  have l1 : as.length ≤ ρ.ce.length := Nat.le_of_eq e.ln
  have l0 : F.as0.length ≤ ρ.ce.length := Nat.le_trans e.pr.length_le l1
  refine ⟨fun m σ' H' => ∃ ρ2 as2 G2, EnvOk K F ρ2 as2 σ' H' G2 ∧ Gr G as G2 as2 ∧ W m ρ2, ⟨m0, ρ, as, G, e, .refl, h0⟩, ?_⟩
  rintro m σ' H' ⟨ρ2, as2, G2, e2, g2, hw⟩
  refine hs m ρ2 hw as2 σ' H' G2 e2 _ fun b ρ3 as3 H3 G3 h3 e3 g3 => ?_
  cases b with
  | true =>
    refine ⟨fun σ4 H4 => ∃ m', m' < m ∧ ∃ ρ4 as4 G4, EnvOk K F ρ4 as4 σ4 H4 G4 ∧ Gr G as G4 as4 ∧ W m' ρ4, fun σ4 H4 z => z, ?_⟩
    refine (show WpS K F tb ρ3 _ from h3) as3 σ' H3 G3 e3 _ ⟨fun ρ4 as4 σ4 H4 G4 ⟨m', ρ5, hm, tr, w4⟩ e4 g4 => ?_, fun av ρ4 v as4 σ4 H4 G4 h4 e4 g4 r4 => q.rt av ρ4 v as4 σ4 H4 G4 h4 e4 (g2.trans (g3.trans g4)) r4, fun ρ4 as4 σ4 H4 G4 h4 e4 g4 => q.nx ρ4 as4 σ4 H4 G4 h4 e4 (g2.trans (g3.trans g4)), fun ρ4 as4 σ4 H4 G4 ⟨m', ρ5, hm, tr, w4⟩ e4 g4 => ?_, q.fr⟩
    · obtain ⟨as5, e5, g5⟩ := tr.run e4 (g2.trans (g3.trans g4)) l1 l0
      exact ⟨m', hm, ρ5, as5, G4, e5, g5, w4⟩
    · obtain ⟨as5, e5, g5⟩ := tr.run e4 (g2.trans (g3.trans g4)) l1 l0
      exact ⟨m', hm, ρ5, as5, G4, e5, g5, w4⟩
  | false => exact q.nx ρ3 as3 σ' H3 G3 h3 e3 (g2.trans g3)
theorem cell_self {j : Nat} {c : Cell} (hj : ρ.ce[j]? = some c) : ρ.cell j c = ρ := by
  obtain ⟨sl, ce⟩ := ρ
  have hl : j < ce.length := (List.getElem?_eq_some_iff.mp hj).1
  have he : ce[j] = c := (List.getElem?_eq_some_iff.mp hj).2
  show En.mk sl (ce.set j c) = ⟨sl, ce⟩
  rw [← he, List.set_getElem_self]
end
def rowD (r : List Int) : D := .lst (r.map D.int)
def dueD (r : List Int) : D := .lst ((lawB 0 r).map Bq.seen)
def endD (r : List Int) : D := .lst ((lawB 0 r).map fun x => .int (x.e : Int))
def feedAt (CF CG : Addr) (r : List Int) (l : Nat) : RegX := feedX CF CG l (endF 0 0 none (r.take l)).1 (endF 0 0 none (r.take l)).2
theorem ok_law (T : Txt K mg) : FnOk P w K mg base CX0 11 T.a_law T.d_law ["_law_script"] (spLaw K) := by
  refine FnOk.imp (sp := spG K wLaw) ?_ (fun vs H Q E h => law_of h)
  refine T.F_law.ok sc_law (fun vs H Q E h => spG_len h fun xs cs post exc ⟨a, e, _⟩ => by rw [e]; rfl) (fun cdv A outer s H vs Q E hr h => ⟨_, (pss_cons (ps_set (i := 1) sc_law.nd rfl (Or.inl rfl) (pe_op op_catF (pe_lst (pa_cons (pe_call (ok_l_cell_at T) (hr.mono (by decide)) (by rfl) T.g_l_cell_at T.F_l_cell_at.kp T.b_l_cell_at .nil pass0 (pa_cons (pv 0) (pa_cons pe_int pa_nil))) pa_nil)) (pe_slice sl_list (pv 0) (po_some pe_int) (po_some pe_int))))
      (pss_cons (ps_set (i := 2) sc_law.nd rfl (Or.inr rfl) (pe_lst (pa_cons (pe_call (ok_l_stream T) (hr.mono (by decide)) (by rfl) T.g_l_stream T.F_l_stream.kp T.b_l_stream .nil pass0 (pa_cons (pv 1) pa_nil)) (pa_cons (pe_call (ok_l_stream T) (hr.mono (by decide)) (by rfl) T.g_l_stream T.F_l_stream.kp T.b_l_stream .nil pass0 (pa_cons (pe_slice sl_list (pe_revL (pv 1)) po_none (po_some pe_int)) pa_nil)) pa_nil))))
      (pss_cons (ps_set (i := 3) sc_law.nd rfl (Or.inr rfl) (pe_lc (own := [("_law_row", 13)]) (g := gName 13) (tt := tYes) (by rfl) sc_law.nd (pi_list (pv 2)) (blkOk_by (own := [("_law_row", 13)]) (N := N_law) (sc := defScope s_law) (by decide +kernel)) (fun _ _ _ _ _ => (pg_name (i := 13) sc_law.nd rfl (Or.inl rfl))) (fun _ _ _ _ _ => pts_nil) (fun _ _ _ _ _ => (pe_call (ok_l_boxes_in T) (hr.mono (by decide)) (by rfl) T.g_l_boxes_in T.F_l_boxes_in.kp T.b_l_boxes_in .nil pass0 (pa_cons (pv 13) pa_nil)))))
      (pss_cons (ps_setLc (i := 5) (own := [("_law_k", 4)]) (g := gName 4) (tt := tYes) (by rfl) sc_law.nd rfl rfl (sw_true rfl rfl rfl (by decide +kernel)) (pi_range1 (by rfl) T.m_range (pa_cons pe_int pa_nil)) (blkOk_by (own := [("_law_k", 4)]) (N := N_law) (sc := defScope s_law) (by decide +kernel)) (fun _ _ _ _ _ => (pg_name (i := 4) sc_law.nd rfl (Or.inr rfl))) (fun _ _ _ _ _ => pts_nil) (fun _ _ _ _ _ => (by exact (pe_lc (own := [("_law_at", 14), ("_law_kind", 15), ("_law_body", 16)]) (g := gTup K 3 (gCons (gName 14) (gCons (gName 15) (gCons (gName 16) gNil)))) (tt := tYes) (by rfl) sc_law.nd (pi_listK (K := K) rfl (pe_ix (ix_listK (K := K) rfl) (pv 3) (pv 4) (fun _ _ => rfl))) (blkOk_by (own := [("_law_at", 14), ("_law_kind", 15), ("_law_body", 16)]) (N := N_law) (sc := _) (by rfl)) (fun _ _ _ _ _ => (pg_tup rfl (pgs_cons (pg_name (i := 14) sc_law.nd rfl (Or.inl rfl)) (pgs_cons (pg_name (i := 15) sc_law.nd rfl (Or.inl rfl)) (pgs_cons (pg_name (i := 16) sc_law.nd rfl (Or.inl rfl)) pgs_nil))))) (fun _ _ _ _ _ => pts_nil) (fun _ _ _ _ _ => (pe_ix (ix_tupK (K := K) rfl) (pe_call (ok_l_box_at T) (hr.mono (by decide)) (by rfl) T.g_l_box_at T.F_l_box_at.kp T.b_l_box_at .nil pass0 (pa_cons (pe_ix (ix_listK (K := K) rfl) (pv 2) (pv 4) (fun _ _ => rfl)) (pa_cons (pv 14) pa_nil))) pe_int (fun _ _ => rfl)))))))
      (pss_cons (ps_set (i := 6) sc_law.nd rfl (Or.inl rfl) (pe_lst (pa_cons (pe_make0 T.mk_Feed (ok_Feed_init T) (hr.mono (by decide)) (by rfl) T.g_Feed T.b_Feed_init .nil pass0) (pa_cons (pe_make0 T.mk_Feed (ok_Feed_init T) (hr.mono (by decide)) (by rfl) T.g_Feed T.b_Feed_init .nil pass0) pa_nil))))
      (pss_cons (ps_set (i := 7) sc_law.nd rfl (Or.inl rfl) (pe_lst (pa_cons pe_int (pa_cons pe_int pa_nil))))
      (pss_cons (ps_if (pt_cmpR op_ne (pe_meth0 (pe_ix ix_list (pv 6) pe_int (fun _ _ => rfl)) T.cl_Feed T.mt_Feed_taken (ok_Feed_taken T) (hr.mono (by decide)) T.b_Feed_taken .nil pass0) pe_int (nomark _)) (pss_one (ps_ret pe_bl)) pss_nil)
      (pss_cons (ps_set (i := 8) sc_law.nd rfl (Or.inl rfl) (pe_lst (pa_cons (pe_call (ok_l_cell_at T) (hr.mono (by decide)) (by rfl) T.g_l_cell_at T.F_l_cell_at.kp T.b_l_cell_at .nil pass0 (pa_cons (pv 0) (pa_cons pe_int pa_nil))) pa_nil)))
      (pss_cons (ps_set (i := 9) sc_law.nd rfl (Or.inl rfl) (pe_ix ix_list (pe_lst (pa_cons pe_int (pa_cons pe_int (pa_cons pe_int (pa_cons pe_int pa_nil))))) (pe_call (ok_l_digit T) (hr.mono (by decide)) (by rfl) T.g_l_digit T.F_l_digit.kp T.b_l_digit .nil pass0 (pa_cons (pv 8) (pa_cons pe_int pa_nil))) (fun _ _ => rfl)))
      (pss_cons (ps_set (i := 10) sc_law.nd rfl (Or.inl rfl) pe_int)
      (pss_cons (ps_while PassesOwn.never (pt_cmpR (op_neD hr.units) (pv 7) (pe_lst (pa_cons (pe_callB call_len_seq (by rfl) T.m_len (by decide +kernel) (pa_cons (pe_ix ix_list (pv 2) pe_int (fun _ _ => rfl)) pa_nil)) (pa_cons (pe_callB call_len_seq (by rfl) T.m_len (by decide +kernel) (pa_cons (pe_ix ix_list (pv 2) pe_int (fun _ _ => rfl)) pa_nil)) pa_nil))) (nomark _)) (pss_cons (ps_set (i := 10) sc_law.nd rfl (Or.inl rfl) (pe_op op_add (pv 10) pe_int))
      (pss_one (ps_for PassesOwn.never rfl (pi_range1 (by rfl) T.m_range (pa_cons pe_int pa_nil)) (pg_name (i := 4) sc_law.nd rfl (Or.inl rfl))
        (pss_cons (ps_set (i := 11) sc_law.nd rfl (Or.inl rfl) (pe_ix ix_list (pv 7) (pv 4) (fun _ _ => rfl)))
      (pss_cons (ps_set (i := 12) sc_law.nd rfl (Or.inl rfl) (pe_callB (call_min2 rfl) (by rfl) T.m_min (by decide +kernel) (pa_cons (pe_callB call_len_seq (by rfl) T.m_len (by decide +kernel) (pa_cons (pe_ix ix_list (pv 2) (pv 4) (fun _ _ => rfl)) pa_nil)) (pa_cons (pe_op op_add (pe_op op_add (pv 11) (pe_call (ok_l_digit T) (hr.mono (by decide)) (by rfl) T.g_l_digit T.F_l_digit.kp T.b_l_digit .nil pass0 (pa_cons (pv 8) (pa_cons (pe_op op_mul pe_int (pv 9)) pa_nil)))) (pe_op op_mod (pv 10) pe_int)) pa_nil))))
      (pss_cons (ps_if (pt_not (pt_val (pe_call (ok_l_takes T) (hr.mono (by decide)) (by rfl) T.g_l_takes T.F_l_takes.kp T.b_l_takes .nil pass0 (pa_cons (pe_ix ix_list (pv 6) (pv 4) (fun _ _ => rfl)) (pa_cons (pe_ix ix_list (pv 2) (pv 4) (fun _ _ => rfl)) (pa_cons (pv 11) (pa_cons (pv 12) (pa_cons (pe_ix ix_list (pv 3) (pv 4) (fun _ _ => rfl)) (pa_cons (pe_ix ix_list (pv 5) (pv 4) (fun _ _ => rfl)) pa_nil))))))))) (pss_one (ps_ret pe_bl)) pss_nil)
      (pss_cons (ps_asg (pv 12) (pg_sub (pv 7) (pv 4) set_list))
      (pss_one (ps_if (pt_cmpR op_eq (pe_call (ok_l_digit T) (hr.mono (by decide)) (by rfl) T.g_l_digit T.F_l_digit.kp T.b_l_digit .nil pass0 (pa_cons (pv 8) (pa_cons pe_int pa_nil))) pe_int (nomark _)) (pss_one (ps_if (PW.pt (pw_or (pt_not (pt_val (pe_call (ok_l_refused T) (hr.mono (by decide)) (by rfl) T.g_l_refused T.F_l_refused.kp T.b_l_refused .nil pass0 (pa_cons (pe_ix ix_list (pv 6) (pv 4) (fun _ _ => rfl)) (pa_cons (pe_call (ok_l_odd_row T) (hr.mono (by decide)) (by rfl) T.g_l_odd_row T.F_l_odd_row.kp T.b_l_odd_row .nil pass0 (pa_cons (pv 8) (pa_cons (pe_slice sl_list (pe_ix ix_list (pv 2) (pv 4) (fun _ _ => rfl)) po_none (po_some pe_int)) pa_nil))) pa_nil))))) (pw_or1 (pt_cmpR op_ne (pe_meth0 (pe_ix ix_list (pv 6) (pv 4) (fun _ _ => rfl)) T.cl_Feed T.mt_Feed_taken (ok_Feed_taken T) (hr.mono (by decide)) T.b_Feed_taken .nil pass0) (pv 12) (nomark _))))) (pss_one (ps_ret pe_bl)) pss_nil)) pss_nil))))))))))
      (pss_one (ps_ret pe_bl))))))))))))), enter h fun F xs cs post hE hw => ?_⟩)
  obtain ⟨ns, rfl, rfl, hn, q⟩ := hw
  refine ws_seqP (fun ms : List Int => ms.length ≤ 64) (fun ms => ⟨[some (.dat (.scr (ns.map D.int))), some (.dat (.lst (ms.map D.int))), none, none, none, none, none, none, none, none, none, none, none, none, none, none, none], []⟩) (fun ms hms => ?_) ?_
  rotate_left
  · walk_at "D"
    walk_at "c"
    refine ⟨ns, 0, rfl, rfl, by decide, fun n => aft_hard rfl ?_⟩
    walk_at "D"
    obtain ⟨X, eX, lX⟩ := cut_ints ns (some 1) (some 17)
    rw [eX]
    walk_at "D"
    refine wr_cat (ds := [.int n]) (es := X.map D.int) (.cel rfl) (.cel rfl) (by rw [List.length_map]; simp only [List.length]; omega) ?_
    rw [show [D.int n] ++ X.map D.int = (n :: X).map D.int from rfl]
    walk_at "D"
    exact ⟨n :: X, by rw [List.length_cons]; omega, .fz 2 _ rfl .cut⟩
  refine ws_seqP (fun x : List Int × List Int => (Byts x.1 ∧ x.1.length ≤ 6400) ∧ Byts x.2 ∧ x.2.length ≤ 6400) (fun x => ⟨[some (.dat (.scr (ns.map D.int))), some (.dat (.lst (ms.map D.int))), some (.dat (.lst [rowD x.1, rowD x.2])), none, none, none, none, none, none, none, none, none, none, none, none, none, none], []⟩) (fun x hx => ?_) ?_
  rotate_left
  · walk_at "D"
    walk_at "c"
    refine ⟨ms, rfl, rfl, hms, fun r0 b0 l0 => ⟨rfl, ?_⟩⟩
    walk_at "D"
    refine we_revL ?_
    walk_at "D"
    rw [← List.map_reverse]
    obtain ⟨X, eX, lX⟩ := cut_ints ms.reverse none (some 4)
    rw [eX]
    walk_at "D"
    refine wsp_frz (j := 1) rfl ?_
    walk_at "nr4"
    walk_at "c"
    rw [List.length_reverse] at lX
    refine ⟨X, rfl, rfl, by omega, fun r1 b1 l1 => ⟨rfl, ?_⟩⟩
    walk_at "D"
    exact ⟨(r0, r1), ⟨⟨b0, by show r0.length ≤ 6400; omega⟩, b1, by show r1.length ≤ 6400; omega⟩, .fz 2 _ rfl .cut⟩
  obtain ⟨r0, r1⟩ := x
  obtain ⟨⟨b0, n0⟩, b1, n1⟩ := hx
  dsimp only at b0 n0 b1 n1
  refine ws_seqP (fun _ : Unit => True) (fun _ => ⟨[some (.dat (.scr (ns.map D.int))), some (.dat (.lst (ms.map D.int))), some (.dat (.lst [rowD r0, rowD r1])), some (.dat (.lst [dueD r0, dueD r1])), none, none, none, none, none, none, none, none, none, none, none, none, none], []⟩) (fun _ _ => ?_) ?_
  rotate_left
  · walk_at "D"
    walk_at "nr4"
    refine loopC_by (fun es ρ => ∃ (done rest : List (List Int)), [r0, r1] = done ++ rest ∧ es = rest.map rowD ∧ ρ = ⟨[some (.dat (.scr (ns.map D.int))), some (.dat (.lst (ms.map D.int))), some (.dat (.lst [rowD r0, rowD r1])), none, none, none, none, none, none, none, none, none, none, none, none, none, none], [.lst (done.map dueD)]⟩) ⟨[], [r0, r1], rfl, rfl, rfl⟩ ?_ ?_
    · rintro ρ ⟨done, rest, e1, e2, rfl⟩
      have e3 : rest = [] := by cases rest with | nil => rfl | cons => cases e2
      subst e3
      rw [List.append_nil] at e1
      subst e1
      refine ⟨.dat _, ?_⟩
      walk_at "D"
      exact ⟨(), trivial, .fz 0 _ rfl .cut⟩
    · rintro d es ρ ⟨done, rest, e1, e2, rfl⟩
      refine ⟨.dat _, ?_⟩
      cases rest with
      | nil => cases e2
      | cons r rest =>
      obtain ⟨rfl, rfl⟩ := List.cons.inj e2
      have hr : Byts r ∧ r.length ≤ 6400 := by
        have : r ∈ [r0, r1] := by rw [e1]; exact List.mem_append_right _ List.mem_cons_self
        simp only [List.mem_cons, List.not_mem_nil, or_false] at this
        rcases this with rfl | rfl
        · exact ⟨b0, n0⟩
        · exact ⟨b1, n1⟩
      walk_at "D"
      walk_at "c"
      refine ⟨r, rfl, rfl, hr.1, by omega, rfl, ?_⟩
      rw [show lawBx 0 r = (lawB 0 r).map Bq.seen from lawB_seen r 0]
      refine ⟨_, _, _, .cel rfl .nil, rfl, ?_, ?_⟩
      · have := congrArg List.length e1
        rw [List.length_append] at this
        simp only [List.length_cons, List.length_nil] at this
        rw [List.length_map]; omega
      refine now ⟨done ++ [r], rest, by rw [e1, List.append_assoc]; rfl, rfl, ?_⟩
      rw [List.map_append]
      rfl
  have at2 : ∀ (f : List Int → D) (i : Nat) (r : List Int), [r0, r1][i]? = some r → atI [f r0, f r1] (i : Int) = some (f r) := fun f i r h => by
    have := atI_nat (xs := [r0, r1].map f) (j := i) (v := f r) (by rw [List.getElem?_map, h]; rfl)
    exact this
  have of2 : ∀ i : Nat, i < 2 → ∃ r, [r0, r1][i]? = some r ∧ Byts r ∧ r.length ≤ 6400 := fun i hi => by
    cases i with
    | zero => exact ⟨r0, rfl, b0, n0⟩
    | succ i =>
      cases i with
      | zero => exact ⟨r1, rfl, b1, n1⟩
      | succ i => omega
  refine ws_seqP (fun _ : Unit => True) (fun _ => ⟨[some (.dat (.scr (ns.map D.int))), some (.dat (.lst (ms.map D.int))), some (.dat (.lst [rowD r0, rowD r1])), some (.dat (.lst [dueD r0, dueD r1])), none, some (.dat (.lst [endD r0, endD r1])), none, none, none, none, none, none, none, none, none, none, none], []⟩) (fun _ _ => ?_) ?_
  rotate_left
  · walk_at "D"
    walk_at "nr4"
    refine ⟨by decide, ?_⟩
    refine loopC_rng (fun i ρ => ρ = ⟨[some (.dat (.scr (ns.map D.int))), some (.dat (.lst (ms.map D.int))), some (.dat (.lst [rowD r0, rowD r1])), some (.dat (.lst [dueD r0, dueD r1])), none, none, none, none, none, none, none, none, none, none, none, none, none], [.lst (([r0, r1].take i).map endD)]⟩) rfl ?_ ?_
    · rintro ρ rfl
      refine ⟨trivial, ?_⟩
      walk_at "D"
      exact ⟨(), trivial, .fz 0 _ rfl .cut⟩
    · rintro i ρ hi rfl
      refine ⟨trivial, ?_⟩
      have hi : i < 2 := hi
      obtain ⟨r, hri, br, nr⟩ := of2 i hi
      rw [Int.zero_add]
      walk_at "D"
      refine wr_ixL (.dat _) (at2 dueD i r hri) ?_
      unfold dueD
      walk_at "D"
      walk_at "nr4"
      have hB := fun x (h : x ∈ lawB 0 r) => lawB_told h
      have nB := lawB_len r 0
      refine loopC_by (fun es ρ => ∃ (done rest : List Bq), lawB 0 r = done ++ rest ∧ es = rest.map Bq.seen ∧ ρ = ⟨[some (.dat (.scr (ns.map D.int))), some (.dat (.lst (ms.map D.int))), some (.dat (.lst [rowD r0, rowD r1])), some (.dat (.lst [dueD r0, dueD r1])), some (.dat (.int (i : Int))), none, none, none, none, none, none, none, none, none, none, none, none], [.lst (([r0, r1].take i).map endD), .lst (done.map fun x => .int (x.e : Int))]⟩) ⟨[], _, rfl, rfl, rfl⟩ ?_ ?_
      · rintro ρ ⟨done, rest, e1, e2, rfl⟩
        have e3 : rest = [] := by cases rest with | nil => rfl | cons => cases e2
        subst e3
        rw [List.append_nil] at e1
        subst e1
        refine ⟨.dat _, ?_⟩
        refine ⟨_, _, _, .cel rfl .nil, rfl, by rw [List.length_map, List.length_take]; show min i 2 < 16000000; omega, now ?_⟩
        have et : [r0, r1].take (i + 1) = [r0, r1].take i ++ [r] := by rw [List.take_succ, hri]; rfl
        rw [et, List.map_append]
        rfl
      · rintro d es ρ ⟨done, rest, e1, e2, rfl⟩
        refine ⟨.dat _, ?_⟩
        cases rest with
        | nil => cases e2
        | cons x rest =>
        obtain ⟨rfl, rfl⟩ := List.cons.inj e2
        obtain ⟨hx1, hx2⟩ := hB x (by rw [e1]; exact List.mem_append_right _ List.mem_cons_self)
        refine wg_tup rfl ?_
        walk_at "D"
        refine wr_ixL (.dat _) (at2 rowD i r hri) ?_
        unfold rowD
        walk_at "D"
        walk_at "c"
        refine ⟨r, x.b, rfl, rfl, br, by omega, hx1, rfl, ?_⟩
        rw [hx2]
        have ld : done.length ≤ 6400 := by have := congrArg List.length e1; rw [List.length_append] at this; omega
        walk_at "D"
        · rw [List.length_map]; omega
        refine now ⟨done ++ [x], rest, by rw [e1, List.append_assoc]; rfl, rfl, ?_⟩
        rw [List.map_append]
        rfl
  refine ws_seqP (fun p : Addr × Addr => True) (fun p => ⟨[some (.dat (.scr (ns.map D.int))), some (.dat (.lst (ms.map D.int))), some (.dat (.lst [rowD r0, rowD r1])), some (.dat (.lst [dueD r0, dueD r1])), none, some (.dat (.lst [endD r0, endD r1])), some (.cel 2), none, none, none, none, none, none, none, none, none, none], [.reg (some p.1) (feedAt T.c_Feed T.c_Growing r0 0), .reg (some p.2) (feedAt T.c_Feed T.c_Growing r1 0), .lst [.cls p.1, .cls p.2]]⟩) (fun p _ => ?_) ?_
  rotate_left
  · walk_at "D"
    refine we_ptrF (CF := T.c_Feed) (CG := T.c_Growing) ?_
    refine we_make ?_
    walk_at "D"
    refine ⟨_, _, by walk_at "fz", ?_⟩
    refine wsp1 (j := 0) rfl rfl rfl ⟨rfl, rfl, _, rfl, rfl, rfl, ?_⟩
    refine ⟨0, rfl, rfl, fun p0 => ?_⟩
    walk_at "D"
    refine we_ptrF (CF := T.c_Feed) (CG := T.c_Growing) ?_
    refine we_make ?_
    walk_at "D"
    refine ⟨_, _, by walk_at "fz", ?_⟩
    refine wsp1 (j := 1) rfl rfl rfl ⟨rfl, rfl, _, rfl, rfl, rfl, ?_⟩
    refine ⟨1, rfl, rfl, fun p1 => ?_⟩
    walk_at "D"
    exact ⟨(p0, p1), trivial, .tr .all⟩
  refine ws_seqP (fun _ : Unit => True) (fun _ => ⟨[some (.dat (.scr (ns.map D.int))), some (.dat (.lst (ms.map D.int))), some (.dat (.lst [rowD r0, rowD r1])), some (.dat (.lst [dueD r0, dueD r1])), none, some (.dat (.lst [endD r0, endD r1])), some (.cel 2), some (.cel 3), none, none, none, none, none, none, none, none, none], [.reg (some p.1) (feedAt T.c_Feed T.c_Growing r0 0), .reg (some p.2) (feedAt T.c_Feed T.c_Growing r1 0), .lst [.cls p.1, .cls p.2], .lst [.int (0 : Int), .int (0 : Int)]]⟩) (fun _ _ => ?_) ?_
  rotate_left
  · walk_at "D"
    exact ⟨(), trivial, .tr .all⟩
  refine ws_seqP (fun _ : Unit => True) (fun _ => ⟨[some (.dat (.scr (ns.map D.int))), some (.dat (.lst (ms.map D.int))), some (.dat (.lst [rowD r0, rowD r1])), some (.dat (.lst [dueD r0, dueD r1])), none, some (.dat (.lst [endD r0, endD r1])), some (.cel 2), some (.cel 3), none, none, none, none, none, none, none, none, none], [.reg (some p.1) (feedAt T.c_Feed T.c_Growing r0 0), .reg (some p.2) (feedAt T.c_Feed T.c_Growing r1 0), .lst [.cls p.1, .cls p.2], .lst [.int (0 : Int), .int (0 : Int)]]⟩) (fun _ _ => ?_) ?_
  rotate_left
  · walk_at "D"
    refine we_methR (C := T.c_Feed) ?_
    walk_at "D"
    refine ⟨_, .ptr (j := 0) rfl, feedX_C rfl, ?_⟩
    walk_at "D"
    refine wsp_ptrR (j := 0) rfl (.ptr .nil) ?_
    refine wsp1 (j := 0) rfl rfl rfl ⟨_, _, _, _, rfl, rfl, _, rfl, rfl, ?_⟩
    walk_at "D"
    exact ⟨(), trivial, .tr .all⟩
  refine ws_seqP (fun n : Int => True) (fun n => ⟨[some (.dat (.scr (ns.map D.int))), some (.dat (.lst (ms.map D.int))), some (.dat (.lst [rowD r0, rowD r1])), some (.dat (.lst [dueD r0, dueD r1])), none, some (.dat (.lst [endD r0, endD r1])), some (.cel 2), some (.cel 3), some (.cel 4), none, none, none, none, none, none, none, none], [.reg (some p.1) (feedAt T.c_Feed T.c_Growing r0 0), .reg (some p.2) (feedAt T.c_Feed T.c_Growing r1 0), .lst [.cls p.1, .cls p.2], .lst [.int (0 : Int), .int (0 : Int)], .lst [.int n]]⟩) (fun n _ => ?_) ?_
  rotate_left
  · walk_at "D"
    walk_at "c"
    refine ⟨ns, 17, rfl, rfl, by decide, fun n => aft_hard rfl ?_⟩
    walk_at "D"
    exact ⟨n, trivial, .tr .all⟩
  refine ws_seqP (fun pc : Int => 1 ≤ pc ∧ pc ≤ 40) (fun pc => ⟨[some (.dat (.scr (ns.map D.int))), some (.dat (.lst (ms.map D.int))), some (.dat (.lst [rowD r0, rowD r1])), some (.dat (.lst [dueD r0, dueD r1])), none, some (.dat (.lst [endD r0, endD r1])), some (.cel 2), some (.cel 3), some (.cel 4), some (.dat (.int pc)), none, none, none, none, none, none, none], [.reg (some p.1) (feedAt T.c_Feed T.c_Growing r0 0), .reg (some p.2) (feedAt T.c_Feed T.c_Growing r1 0), .lst [.cls p.1, .cls p.2], .lst [.int (0 : Int), .int (0 : Int)], .drw]⟩) (fun pc hpc => ?_) ?_
  rotate_left
  · walk_at "D"
    refine wsp_drw (j := 4) rfl ?_
    walk_at "nr2"
    refine wsp_digit rfl (by decide) (by decide) fun u u0 u1 => ?_
    walk_at "D"
    refine wr_ixA (by walk_at "il") u0 (by show u < ((4 : Nat) : Int); exact u1) fun d hd => ?_
    obtain ⟨pc, rfl, h1, h2⟩ : ∃ pc : Int, d = .int pc ∧ 1 ≤ pc ∧ pc ≤ 40 := by
      simp only [List.mem_cons, List.not_mem_nil, or_false] at hd
      rcases hd with rfl | rfl | rfl | rfl <;> exact ⟨_, rfl, by decide, by decide⟩
    walk_at "D"
    exact ⟨pc, ⟨h1, h2⟩, .tr .cut⟩
  refine ws_seqP (fun _ : Unit => True) (fun _ => ⟨[some (.dat (.scr (ns.map D.int))), some (.dat (.lst (ms.map D.int))), some (.dat (.lst [rowD r0, rowD r1])), some (.dat (.lst [dueD r0, dueD r1])), none, some (.dat (.lst [endD r0, endD r1])), some (.cel 2), some (.cel 3), some (.cel 4), some (.dat (.int pc)), some (.dat (.int ((0 : Nat) : Int))), none, none, none, none, none, none], [.reg (some p.1) (feedAt T.c_Feed T.c_Growing r0 0), .reg (some p.2) (feedAt T.c_Feed T.c_Growing r1 0), .lst [.cls p.1, .cls p.2], .lst [.int (0 : Int), .int (0 : Int)], .drw]⟩) (fun _ _ => ?_) ?_
  rotate_left
  · walk_at "D"
    exact ⟨(), trivial, .tr .all⟩
  refine ws_seq ?_
  have WpS.walk : ∀ {t : TS} {ρ : En} {ks : KS}, WpS K F t ρ ks → WpS K F t ρ ks := fun h => h
  refine ws_whileT (fun m ρ => ∃ (l0 l1 tn : Nat) (a4 a11 a12 : Option D), m = 2 * ((r0.length - l0) + (r1.length - l1)) + tn % 2 ∧ l0 ≤ r0.length ∧ l1 ≤ r1.length ∧ ρ = ⟨[some (.dat (.scr (ns.map D.int))), some (.dat (.lst (ms.map D.int))), some (.dat (.lst [rowD r0, rowD r1])), some (.dat (.lst [dueD r0, dueD r1])), a4.map AV.dat, some (.dat (.lst [endD r0, endD r1])), some (.cel 2), some (.cel 3), some (.cel 4), some (.dat (.int pc)), some (.dat (.int ((tn : Nat) : Int))), a11.map AV.dat, a12.map AV.dat, none, none, none, none], [.reg (some p.1) (feedAt T.c_Feed T.c_Growing r0 l0), .reg (some p.2) (feedAt T.c_Feed T.c_Growing r1 l1), .lst [.cls p.1, .cls p.2], .lst [.int (l0 : Int), .int (l1 : Int)], .drw]⟩) _ ⟨0, 0, 0, none, none, none, rfl, Nat.zero_le _, Nat.zero_le _, rfl⟩ ?_
  rintro m ρ1 ⟨l0, l1, tn, a4, a11, a12, rfl, h0, h1, rfl⟩
  walk_at "D"
  unfold rowD
  walk_at "D"
  rw [List.length_map, List.length_map]
  refine wr_neD 1 (.cel rfl) (.cel rfl) rfl rfl (by decide) ?_
  rw [show eqD (.lst [.int (l0 : Int), .int (l1 : Int)]) (.lst [.int (r0.length : Int), .int (r1.length : Int)]) = decide ([(l0 : Int), (l1 : Int)] = [(r0.length : Int), (r1.length : Int)]) from eqD_ints [(l0 : Int), (l1 : Int)] [(r0.length : Int), (r1.length : Int)]]
  refine ⟨_, rfl, ?_⟩
  refine ifC (fun c => ?_) (fun c => ?_)
  rotate_left
  · refine WpS.walk ?_
    walk_at "D"
    exact fin_dat rfl q
  have nd : ¬ (l0 = r0.length ∧ l1 = r1.length) := fun z => by
    rw [z.1, z.2, decide_eq_true rfl] at c
    cases c
  clear c
  refine ws_seqP (fun _ : Unit => True) (fun _ => ⟨[some (.dat (.scr (ns.map D.int))), some (.dat (.lst (ms.map D.int))), some (.dat (.lst [rowD r0, rowD r1])), some (.dat (.lst [dueD r0, dueD r1])), a4.map AV.dat, some (.dat (.lst [endD r0, endD r1])), some (.cel 2), some (.cel 3), some (.cel 4), some (.dat (.int pc)), some (.dat (.int ((tn + 1 : Nat) : Int))), a11.map AV.dat, a12.map AV.dat, none, none, none, none], [.reg (some p.1) (feedAt T.c_Feed T.c_Growing r0 l0), .reg (some p.2) (feedAt T.c_Feed T.c_Growing r1 l1), .lst [.cls p.1, .cls p.2], .lst [.int (l0 : Int), .int (l1 : Int)], .drw, .lst [.int (r0.length : Int), .int (r1.length : Int)]]⟩) (fun _ _ => ?_) ?_
  rotate_left
  · walk_at "D"
    exact ⟨(), trivial, .tr .all⟩
  walk_at "D"
  refine ⟨by decide, ?_⟩
  refine loop_rng (fun i ρ => ∃ (m0 m1 : Nat) (a4 a11 a12 : Option D), l0 ≤ m0 ∧ m0 ≤ r0.length ∧ l1 ≤ m1 ∧ m1 ≤ r1.length ∧ (i = 0 → m0 = l0 ∧ m1 = l1) ∧ (i = 1 → m1 = l1) ∧ (tn % 2 = 0 → (1 ≤ i → min r0.length (l0 + 1) ≤ m0) ∧ (2 ≤ i → min r1.length (l1 + 1) ≤ m1)) ∧ ρ = ⟨[some (.dat (.scr (ns.map D.int))), some (.dat (.lst (ms.map D.int))), some (.dat (.lst [rowD r0, rowD r1])), some (.dat (.lst [dueD r0, dueD r1])), a4.map AV.dat, some (.dat (.lst [endD r0, endD r1])), some (.cel 2), some (.cel 3), some (.cel 4), some (.dat (.int pc)), some (.dat (.int ((tn + 1 : Nat) : Int))), a11.map AV.dat, a12.map AV.dat, none, none, none, none], [.reg (some p.1) (feedAt T.c_Feed T.c_Growing r0 m0), .reg (some p.2) (feedAt T.c_Feed T.c_Growing r1 m1), .lst [.cls p.1, .cls p.2], .lst [.int (m0 : Int), .int (m1 : Int)], .drw, .lst [.int (r0.length : Int), .int (r1.length : Int)]]⟩) ⟨l0, l1, a4, a11, a12, Nat.le_refl _, h0, Nat.le_refl _, h1, fun _ => ⟨rfl, rfl⟩, fun z => (nomatch z), fun _ => ⟨fun z => (by omega), fun z => (by omega)⟩, rfl⟩ ?_ ?_
  · rintro ρ ⟨m0, m1, a4, a11, a12, g0, g1, g2, g3, _, _, go, rfl⟩
    refine ⟨trivial, 2 * ((r0.length - m0) + (r1.length - m1)) + (tn + 1) % 2, _, ?_, .cut, m0, m1, tn + 1, a4, a11, a12, rfl, g1, g3, ?_⟩
    · rcases Nat.mod_two_eq_zero_or_one tn with z | z
      · obtain ⟨x, y⟩ := go z
        have x := x (by decide)
        have y := y (by decide)
        omega
      · omega
    · cases a4 <;> cases a11 <;> cases a12 <;> rfl
  rintro i ρ hi ⟨m0, m1, a4, a11, a12, g0, g1, g2, g3, gi0, gi1, go, rfl⟩
  refine ⟨trivial, ?_⟩
  have hi : i < 2 := hi
  have ix : ∀ j : Nat, j < 2 → ixN 2 (j : Int) = some j := fun j hj => by
    unfold ixN
    rw [if_pos (by omega), if_pos (by omega)]
    rfl
  rcases (by omega : i = 0 ∨ i = 1) with rfl | rfl
  · obtain ⟨rfl, rfl⟩ := gi0 rfl
    rw [Int.zero_add]
    refine wg_name ?_
    refine ws_wipe [11, 12] ?_
    show WpS K F _ ⟨[some (.dat (.scr (ns.map D.int))), some (.dat (.lst (ms.map D.int))), some (.dat (.lst [rowD r0, rowD r1])), some (.dat (.lst [dueD r0, dueD r1])), some (.dat (.int ((0 : Nat) : Int))), some (.dat (.lst [endD r0, endD r1])), some (.cel 2), some (.cel 3), some (.cel 4), some (.dat (.int pc)), some (.dat (.int ((tn + 1 : Nat) : Int))), none, none, none, none, none, none], [.reg (some p.1) (feedAt T.c_Feed T.c_Growing r0 m0), .reg (some p.2) (feedAt T.c_Feed T.c_Growing r1 m1), .lst [.cls p.1, .cls p.2], .lst [.int (m0 : Int), .int (m1 : Int)], .drw, .lst [.int (r0.length : Int), .int (r1.length : Int)]]⟩ _
    refine ws_seqP (fun _ : Unit => True) (fun _ => ⟨[some (.dat (.scr (ns.map D.int))), some (.dat (.lst (ms.map D.int))), some (.dat (.lst [rowD r0, rowD r1])), some (.dat (.lst [dueD r0, dueD r1])), some (.dat (.int ((0 : Nat) : Int))), some (.dat (.lst [endD r0, endD r1])), some (.cel 2), some (.cel 3), some (.cel 4), some (.dat (.int pc)), some (.dat (.int ((tn + 1 : Nat) : Int))), some (.dat (.int (m0 : Int))), none, none, none, none, none], [.reg (some p.1) (feedAt T.c_Feed T.c_Growing r0 m0), .reg (some p.2) (feedAt T.c_Feed T.c_Growing r1 m1), .lst [.cls p.1, .cls p.2], .lst [.int (m0 : Int), .int (m1 : Int)], .drw, .lst [.int (r0.length : Int), .int (r1.length : Int)]]⟩) (fun _ _ => ?_) ?_
    rotate_left
    · walk_at "D"
      exact ⟨(), trivial, .tr .all⟩
    refine ws_seqP (fun hi : Nat => m0 ≤ hi ∧ hi ≤ r0.length ∧ (tn % 2 = 0 → min r0.length (m0 + 1) ≤ hi)) (fun hi => ⟨[some (.dat (.scr (ns.map D.int))), some (.dat (.lst (ms.map D.int))), some (.dat (.lst [rowD r0, rowD r1])), some (.dat (.lst [dueD r0, dueD r1])), some (.dat (.int ((0 : Nat) : Int))), some (.dat (.lst [endD r0, endD r1])), some (.cel 2), some (.cel 3), some (.cel 4), some (.dat (.int pc)), some (.dat (.int ((tn + 1 : Nat) : Int))), some (.dat (.int (m0 : Int))), some (.dat (.int (hi : Int))), none, none, none, none], [.reg (some p.1) (feedAt T.c_Feed T.c_Growing r0 m0), .reg (some p.2) (feedAt T.c_Feed T.c_Growing r1 m1), .lst [.cls p.1, .cls p.2], .lst [.int (m0 : Int), .int (m1 : Int)], .drw, .lst [.int (r0.length : Int), .int (r1.length : Int)]]⟩) (fun hi hhi => ?_) ?_
    rotate_left
    · walk_at "D"
      unfold rowD
      walk_at "D"
      rw [List.length_map]
      refine wr_Ii (show CMul _ _ by first | exact .inl ⟨by omega, by omega⟩ | exact .inr ⟨by omega, by omega⟩) ?_
      walk_at "D"
      refine wsp_digit rfl (by omega) (by omega) fun d d0 d1 => ?_
      walk_at "D"
      refine wr_Ii (by decide) ?_
      walk_at "D"
      refine wc_min2 ?_
      walk_at "D"
      have hh : ∃ hi : Nat, (if (m0 : Int) + d + ((tn + 1 : Nat) : Int) % 2 < (r0.length : Int) then (m0 : Int) + d + ((tn + 1 : Nat) : Int) % 2 else (r0.length : Int)) = (hi : Int) ∧ m0 ≤ hi ∧ hi ≤ r0.length ∧ (tn % 2 = 0 → min r0.length (m0 + 1) ≤ hi) := by
        by_cases y : (m0 : Int) + d + ((tn + 1 : Nat) : Int) % 2 < (r0.length : Int)
        · rw [if_pos y]
          exact ⟨((m0 : Int) + d + ((tn + 1 : Nat) : Int) % 2).toNat, by omega, by omega, by omega, by omega⟩
        · rw [if_neg y]
          exact ⟨r0.length, rfl, by omega, Nat.le_refl _, by omega⟩
      obtain ⟨hi, e1, e2⟩ := hh
      rw [e1]
      exact ⟨hi, e2, .tr .all⟩
    obtain ⟨x1, x2, x3⟩ := hhi
    refine ws_seqP (fun _ : Unit => True) (fun _ => ⟨[some (.dat (.scr (ns.map D.int))), some (.dat (.lst (ms.map D.int))), some (.dat (.lst [rowD r0, rowD r1])), some (.dat (.lst [dueD r0, dueD r1])), some (.dat (.int ((0 : Nat) : Int))), some (.dat (.lst [endD r0, endD r1])), some (.cel 2), some (.cel 3), some (.cel 4), some (.dat (.int pc)), some (.dat (.int ((tn + 1 : Nat) : Int))), some (.dat (.int (m0 : Int))), some (.dat (.int (hi : Int))), none, none, none, none], [.reg (some p.1) (feedAt T.c_Feed T.c_Growing r0 hi), .reg (some p.2) (feedAt T.c_Feed T.c_Growing r1 m1), .lst [.cls p.1, .cls p.2], .lst [.int (m0 : Int), .int (m1 : Int)], .drw, .lst [.int (r0.length : Int), .int (r1.length : Int)]]⟩) (fun _ _ => ?_) ?_
    rotate_left
    · walk_at "D"
      refine wsp_ptrR (j := 0) rfl (.ptr (.same (.same (.same (.same (.same .nil)))))) ?_
      refine wsp1 (j := 0) rfl rfl rfl ⟨r0, m0, hi, some p.1, rfl, rfl, b0, by omega, x1, x2, _, rfl, rfl, ?_⟩
      walk_at "D"
      exact ⟨(), trivial, .tr .all⟩
    refine ws_seqP (fun _ : Unit => True) (fun _ => ⟨[some (.dat (.scr (ns.map D.int))), some (.dat (.lst (ms.map D.int))), some (.dat (.lst [rowD r0, rowD r1])), some (.dat (.lst [dueD r0, dueD r1])), some (.dat (.int ((0 : Nat) : Int))), some (.dat (.lst [endD r0, endD r1])), some (.cel 2), some (.cel 3), some (.cel 4), some (.dat (.int pc)), some (.dat (.int ((tn + 1 : Nat) : Int))), some (.dat (.int (m0 : Int))), some (.dat (.int (hi : Int))), none, none, none, none], [.reg (some p.1) (feedAt T.c_Feed T.c_Growing r0 hi), .reg (some p.2) (feedAt T.c_Feed T.c_Growing r1 m1), .lst [.cls p.1, .cls p.2], .lst [.int (hi : Int), .int (m1 : Int)], .drw, .lst [.int (r0.length : Int), .int (r1.length : Int)]]⟩) (fun _ _ => ?_) ?_
    rotate_left
    · walk_at "D"
      refine sub_in rfl rfl (by walk_at "fz") rfl (show ixN ([D.int (m0 : Int), D.int (m1 : Int)] : List D).length ((0 : Nat) : Int) = some 0 from ix 0 (by decide)) ?_
      exact ⟨(), trivial, .tr .all⟩
    walk_at "D"
    refine wsp_digit rfl (by decide) (by decide) fun u u0 u1 => ?_
    walk_at "D"
    refine ifC (fun c => ?_) (fun c => ?_)
    rotate_left
    · walk_at "D"
      exact now ⟨hi, m1, some (.int ((0 : Nat) : Int)), some (.int (m0 : Int)), some (.int (hi : Int)), x1, x2, g2, g3, (fun z => by first | omega | cases z), fun _ => rfl, fun z => ⟨fun _ => x3 z, fun y => by first | omega | cases y⟩, rfl⟩
    unfold rowD
    walk_at "D"
    rw [cut_int]
    refine wsp_frz (j := 6) rfl ?_
    walk_at "nr4"
    walk_at "cd"
    refine ⟨_, rfl, rfl, Nat.le_trans (cutI_len _ _ _) (by omega), fun d od => ⟨rfl, ?_⟩, fun ds od => ⟨rfl, ?_⟩⟩
    · refine ⟨(Bool.or_eq_true _ _).mpr (.inl rfl), ?_⟩
      walk_at "D"
      refine wsp_ptrR (j := 0) rfl (.ptr (.same .nil)) ?_
      refine wsp1 (j := 0) rfl rfl rfl ⟨d, some p.1, _, _, _, rfl, rfl, od, _, rfl, rfl, ?_⟩
      walk_at "D"
      refine we_methR (C := T.c_Feed) ?_
      walk_at "D"
      refine ⟨_, .ptr (j := 0) rfl, feedX_C rfl, ?_⟩
      walk_at "D"
      refine wsp_ptrR (j := 0) rfl (.ptr .nil) ?_
      refine wsp1 (j := 0) rfl rfl rfl ⟨_, _, _, _, rfl, rfl, _, rfl, rfl, ?_⟩
      walk_at "D"
      rw [show eqS (D.int (hi : Int)) (D.int (hi : Int)) = true from decide_eq_true rfl]
      walk_at "D"
      exact now ⟨hi, m1, some (.int ((0 : Nat) : Int)), some (.int (m0 : Int)), some (.int (hi : Int)), x1, x2, g2, g3, (fun z => by first | omega | cases z), fun _ => rfl, fun z => ⟨fun _ => x3 z, fun y => by first | omega | cases y⟩, rfl⟩
    · refine ⟨(Bool.or_eq_true _ _).mpr (.inl rfl), ?_⟩
      walk_at "D"
      refine wsp_frz (j := 7) rfl ?_
      walk_at "nr4"
      refine wsp_ptrR (j := 0) rfl (.ptr (.same .nil)) ?_
      refine wsp1 (j := 0) rfl rfl rfl ⟨.lst ds, some p.1, _, _, _, rfl, rfl, od, _, rfl, rfl, ?_⟩
      walk_at "D"
      refine we_methR (C := T.c_Feed) ?_
      walk_at "D"
      refine ⟨_, .ptr (j := 0) rfl, feedX_C rfl, ?_⟩
      walk_at "D"
      refine wsp_ptrR (j := 0) rfl (.ptr .nil) ?_
      refine wsp1 (j := 0) rfl rfl rfl ⟨_, _, _, _, rfl, rfl, _, rfl, rfl, ?_⟩
      walk_at "D"
      rw [show eqS (D.int (hi : Int)) (D.int (hi : Int)) = true from decide_eq_true rfl]
      walk_at "D"
      exact now ⟨hi, m1, some (.int ((0 : Nat) : Int)), some (.int (m0 : Int)), some (.int (hi : Int)), x1, x2, g2, g3, (fun z => by first | omega | cases z), fun _ => rfl, fun z => ⟨fun _ => x3 z, fun y => by first | omega | cases y⟩, rfl⟩
  · have em1 := gi1 rfl
    subst em1
    rw [Int.zero_add]
    refine wg_name ?_
    refine ws_wipe [11, 12] ?_
    show WpS K F _ ⟨[some (.dat (.scr (ns.map D.int))), some (.dat (.lst (ms.map D.int))), some (.dat (.lst [rowD r0, rowD r1])), some (.dat (.lst [dueD r0, dueD r1])), some (.dat (.int ((1 : Nat) : Int))), some (.dat (.lst [endD r0, endD r1])), some (.cel 2), some (.cel 3), some (.cel 4), some (.dat (.int pc)), some (.dat (.int ((tn + 1 : Nat) : Int))), none, none, none, none, none, none], [.reg (some p.1) (feedAt T.c_Feed T.c_Growing r0 m0), .reg (some p.2) (feedAt T.c_Feed T.c_Growing r1 m1), .lst [.cls p.1, .cls p.2], .lst [.int (m0 : Int), .int (m1 : Int)], .drw, .lst [.int (r0.length : Int), .int (r1.length : Int)]]⟩ _
    refine ws_seqP (fun _ : Unit => True) (fun _ => ⟨[some (.dat (.scr (ns.map D.int))), some (.dat (.lst (ms.map D.int))), some (.dat (.lst [rowD r0, rowD r1])), some (.dat (.lst [dueD r0, dueD r1])), some (.dat (.int ((1 : Nat) : Int))), some (.dat (.lst [endD r0, endD r1])), some (.cel 2), some (.cel 3), some (.cel 4), some (.dat (.int pc)), some (.dat (.int ((tn + 1 : Nat) : Int))), some (.dat (.int (m1 : Int))), none, none, none, none, none], [.reg (some p.1) (feedAt T.c_Feed T.c_Growing r0 m0), .reg (some p.2) (feedAt T.c_Feed T.c_Growing r1 m1), .lst [.cls p.1, .cls p.2], .lst [.int (m0 : Int), .int (m1 : Int)], .drw, .lst [.int (r0.length : Int), .int (r1.length : Int)]]⟩) (fun _ _ => ?_) ?_
    rotate_left
    · walk_at "D"
      exact ⟨(), trivial, .tr .all⟩
    refine ws_seqP (fun hi : Nat => m1 ≤ hi ∧ hi ≤ r1.length ∧ (tn % 2 = 0 → min r1.length (m1 + 1) ≤ hi)) (fun hi => ⟨[some (.dat (.scr (ns.map D.int))), some (.dat (.lst (ms.map D.int))), some (.dat (.lst [rowD r0, rowD r1])), some (.dat (.lst [dueD r0, dueD r1])), some (.dat (.int ((1 : Nat) : Int))), some (.dat (.lst [endD r0, endD r1])), some (.cel 2), some (.cel 3), some (.cel 4), some (.dat (.int pc)), some (.dat (.int ((tn + 1 : Nat) : Int))), some (.dat (.int (m1 : Int))), some (.dat (.int (hi : Int))), none, none, none, none], [.reg (some p.1) (feedAt T.c_Feed T.c_Growing r0 m0), .reg (some p.2) (feedAt T.c_Feed T.c_Growing r1 m1), .lst [.cls p.1, .cls p.2], .lst [.int (m0 : Int), .int (m1 : Int)], .drw, .lst [.int (r0.length : Int), .int (r1.length : Int)]]⟩) (fun hi hhi => ?_) ?_
    rotate_left
    · walk_at "D"
      unfold rowD
      walk_at "D"
      rw [List.length_map]
      refine wr_Ii (show CMul _ _ by first | exact .inl ⟨by omega, by omega⟩ | exact .inr ⟨by omega, by omega⟩) ?_
      walk_at "D"
      refine wsp_digit rfl (by omega) (by omega) fun d d0 d1 => ?_
      walk_at "D"
      refine wr_Ii (by decide) ?_
      walk_at "D"
      refine wc_min2 ?_
      walk_at "D"
      have hh : ∃ hi : Nat, (if (m1 : Int) + d + ((tn + 1 : Nat) : Int) % 2 < (r1.length : Int) then (m1 : Int) + d + ((tn + 1 : Nat) : Int) % 2 else (r1.length : Int)) = (hi : Int) ∧ m1 ≤ hi ∧ hi ≤ r1.length ∧ (tn % 2 = 0 → min r1.length (m1 + 1) ≤ hi) := by
        by_cases y : (m1 : Int) + d + ((tn + 1 : Nat) : Int) % 2 < (r1.length : Int)
        · rw [if_pos y]
          exact ⟨((m1 : Int) + d + ((tn + 1 : Nat) : Int) % 2).toNat, by omega, by omega, by omega, by omega⟩
        · rw [if_neg y]
          exact ⟨r1.length, rfl, by omega, Nat.le_refl _, by omega⟩
      obtain ⟨hi, e1, e2⟩ := hh
      rw [e1]
      exact ⟨hi, e2, .tr .all⟩
    obtain ⟨x1, x2, x3⟩ := hhi
    refine ws_seqP (fun _ : Unit => True) (fun _ => ⟨[some (.dat (.scr (ns.map D.int))), some (.dat (.lst (ms.map D.int))), some (.dat (.lst [rowD r0, rowD r1])), some (.dat (.lst [dueD r0, dueD r1])), some (.dat (.int ((1 : Nat) : Int))), some (.dat (.lst [endD r0, endD r1])), some (.cel 2), some (.cel 3), some (.cel 4), some (.dat (.int pc)), some (.dat (.int ((tn + 1 : Nat) : Int))), some (.dat (.int (m1 : Int))), some (.dat (.int (hi : Int))), none, none, none, none], [.reg (some p.1) (feedAt T.c_Feed T.c_Growing r0 m0), .reg (some p.2) (feedAt T.c_Feed T.c_Growing r1 hi), .lst [.cls p.1, .cls p.2], .lst [.int (m0 : Int), .int (m1 : Int)], .drw, .lst [.int (r0.length : Int), .int (r1.length : Int)]]⟩) (fun _ _ => ?_) ?_
    rotate_left
    · walk_at "D"
      refine wsp_ptrR (j := 1) rfl (.ptr (.same (.same (.same (.same (.same .nil)))))) ?_
      refine wsp1 (j := 1) rfl rfl rfl ⟨r1, m1, hi, some p.2, rfl, rfl, b1, by omega, x1, x2, _, rfl, rfl, ?_⟩
      walk_at "D"
      exact ⟨(), trivial, .tr .all⟩
    refine ws_seqP (fun _ : Unit => True) (fun _ => ⟨[some (.dat (.scr (ns.map D.int))), some (.dat (.lst (ms.map D.int))), some (.dat (.lst [rowD r0, rowD r1])), some (.dat (.lst [dueD r0, dueD r1])), some (.dat (.int ((1 : Nat) : Int))), some (.dat (.lst [endD r0, endD r1])), some (.cel 2), some (.cel 3), some (.cel 4), some (.dat (.int pc)), some (.dat (.int ((tn + 1 : Nat) : Int))), some (.dat (.int (m1 : Int))), some (.dat (.int (hi : Int))), none, none, none, none], [.reg (some p.1) (feedAt T.c_Feed T.c_Growing r0 m0), .reg (some p.2) (feedAt T.c_Feed T.c_Growing r1 hi), .lst [.cls p.1, .cls p.2], .lst [.int (m0 : Int), .int (hi : Int)], .drw, .lst [.int (r0.length : Int), .int (r1.length : Int)]]⟩) (fun _ _ => ?_) ?_
    rotate_left
    · walk_at "D"
      refine sub_in rfl rfl (by walk_at "fz") rfl (show ixN ([D.int (m0 : Int), D.int (m1 : Int)] : List D).length ((1 : Nat) : Int) = some 1 from ix 1 (by decide)) ?_
      exact ⟨(), trivial, .tr .all⟩
    walk_at "D"
    refine wsp_digit rfl (by decide) (by decide) fun u u0 u1 => ?_
    walk_at "D"
    refine ifC (fun c => ?_) (fun c => ?_)
    rotate_left
    · walk_at "D"
      exact now ⟨m0, hi, some (.int ((1 : Nat) : Int)), some (.int (m1 : Int)), some (.int (hi : Int)), g0, g1, x1, x2, (fun z => by first | omega | cases z), (fun z => by first | omega | cases z), fun z => ⟨fun _ => (go z).1 (by decide), fun _ => x3 z⟩, rfl⟩
    unfold rowD
    walk_at "D"
    rw [cut_int]
    refine wsp_frz (j := 6) rfl ?_
    walk_at "nr4"
    walk_at "cd"
    refine ⟨_, rfl, rfl, Nat.le_trans (cutI_len _ _ _) (by omega), fun d od => ⟨rfl, ?_⟩, fun ds od => ⟨rfl, ?_⟩⟩
    · refine ⟨(Bool.or_eq_true _ _).mpr (.inl rfl), ?_⟩
      walk_at "D"
      refine wsp_ptrR (j := 1) rfl (.ptr (.same .nil)) ?_
      refine wsp1 (j := 1) rfl rfl rfl ⟨d, some p.2, _, _, _, rfl, rfl, od, _, rfl, rfl, ?_⟩
      walk_at "D"
      refine we_methR (C := T.c_Feed) ?_
      walk_at "D"
      refine ⟨_, .ptr (j := 1) rfl, feedX_C rfl, ?_⟩
      walk_at "D"
      refine wsp_ptrR (j := 1) rfl (.ptr .nil) ?_
      refine wsp1 (j := 1) rfl rfl rfl ⟨_, _, _, _, rfl, rfl, _, rfl, rfl, ?_⟩
      walk_at "D"
      rw [show eqS (D.int (hi : Int)) (D.int (hi : Int)) = true from decide_eq_true rfl]
      walk_at "D"
      exact now ⟨m0, hi, some (.int ((1 : Nat) : Int)), some (.int (m1 : Int)), some (.int (hi : Int)), g0, g1, x1, x2, (fun z => by first | omega | cases z), (fun z => by first | omega | cases z), fun z => ⟨fun _ => (go z).1 (by decide), fun _ => x3 z⟩, rfl⟩
    · refine ⟨(Bool.or_eq_true _ _).mpr (.inl rfl), ?_⟩
      walk_at "D"
      refine wsp_frz (j := 7) rfl ?_
      walk_at "nr4"
      refine wsp_ptrR (j := 1) rfl (.ptr (.same .nil)) ?_
      refine wsp1 (j := 1) rfl rfl rfl ⟨.lst ds, some p.2, _, _, _, rfl, rfl, od, _, rfl, rfl, ?_⟩
      walk_at "D"
      refine we_methR (C := T.c_Feed) ?_
      walk_at "D"
      refine ⟨_, .ptr (j := 1) rfl, feedX_C rfl, ?_⟩
      walk_at "D"
      refine wsp_ptrR (j := 1) rfl (.ptr .nil) ?_
      refine wsp1 (j := 1) rfl rfl rfl ⟨_, _, _, _, rfl, rfl, _, rfl, rfl, ?_⟩
      walk_at "D"
      rw [show eqS (D.int (hi : Int)) (D.int (hi : Int)) = true from decide_eq_true rfl]
      walk_at "D"
      exact now ⟨m0, hi, some (.int ((1 : Nat) : Int)), some (.int (m1 : Int)), some (.int (hi : Int)), g0, g1, x1, x2, (fun z => by first | omega | cases z), (fun z => by first | omega | cases z), fun z => ⟨fun _ => (go z).1 (by decide), fun _ => x3 z⟩, rfl⟩
end
theorem all_mk {l : PySem.W.OpenLaw} {w : World} {K : PySem.W.Frag} {h : Heap} {mg : Str → Option Value} {fa : Addr} (X : K.In h) (G : h.Ns mainGlobals mg) (hfa : mg "law" = some (.ref fa))
    {f0 : Addr} {od0 an0 : Option Addr} {sl0 : Array (Option Value)} {oc0 kV0 dc0 pm0 cd0 ct0 : Value}
    (a0 : PySem.W.nsIn K mainGlobals "is_number" = some (some (.ref f0)))
    (l0 : K.lookup f0 = some ⟨oc0, od0, .func (PySem.W.fnOf "is_number" "is_number" (defArgs s_is_number) (defBody s_is_number) (defScope s_is_number) .none kV0 dc0 pm0 an0 cd0 ct0), sl0⟩) (c0 : PySem.W.codeIn K cd0 "is_number" = true) (k0 : PySem.W.keepIn K (.ref f0) = true)
    {f1 : Addr} {od1 an1 : Option Addr} {sl1 : Array (Option Value)} {oc1 kV1 dc1 pm1 cd1 ct1 : Value}
    (a1 : PySem.W.nsIn K mainGlobals "is_whole" = some (some (.ref f1)))
    (l1 : K.lookup f1 = some ⟨oc1, od1, .func (PySem.W.fnOf "is_whole" "is_whole" (defArgs s_is_whole) (defBody s_is_whole) (defScope s_is_whole) .none kV1 dc1 pm1 an1 cd1 ct1), sl1⟩) (c1 : PySem.W.codeIn K cd1 "is_whole" = true) (k1 : PySem.W.keepIn K (.ref f1) = true)
    {f2 : Addr} {od2 an2 : Option Addr} {sl2 : Array (Option Value)} {oc2 kV2 dc2 pm2 cd2 ct2 : Value}
    (a2 : PySem.W.nsIn K mainGlobals "is_bytes" = some (some (.ref f2)))
    (l2 : K.lookup f2 = some ⟨oc2, od2, .func (PySem.W.fnOf "is_bytes" "is_bytes" (defArgs s_is_bytes) (defBody s_is_bytes) (defScope s_is_bytes) .none kV2 dc2 pm2 an2 cd2 ct2), sl2⟩) (c2 : PySem.W.codeIn K cd2 "is_bytes" = true) (k2 : PySem.W.keepIn K (.ref f2) = true)
    {f3 : Addr} {od3 an3 : Option Addr} {sl3 : Array (Option Value)} {oc3 kV3 dc3 pm3 cd3 ct3 : Value}
    (a3 : PySem.W.nsIn K mainGlobals "refuse_no_bytes" = some (some (.ref f3)))
    (l3 : K.lookup f3 = some ⟨oc3, od3, .func (PySem.W.fnOf "refuse_no_bytes" "refuse_no_bytes" (defArgs s_refuse_no_bytes) (defBody s_refuse_no_bytes) (defScope s_refuse_no_bytes) .none kV3 dc3 pm3 an3 cd3 ct3), sl3⟩) (c3 : PySem.W.codeIn K cd3 "refuse_no_bytes" = true) (k3 : PySem.W.keepIn K (.ref f3) = true)
    {f4 : Addr} {od4 an4 : Option Addr} {sl4 : Array (Option Value)} {oc4 kV4 dc4 pm4 cd4 ct4 : Value}
    (a4 : PySem.W.nsIn K mainGlobals "number_at" = some (some (.ref f4)))
    (l4 : K.lookup f4 = some ⟨oc4, od4, .func (PySem.W.fnOf "number_at" "number_at" (defArgs s_number_at) (defBody s_number_at) (defScope s_number_at) .none kV4 dc4 pm4 an4 cd4 ct4), sl4⟩) (c4 : PySem.W.codeIn K cd4 "number_at" = true) (k4 : PySem.W.keepIn K (.ref f4) = true)
    {f5 : Addr} {od5 an5 : Option Addr} {sl5 : Array (Option Value)} {oc5 kV5 dc5 pm5 cd5 ct5 : Value}
    (a5 : PySem.W.nsIn K mainGlobals "check" = some (some (.ref f5)))
    (l5 : K.lookup f5 = some ⟨oc5, od5, .func (PySem.W.fnOf "check" "check" (defArgs s_check) (defBody s_check) (defScope s_check) .none kV5 dc5 pm5 an5 cd5 ct5), sl5⟩) (c5 : PySem.W.codeIn K cd5 "check" = true) (k5 : PySem.W.keepIn K (.ref f5) = true)
    {f6 : Addr} {od6 an6 : Option Addr} {sl6 : Array (Option Value)} {oc6 kV6 dc6 pm6 cd6 ct6 : Value}
    {D6 : Addr} (y6 : PySem.W.nsIn K mainGlobals "Growing" = some (some (.ref D6))) (a6 : PySem.W.findIn K (.ref D6) "__init__" = some (some (.ref f6)))
    (l6 : K.lookup f6 = some ⟨oc6, od6, .func (PySem.W.fnOf "__init__" "Growing.__init__" (defArgs s_Growing_init) (defBody s_Growing_init) (defScope s_Growing_init) .none kV6 dc6 pm6 an6 cd6 ct6), sl6⟩) (c6 : PySem.W.codeIn K cd6 "Growing.__init__" = true) (k6 : PySem.W.keepIn K (.ref f6) = true)
    {f7 : Addr} {od7 an7 : Option Addr} {sl7 : Array (Option Value)} {oc7 kV7 dc7 pm7 cd7 ct7 : Value}
    {D7 : Addr} (y7 : PySem.W.nsIn K mainGlobals "Growing" = some (some (.ref D7))) (a7 : PySem.W.findIn K (.ref D7) "grow" = some (some (.ref f7)))
    (l7 : K.lookup f7 = some ⟨oc7, od7, .func (PySem.W.fnOf "grow" "Growing.grow" (defArgs s_Growing_grow) (defBody s_Growing_grow) (defScope s_Growing_grow) .none kV7 dc7 pm7 an7 cd7 ct7), sl7⟩) (c7 : PySem.W.codeIn K cd7 "Growing.grow" = true) (k7 : PySem.W.keepIn K (.ref f7) = true)
    {f8 : Addr} {od8 an8 : Option Addr} {sl8 : Array (Option Value)} {oc8 kV8 dc8 pm8 cd8 ct8 : Value}
    {D8 : Addr} (y8 : PySem.W.nsIn K mainGlobals "Growing" = some (some (.ref D8))) (a8 : PySem.W.findIn K (.ref D8) "measure" = some (some (.ref f8)))
    (l8 : K.lookup f8 = some ⟨oc8, od8, .func (PySem.W.fnOf "measure" "Growing.measure" (defArgs s_Growing_measure) (defBody s_Growing_measure) (defScope s_Growing_measure) .none kV8 dc8 pm8 an8 cd8 ct8), sl8⟩) (c8 : PySem.W.codeIn K cd8 "Growing.measure" = true) (k8 : PySem.W.keepIn K (.ref f8) = true)
    {f9 : Addr} {od9 an9 : Option Addr} {sl9 : Array (Option Value)} {oc9 kV9 dc9 pm9 cd9 ct9 : Value}
    {D9 : Addr} (y9 : PySem.W.nsIn K mainGlobals "Growing" = some (some (.ref D9))) (a9 : PySem.W.findIn K (.ref D9) "body" = some (some (.ref f9)))
    (l9 : K.lookup f9 = some ⟨oc9, od9, .func (PySem.W.fnOf "body" "Growing.body" (defArgs s_Growing_body) (defBody s_Growing_body) (defScope s_Growing_body) .none kV9 dc9 pm9 an9 cd9 ct9), sl9⟩) (c9 : PySem.W.codeIn K cd9 "Growing.body" = true) (k9 : PySem.W.keepIn K (.ref f9) = true)
    {f10 : Addr} {od10 an10 : Option Addr} {sl10 : Array (Option Value)} {oc10 kV10 dc10 pm10 cd10 ct10 : Value}
    {D10 : Addr} (y10 : PySem.W.nsIn K mainGlobals "Growing" = some (some (.ref D10))) (a10 : PySem.W.findIn K (.ref D10) "is_right" = some (some (.ref f10)))
    (l10 : K.lookup f10 = some ⟨oc10, od10, .func (PySem.W.fnOf "is_right" "Growing.is_right" (defArgs s_Growing_is_right) (defBody s_Growing_is_right) (defScope s_Growing_is_right) .none kV10 dc10 pm10 an10 cd10 ct10), sl10⟩) (c10 : PySem.W.codeIn K cd10 "Growing.is_right" = true) (k10 : PySem.W.keepIn K (.ref f10) = true)
    {f11 : Addr} {od11 an11 : Option Addr} {sl11 : Array (Option Value)} {oc11 kV11 dc11 pm11 cd11 ct11 : Value}
    {D11 : Addr} (y11 : PySem.W.nsIn K mainGlobals "Feed" = some (some (.ref D11))) (a11 : PySem.W.findIn K (.ref D11) "__init__" = some (some (.ref f11)))
    (l11 : K.lookup f11 = some ⟨oc11, od11, .func (PySem.W.fnOf "__init__" "Feed.__init__" (defArgs s_Feed_init) (defBody s_Feed_init) (defScope s_Feed_init) .none kV11 dc11 pm11 an11 cd11 ct11), sl11⟩) (c11 : PySem.W.codeIn K cd11 "Feed.__init__" = true) (k11 : PySem.W.keepIn K (.ref f11) = true)
    {f12 : Addr} {od12 an12 : Option Addr} {sl12 : Array (Option Value)} {oc12 kV12 dc12 pm12 cd12 ct12 : Value}
    {D12 : Addr} (y12 : PySem.W.nsIn K mainGlobals "Feed" = some (some (.ref D12))) (a12 : PySem.W.findIn K (.ref D12) "take" = some (some (.ref f12)))
    (l12 : K.lookup f12 = some ⟨oc12, od12, .func (PySem.W.fnOf "take" "Feed.take" (defArgs s_Feed_take) (defBody s_Feed_take) (defScope s_Feed_take) .none kV12 dc12 pm12 an12 cd12 ct12), sl12⟩) (c12 : PySem.W.codeIn K cd12 "Feed.take" = true) (k12 : PySem.W.keepIn K (.ref f12) = true)
    {f13 : Addr} {od13 an13 : Option Addr} {sl13 : Array (Option Value)} {oc13 kV13 dc13 pm13 cd13 ct13 : Value}
    {D13 : Addr} (y13 : PySem.W.nsIn K mainGlobals "Feed" = some (some (.ref D13))) (a13 : PySem.W.findIn K (.ref D13) "taken" = some (some (.ref f13)))
    (l13 : K.lookup f13 = some ⟨oc13, od13, .func (PySem.W.fnOf "taken" "Feed.taken" (defArgs s_Feed_taken) (defBody s_Feed_taken) (defScope s_Feed_taken) .none kV13 dc13 pm13 an13 cd13 ct13), sl13⟩) (c13 : PySem.W.codeIn K cd13 "Feed.taken" = true) (k13 : PySem.W.keepIn K (.ref f13) = true)
    {f14 : Addr} {od14 an14 : Option Addr} {sl14 : Array (Option Value)} {oc14 kV14 dc14 pm14 cd14 ct14 : Value}
    (a14 : PySem.W.nsIn K mainGlobals "sum_of" = some (some (.ref f14)))
    (l14 : K.lookup f14 = some ⟨oc14, od14, .func (PySem.W.fnOf "sum_of" "sum_of" (defArgs s_sum_of) (defBody s_sum_of) (defScope s_sum_of) .none kV14 dc14 pm14 an14 cd14 ct14), sl14⟩) (c14 : PySem.W.codeIn K cd14 "sum_of" = true) (k14 : PySem.W.keepIn K (.ref f14) = true)
    {f15 : Addr} {od15 an15 : Option Addr} {sl15 : Array (Option Value)} {oc15 kV15 dc15 pm15 cd15 ct15 : Value}
    (a15 : PySem.W.nsIn K mainGlobals "_law_cell_at" = some (some (.ref f15)))
    (l15 : K.lookup f15 = some ⟨oc15, od15, .func (PySem.W.fnOf "_law_cell_at" "_law_cell_at" (defArgs s_l_cell_at) (defBody s_l_cell_at) (defScope s_l_cell_at) .none kV15 dc15 pm15 an15 cd15 ct15), sl15⟩) (c15 : PySem.W.codeIn K cd15 "_law_cell_at" = true) (k15 : PySem.W.keepIn K (.ref f15) = true)
    {f16 : Addr} {od16 an16 : Option Addr} {sl16 : Array (Option Value)} {oc16 kV16 dc16 pm16 cd16 ct16 : Value}
    (a16 : PySem.W.nsIn K mainGlobals "_law_digit" = some (some (.ref f16)))
    (l16 : K.lookup f16 = some ⟨oc16, od16, .func (PySem.W.fnOf "_law_digit" "_law_digit" (defArgs s_l_digit) (defBody s_l_digit) (defScope s_l_digit) .none kV16 dc16 pm16 an16 cd16 ct16), sl16⟩) (c16 : PySem.W.codeIn K cd16 "_law_digit" = true) (k16 : PySem.W.keepIn K (.ref f16) = true)
    {f17 : Addr} {od17 an17 : Option Addr} {sl17 : Array (Option Value)} {oc17 kV17 dc17 pm17 cd17 ct17 : Value}
    (a17 : PySem.W.nsIn K mainGlobals "_law_figures" = some (some (.ref f17)))
    (l17 : K.lookup f17 = some ⟨oc17, od17, .func (PySem.W.fnOf "_law_figures" "_law_figures" (defArgs s_l_figures) (defBody s_l_figures) (defScope s_l_figures) .none kV17 dc17 pm17 an17 cd17 ct17), sl17⟩) (c17 : PySem.W.codeIn K cd17 "_law_figures" = true) (k17 : PySem.W.keepIn K (.ref f17) = true)
    {f18 : Addr} {od18 an18 : Option Addr} {sl18 : Array (Option Value)} {oc18 kV18 dc18 pm18 cd18 ct18 : Value}
    (a18 : PySem.W.nsIn K mainGlobals "_law_number_at" = some (some (.ref f18)))
    (l18 : K.lookup f18 = some ⟨oc18, od18, .func (PySem.W.fnOf "_law_number_at" "_law_number_at" (defArgs s_l_number_at) (defBody s_l_number_at) (defScope s_l_number_at) .none kV18 dc18 pm18 an18 cd18 ct18), sl18⟩) (c18 : PySem.W.codeIn K cd18 "_law_number_at" = true) (k18 : PySem.W.keepIn K (.ref f18) = true)
    {f19 : Addr} {od19 an19 : Option Addr} {sl19 : Array (Option Value)} {oc19 kV19 dc19 pm19 cd19 ct19 : Value}
    (a19 : PySem.W.nsIn K mainGlobals "_law_odd_row" = some (some (.ref f19)))
    (l19 : K.lookup f19 = some ⟨oc19, od19, .func (PySem.W.fnOf "_law_odd_row" "_law_odd_row" (defArgs s_l_odd_row) (defBody s_l_odd_row) (defScope s_l_odd_row) .none kV19 dc19 pm19 an19 cd19 ct19), sl19⟩) (c19 : PySem.W.codeIn K cd19 "_law_odd_row" = true) (k19 : PySem.W.keepIn K (.ref f19) = true)
    {f20 : Addr} {od20 an20 : Option Addr} {sl20 : Array (Option Value)} {oc20 kV20 dc20 pm20 cd20 ct20 : Value}
    (a20 : PySem.W.nsIn K mainGlobals "_law_bytes" = some (some (.ref f20)))
    (l20 : K.lookup f20 = some ⟨oc20, od20, .func (PySem.W.fnOf "_law_bytes" "_law_bytes" (defArgs s_l_bytes) (defBody s_l_bytes) (defScope s_l_bytes) .none kV20 dc20 pm20 an20 cd20 ct20), sl20⟩) (c20 : PySem.W.codeIn K cd20 "_law_bytes" = true) (k20 : PySem.W.keepIn K (.ref f20) = true)
    {f21 : Addr} {od21 an21 : Option Addr} {sl21 : Array (Option Value)} {oc21 kV21 dc21 pm21 cd21 ct21 : Value}
    (a21 : PySem.W.nsIn K mainGlobals "_law_sum" = some (some (.ref f21)))
    (l21 : K.lookup f21 = some ⟨oc21, od21, .func (PySem.W.fnOf "_law_sum" "_law_sum" (defArgs s_l_sum) (defBody s_l_sum) (defScope s_l_sum) .none kV21 dc21 pm21 an21 cd21 ct21), sl21⟩) (c21 : PySem.W.codeIn K cd21 "_law_sum" = true) (k21 : PySem.W.keepIn K (.ref f21) = true)
    {f22 : Addr} {od22 an22 : Option Addr} {sl22 : Array (Option Value)} {oc22 kV22 dc22 pm22 cd22 ct22 : Value}
    (a22 : PySem.W.nsIn K mainGlobals "_law_stuffed" = some (some (.ref f22)))
    (l22 : K.lookup f22 = some ⟨oc22, od22, .func (PySem.W.fnOf "_law_stuffed" "_law_stuffed" (defArgs s_l_stuffed) (defBody s_l_stuffed) (defScope s_l_stuffed) .none kV22 dc22 pm22 an22 cd22 ct22), sl22⟩) (c22 : PySem.W.codeIn K cd22 "_law_stuffed" = true) (k22 : PySem.W.keepIn K (.ref f22) = true)
    {f23 : Addr} {od23 an23 : Option Addr} {sl23 : Array (Option Value)} {oc23 kV23 dc23 pm23 cd23 ct23 : Value}
    (a23 : PySem.W.nsIn K mainGlobals "_law_boxed" = some (some (.ref f23)))
    (l23 : K.lookup f23 = some ⟨oc23, od23, .func (PySem.W.fnOf "_law_boxed" "_law_boxed" (defArgs s_l_boxed) (defBody s_l_boxed) (defScope s_l_boxed) .none kV23 dc23 pm23 an23 cd23 ct23), sl23⟩) (c23 : PySem.W.codeIn K cd23 "_law_boxed" = true) (k23 : PySem.W.keepIn K (.ref f23) = true)
    {f24 : Addr} {od24 an24 : Option Addr} {sl24 : Array (Option Value)} {oc24 kV24 dc24 pm24 cd24 ct24 : Value}
    (a24 : PySem.W.nsIn K mainGlobals "_law_contents" = some (some (.ref f24)))
    (l24 : K.lookup f24 = some ⟨oc24, od24, .func (PySem.W.fnOf "_law_contents" "_law_contents" (defArgs s_l_contents) (defBody s_l_contents) (defScope s_l_contents) .none kV24 dc24 pm24 an24 cd24 ct24), sl24⟩) (c24 : PySem.W.codeIn K cd24 "_law_contents" = true) (k24 : PySem.W.keepIn K (.ref f24) = true)
    {f25 : Addr} {od25 an25 : Option Addr} {sl25 : Array (Option Value)} {oc25 kV25 dc25 pm25 cd25 ct25 : Value}
    (a25 : PySem.W.nsIn K mainGlobals "_law_box_at" = some (some (.ref f25)))
    (l25 : K.lookup f25 = some ⟨oc25, od25, .func (PySem.W.fnOf "_law_box_at" "_law_box_at" (defArgs s_l_box_at) (defBody s_l_box_at) (defScope s_l_box_at) .none kV25 dc25 pm25 an25 cd25 ct25), sl25⟩) (c25 : PySem.W.codeIn K cd25 "_law_box_at" = true) (k25 : PySem.W.keepIn K (.ref f25) = true)
    {f26 : Addr} {od26 an26 : Option Addr} {sl26 : Array (Option Value)} {oc26 kV26 dc26 pm26 cd26 ct26 : Value}
    (a26 : PySem.W.nsIn K mainGlobals "_law_boxes_in" = some (some (.ref f26)))
    (l26 : K.lookup f26 = some ⟨oc26, od26, .func (PySem.W.fnOf "_law_boxes_in" "_law_boxes_in" (defArgs s_l_boxes_in) (defBody s_l_boxes_in) (defScope s_l_boxes_in) .none kV26 dc26 pm26 an26 cd26 ct26), sl26⟩) (c26 : PySem.W.codeIn K cd26 "_law_boxes_in" = true) (k26 : PySem.W.keepIn K (.ref f26) = true)
    {f27 : Addr} {od27 an27 : Option Addr} {sl27 : Array (Option Value)} {oc27 kV27 dc27 pm27 cd27 ct27 : Value}
    (a27 : PySem.W.nsIn K mainGlobals "_law_stream" = some (some (.ref f27)))
    (l27 : K.lookup f27 = some ⟨oc27, od27, .func (PySem.W.fnOf "_law_stream" "_law_stream" (defArgs s_l_stream) (defBody s_l_stream) (defScope s_l_stream) .none kV27 dc27 pm27 an27 cd27 ct27), sl27⟩) (c27 : PySem.W.codeIn K cd27 "_law_stream" = true) (k27 : PySem.W.keepIn K (.ref f27) = true)
    {f28 : Addr} {od28 an28 : Option Addr} {sl28 : Array (Option Value)} {oc28 kV28 dc28 pm28 cd28 ct28 : Value}
    (a28 : PySem.W.nsIn K mainGlobals "_law_refused" = some (some (.ref f28)))
    (l28 : K.lookup f28 = some ⟨oc28, od28, .func (PySem.W.fnOf "_law_refused" "_law_refused" (defArgs s_l_refused) (defBody s_l_refused) (defScope s_l_refused) .none kV28 dc28 pm28 an28 cd28 ct28), sl28⟩) (c28 : PySem.W.codeIn K cd28 "_law_refused" = true) (k28 : PySem.W.keepIn K (.ref f28) = true)
    {f29 : Addr} {od29 an29 : Option Addr} {sl29 : Array (Option Value)} {oc29 kV29 dc29 pm29 cd29 ct29 : Value}
    (a29 : PySem.W.nsIn K mainGlobals "_law_ended" = some (some (.ref f29)))
    (l29 : K.lookup f29 = some ⟨oc29, od29, .func (PySem.W.fnOf "_law_ended" "_law_ended" (defArgs s_l_ended) (defBody s_l_ended) (defScope s_l_ended) .none kV29 dc29 pm29 an29 cd29 ct29), sl29⟩) (c29 : PySem.W.codeIn K cd29 "_law_ended" = true) (k29 : PySem.W.keepIn K (.ref f29) = true)
    {f30 : Addr} {od30 an30 : Option Addr} {sl30 : Array (Option Value)} {oc30 kV30 dc30 pm30 cd30 ct30 : Value}
    (a30 : PySem.W.nsIn K mainGlobals "_law_takes" = some (some (.ref f30)))
    (l30 : K.lookup f30 = some ⟨oc30, od30, .func (PySem.W.fnOf "_law_takes" "_law_takes" (defArgs s_l_takes) (defBody s_l_takes) (defScope s_l_takes) .none kV30 dc30 pm30 an30 cd30 ct30), sl30⟩) (c30 : PySem.W.codeIn K cd30 "_law_takes" = true) (k30 : PySem.W.keepIn K (.ref f30) = true)
    {f31 : Addr} {od31 an31 : Option Addr} {sl31 : Array (Option Value)} {oc31 kV31 dc31 pm31 cd31 ct31 : Value}
    (a31 : PySem.W.nsIn K mainGlobals "law" = some (some (.ref f31)))
    (l31 : K.lookup f31 = some ⟨oc31, od31, .func (PySem.W.fnOf "law" "law" (defArgs s_law) (defBody s_law) (defScope s_law) .none kV31 dc31 pm31 an31 cd31 ct31), sl31⟩) (c31 : PySem.W.codeIn K cd31 "law" = true) (k31 : PySem.W.keepIn K (.ref f31) = true)
    (z_bool : PySem.W.nsIn K mainGlobals "bool" = some none)
    (z_divmod : PySem.W.nsIn K mainGlobals "divmod" = some none)
    (z_int : PySem.W.nsIn K mainGlobals "int" = some none)
    (z_isinstance : PySem.W.nsIn K mainGlobals "isinstance" = some none)
    (z_len : PySem.W.nsIn K mainGlobals "len" = some none)
    (z_list : PySem.W.nsIn K mainGlobals "list" = some none)
    (z_min : PySem.W.nsIn K mainGlobals "min" = some none)
    (z_range : PySem.W.nsIn K mainGlobals "range" = some none)
    (z_tuple : PySem.W.nsIn K mainGlobals "tuple" = some none)
    {ct_GREATEST_NUMBER : Tok} (g_GREATEST_NUMBER : PySem.W.nsIn K mainGlobals "GREATEST_NUMBER" = some (some (.int 1000000000000000000000000000000000000000000000000000000000000 ct_GREATEST_NUMBER)))
    {ct_BASE : Tok} (g_BASE : PySem.W.nsIn K mainGlobals "BASE" = some (some (.int 128 ct_BASE)))
    {ct_STUFFING : Tok} (g_STUFFING : PySem.W.nsIn K mainGlobals "STUFFING" = some (some (.int 2 ct_STUFFING)))
    {ct_END : Tok} (g_END : PySem.W.nsIn K mainGlobals "END" = some (some (.int 255 ct_END)))
    {ct_LEAST_KIND : Tok} (g_LEAST_KIND : PySem.W.nsIn K mainGlobals "LEAST_KIND" = some (some (.int 1 ct_LEAST_KIND)))
    {ct_GREATEST_KIND : Tok} (g_GREATEST_KIND : PySem.W.nsIn K mainGlobals "GREATEST_KIND" = some (some (.int 9 ct_GREATEST_KIND)))
    {ct_LONGEST_BODY : Tok} (g_LONGEST_BODY : PySem.W.nsIn K mainGlobals "LONGEST_BODY" = some (some (.int 60000 ct_LONGEST_BODY)))
    {ct_LONGEST_LENGTH : Tok} (g_LONGEST_LENGTH : PySem.W.nsIn K mainGlobals "LONGEST_LENGTH" = some (some (.int 3 ct_LONGEST_LENGTH)))
    {C_ScrollError : Addr} (g_ScrollError : PySem.W.nsIn K mainGlobals "ScrollError" = some (some (.ref C_ScrollError)))
    {C_NoBytes : Addr} (g_NoBytes : PySem.W.nsIn K mainGlobals "NoBytes" = some (some (.ref C_NoBytes)))
    (x_NoBytes : PySem.W.excIn K C_NoBytes [.type "ValueError", .type "Exception", .type "BaseException", .type "object"] "ValueError.__new__" = true) (kc_NoBytes : PySem.W.keepIn K (.ref C_NoBytes) = true) (bb_NoBytes : PySem.W.subIn K (.ref C_NoBytes) (.type "BaseException") = some true) (t_NoBytes : PySem.W.typeIn K (.ref C_NoBytes) = some (.type "type"))
    (xa_NoBytes : PySem.W.findIn K (.ref C_NoBytes) "__getattribute__" = some (some (.builtin "BaseException.__getattribute__"))) (xb_NoBytes : PySem.W.findIn K (.ref C_NoBytes) "__getattr__" = some none) (xc_NoBytes : PySem.W.hasDictIn K C_NoBytes = true) (xd_NoBytes : PySem.W.findIn K (.ref C_NoBytes) "__class__" = some (some (.builtin "object.__class__")))
    (xe_NoBytes : PySem.W.specialIn K (.builtin "object.__class__") "__get__" = some (some (.builtin "getset_descriptor.__get__"))) (xf_NoBytes : PySem.W.takesIn K (.builtin "object.__class__") = some true) (xg_NoBytes : PySem.W.mroIn K C_NoBytes (.type "object") = some true)
    {C_NoPlace : Addr} (g_NoPlace : PySem.W.nsIn K mainGlobals "NoPlace" = some (some (.ref C_NoPlace)))
    {C_NoKind : Addr} (g_NoKind : PySem.W.nsIn K mainGlobals "NoKind" = some (some (.ref C_NoKind)))
    {C_Growing : Addr} (g_Growing : PySem.W.nsIn K mainGlobals "Growing" = some (some (.ref C_Growing)))
    {C_Feed : Addr} (g_Feed : PySem.W.nsIn K mainGlobals "Feed" = some (some (.ref C_Feed)))
    (p1_Growing : PySem.W.plainGet K C_Growing Str.empty = true) (p2_Growing : PySem.W.hasDictIn K C_Growing = true) (p3_Growing : PySem.W.plainOver K C_Growing = true) (p4_Growing : PySem.W.findIn K (.ref C_Growing) "__setattr__" = some (some (.builtin "object.__setattr__"))) (p5_Growing : PySem.W.makesIn K C_Growing = true) (p6_Growing : PySem.W.keepIn K (.ref C_Growing) = true)
    (na_Growing_at : PySem.W.findIn K (.ref C_Growing) "at" = some none)
    (na_Growing_kind : PySem.W.findIn K (.ref C_Growing) "kind" = some none)
    (na_Growing_content : PySem.W.findIn K (.ref C_Growing) "content" = some none)
    (na_Growing_noughts : PySem.W.findIn K (.ref C_Growing) "noughts" = some none)
    (na_Growing_first : PySem.W.findIn K (.ref C_Growing) "first" = some none)
    (na_Growing_behind : PySem.W.findIn K (.ref C_Growing) "behind" = some none)
    (na_Growing_closed : PySem.W.findIn K (.ref C_Growing) "closed" = some none)
    (na_Growing_reached : PySem.W.findIn K (.ref C_Growing) "reached" = some none)
    (na_Growing_growing : PySem.W.findIn K (.ref C_Growing) "growing" = some none)
    (na_Growing_take : PySem.W.findIn K (.ref C_Growing) "take" = some none)
    (na_Growing_taken : PySem.W.findIn K (.ref C_Growing) "taken" = some none)
    (ma_Growing_init : PySem.W.findIn K (.ref C_Growing) "__init__" = some (some (.ref f6))) (mb_Growing_init : PySem.W.isFn K (.ref f6) = true)
    (ma_Growing_grow : PySem.W.findIn K (.ref C_Growing) "grow" = some (some (.ref f7))) (mb_Growing_grow : PySem.W.isFn K (.ref f7) = true)
    (ma_Growing_measure : PySem.W.findIn K (.ref C_Growing) "measure" = some (some (.ref f8))) (mb_Growing_measure : PySem.W.isFn K (.ref f8) = true)
    (ma_Growing_body : PySem.W.findIn K (.ref C_Growing) "body" = some (some (.ref f9))) (mb_Growing_body : PySem.W.isFn K (.ref f9) = true)
    (ma_Growing_is_right : PySem.W.findIn K (.ref C_Growing) "is_right" = some (some (.ref f10))) (mb_Growing_is_right : PySem.W.isFn K (.ref f10) = true)
    (p1_Feed : PySem.W.plainGet K C_Feed Str.empty = true) (p2_Feed : PySem.W.hasDictIn K C_Feed = true) (p3_Feed : PySem.W.plainOver K C_Feed = true) (p4_Feed : PySem.W.findIn K (.ref C_Feed) "__setattr__" = some (some (.builtin "object.__setattr__"))) (p5_Feed : PySem.W.makesIn K C_Feed = true) (p6_Feed : PySem.W.keepIn K (.ref C_Feed) = true)
    (na_Feed_at : PySem.W.findIn K (.ref C_Feed) "at" = some none)
    (na_Feed_kind : PySem.W.findIn K (.ref C_Feed) "kind" = some none)
    (na_Feed_content : PySem.W.findIn K (.ref C_Feed) "content" = some none)
    (na_Feed_noughts : PySem.W.findIn K (.ref C_Feed) "noughts" = some none)
    (na_Feed_first : PySem.W.findIn K (.ref C_Feed) "first" = some none)
    (na_Feed_behind : PySem.W.findIn K (.ref C_Feed) "behind" = some none)
    (na_Feed_closed : PySem.W.findIn K (.ref C_Feed) "closed" = some none)
    (na_Feed_measure : PySem.W.findIn K (.ref C_Feed) "measure" = some none)
    (na_Feed_is_right : PySem.W.findIn K (.ref C_Feed) "is_right" = some none)
    (na_Feed_body : PySem.W.findIn K (.ref C_Feed) "body" = some none)
    (na_Feed_reached : PySem.W.findIn K (.ref C_Feed) "reached" = some none)
    (na_Feed_growing : PySem.W.findIn K (.ref C_Feed) "growing" = some none)
    (na_Feed_grow : PySem.W.findIn K (.ref C_Feed) "grow" = some none)
    (ma_Feed_init : PySem.W.findIn K (.ref C_Feed) "__init__" = some (some (.ref f11))) (mb_Feed_init : PySem.W.isFn K (.ref f11) = true)
    (ma_Feed_take : PySem.W.findIn K (.ref C_Feed) "take" = some (some (.ref f12))) (mb_Feed_take : PySem.W.isFn K (.ref f12) = true)
    (ma_Feed_taken : PySem.W.findIn K (.ref C_Feed) "taken" = some (some (.ref f13))) (mb_Feed_taken : PySem.W.isFn K (.ref f13) = true)
    (sb_NoBytes_NoBytes : PySem.W.subIn K (.ref C_NoBytes) (.ref C_NoBytes) = some true) (bs_NoBytes_NoBytes : PySem.W.subIn K (.ref C_NoBytes) (.type "BaseException") = some true) (ts_NoBytes_NoBytes : PySem.W.typeIn K (.ref C_NoBytes) = some (.type "type")) (is_NoBytes_NoBytes : PySem.W.isClsIn K C_NoBytes = true)
    (sb_NoBytes_ScrollError : PySem.W.subIn K (.ref C_NoBytes) (.ref C_ScrollError) = some true) (bs_NoBytes_ScrollError : PySem.W.subIn K (.ref C_ScrollError) (.type "BaseException") = some true) (ts_NoBytes_ScrollError : PySem.W.typeIn K (.ref C_ScrollError) = some (.type "type")) (is_NoBytes_ScrollError : PySem.W.isClsIn K C_ScrollError = true)
    (io_NoBytes_NoKind : PySem.W.kitOne K (.ref C_NoBytes) (.ref C_NoKind) = some false)
    (io_NoBytes_NoPlace : PySem.W.kitOne K (.ref C_NoBytes) (.ref C_NoPlace) = some false)
    : ∃ fd : FuncData, (∀ (s : Shared) (v : Value), BindsTo s fd ⟨[v], []⟩ [("_law_script", v)]) ∧ ∀ base : Heap, K.In base → base.Ns mainGlobals mg → FnOk l.prog w K mg base CX0 11 fa fd ["_law_script"] (spLaw K) := by
  have e := hfa.symm.trans (PySem.W.mg_of X G a31)
  cases e
  have F0 := fun_mk (st := s_is_number) l0 c0 k0
  have F1 := fun_mk (st := s_is_whole) l1 c1 k1
  have F2 := fun_mk (st := s_is_bytes) l2 c2 k2
  have F3 := fun_mk (st := s_refuse_no_bytes) l3 c3 k3
  have F4 := fun_mk (st := s_number_at) l4 c4 k4
  have F5 := fun_mk (st := s_check) l5 c5 k5
  have F6 := fun_mk (st := s_Growing_init) l6 c6 k6
  have F7 := fun_mk (st := s_Growing_grow) l7 c7 k7
  have F8 := fun_mk (st := s_Growing_measure) l8 c8 k8
  have F9 := fun_mk (st := s_Growing_body) l9 c9 k9
  have F10 := fun_mk (st := s_Growing_is_right) l10 c10 k10
  have F11 := fun_mk (st := s_Feed_init) l11 c11 k11
  have F12 := fun_mk (st := s_Feed_take) l12 c12 k12
  have F13 := fun_mk (st := s_Feed_taken) l13 c13 k13
  have F14 := fun_mk (st := s_sum_of) l14 c14 k14
  have F15 := fun_mk (st := s_l_cell_at) l15 c15 k15
  have F16 := fun_mk (st := s_l_digit) l16 c16 k16
  have F17 := fun_mk (st := s_l_figures) l17 c17 k17
  have F18 := fun_mk (st := s_l_number_at) l18 c18 k18
  have F19 := fun_mk (st := s_l_odd_row) l19 c19 k19
  have F20 := fun_mk (st := s_l_bytes) l20 c20 k20
  have F21 := fun_mk (st := s_l_sum) l21 c21 k21
  have F22 := fun_mk (st := s_l_stuffed) l22 c22 k22
  have F23 := fun_mk (st := s_l_boxed) l23 c23 k23
  have F24 := fun_mk (st := s_l_contents) l24 c24 k24
  have F25 := fun_mk (st := s_l_box_at) l25 c25 k25
  have F26 := fun_mk (st := s_l_boxes_in) l26 c26 k26
  have F27 := fun_mk (st := s_l_stream) l27 c27 k27
  have F28 := fun_mk (st := s_l_refused) l28 c28 k28
  have F29 := fun_mk (st := s_l_ended) l29 c29 k29
  have F30 := fun_mk (st := s_l_takes) l30 c30 k30
  have F31 := fun_mk (st := s_law) l31 c31 k31
  have b0 := F0.binds (ps := ["thing"]) fun _ _ _ _ _ _ us hl => match us, hl with | [_], _ => rfl
  have b1 := F1.binds (ps := ["thing", "low", "high"]) fun _ _ _ _ _ _ us hl => match us, hl with | [_, _, _], _ => rfl
  have b2 := F2.binds (ps := ["thing"]) fun _ _ _ _ _ _ us hl => match us, hl with | [_], _ => rfl
  have b3 := F3.binds (ps := ["row"]) fun _ _ _ _ _ _ us hl => match us, hl with | [_], _ => rfl
  have b4 := F4.binds (ps := ["row", "at"]) fun _ _ _ _ _ _ us hl => match us, hl with | [_, _], _ => rfl
  have b5 := F5.binds (ps := ["row"]) fun _ _ _ _ _ _ us hl => match us, hl with | [_], _ => rfl
  have b6 := F6.binds (ps := ["self", "at"]) fun _ _ _ _ _ _ us hl => match us, hl with | [_, _], _ => rfl
  have b7 := F7.binds (ps := ["self", "byte"]) fun _ _ _ _ _ _ us hl => match us, hl with | [_, _], _ => rfl
  have b8 := F8.binds (ps := ["self"]) fun _ _ _ _ _ _ us hl => match us, hl with | [_], _ => rfl
  have b9 := F9.binds (ps := ["self"]) fun _ _ _ _ _ _ us hl => match us, hl with | [_], _ => rfl
  have b10 := F10.binds (ps := ["self"]) fun _ _ _ _ _ _ us hl => match us, hl with | [_], _ => rfl
  have b11 := F11.binds (ps := ["self"]) fun _ _ _ _ _ _ us hl => match us, hl with | [_], _ => rfl
  have b12 := F12.binds (ps := ["self", "part"]) fun _ _ _ _ _ _ us hl => match us, hl with | [_, _], _ => rfl
  have b13 := F13.binds (ps := ["self"]) fun _ _ _ _ _ _ us hl => match us, hl with | [_], _ => rfl
  have b14 := F14.binds (ps := ["kind", "body"]) fun _ _ _ _ _ _ us hl => match us, hl with | [_, _], _ => rfl
  have b15 := F15.binds (ps := ["_law_script", "_law_k"]) fun _ _ _ _ _ _ us hl => match us, hl with | [_, _], _ => rfl
  have b16 := F16.binds (ps := ["_law_state", "_law_base"]) fun _ _ _ _ _ _ us hl => match us, hl with | [_, _], _ => rfl
  have b17 := F17.binds (ps := ["_law_number"]) fun _ _ _ _ _ _ us hl => match us, hl with | [_], _ => rfl
  have b18 := F18.binds (ps := ["_law_row", "_law_at"]) fun _ _ _ _ _ _ us hl => match us, hl with | [_, _], _ => rfl
  have b19 := F19.binds (ps := ["_law_state", "_law_row"]) fun _ _ _ _ _ _ us hl => match us, hl with | [_, _], _ => rfl
  have b20 := F20.binds (ps := ["_law_state", "_law_many"]) fun _ _ _ _ _ _ us hl => match us, hl with | [_, _], _ => rfl
  have b21 := F21.binds (ps := ["_law_row", "_law_number"]) fun _ _ _ _ _ _ us hl => match us, hl with | [_, _], _ => rfl
  have b22 := F22.binds (ps := ["_law_row"]) fun _ _ _ _ _ _ us hl => match us, hl with | [_], _ => rfl
  have b23 := F23.binds (ps := ["_law_kind", "_law_body"]) fun _ _ _ _ _ _ us hl => match us, hl with | [_, _], _ => rfl
  have b24 := F24.binds (ps := ["_law_row", "_law_at"]) fun _ _ _ _ _ _ us hl => match us, hl with | [_, _], _ => rfl
  have b25 := F25.binds (ps := ["_law_row", "_law_at"]) fun _ _ _ _ _ _ us hl => match us, hl with | [_, _], _ => rfl
  have b26 := F26.binds (ps := ["_law_row"]) fun _ _ _ _ _ _ us hl => match us, hl with | [_], _ => rfl
  have b27 := F27.binds (ps := ["_law_cells"]) fun _ _ _ _ _ _ us hl => match us, hl with | [_], _ => rfl
  have b28 := F28.binds (ps := ["_law_feed", "_law_odd"]) fun _ _ _ _ _ _ us hl => match us, hl with | [_, _], _ => rfl
  have b29 := F29.binds (ps := ["_law_due", "_law_ends", "_law_low", "_law_high"]) fun _ _ _ _ _ _ us hl => match us, hl with | [_, _, _, _], _ => rfl
  have b30 := F30.binds (ps := ["_law_feed", "_law_row", "_law_low", "_law_high", "_law_due", "_law_ends"]) fun _ _ _ _ _ _ us hl => match us, hl with | [_, _, _, _, _, _], _ => rfl
  have b31 := F31.binds (ps := ["_law_script"]) fun _ _ _ _ _ _ us hl => match us, hl with | [_], _ => rfl
  exact ⟨_, fun s v => .of_eq rfl, fun base _ _ => ok_law { a_is_number := _, d_is_number := _, F_is_number := F0, b_is_number := b0, g_is_number := PySem.W.mg_of X G a0, a_is_whole := _, d_is_whole := _, F_is_whole := F1, b_is_whole := b1, g_is_whole := PySem.W.mg_of X G a1, a_is_bytes := _, d_is_bytes := _, F_is_bytes := F2, b_is_bytes := b2, g_is_bytes := PySem.W.mg_of X G a2, a_refuse_no_bytes := _, d_refuse_no_bytes := _, F_refuse_no_bytes := F3, b_refuse_no_bytes := b3, g_refuse_no_bytes := PySem.W.mg_of X G a3, a_number_at := _, d_number_at := _, F_number_at := F4, b_number_at := b4, g_number_at := PySem.W.mg_of X G a4, a_check := _, d_check := _, F_check := F5, b_check := b5, g_check := PySem.W.mg_of X G a5, a_Growing_init := _, d_Growing_init := _, F_Growing_init := F6, b_Growing_init := b6, a_Growing_grow := _, d_Growing_grow := _, F_Growing_grow := F7, b_Growing_grow := b7, a_Growing_measure := _, d_Growing_measure := _, F_Growing_measure := F8, b_Growing_measure := b8, a_Growing_body := _, d_Growing_body := _, F_Growing_body := F9, b_Growing_body := b9, a_Growing_is_right := _, d_Growing_is_right := _, F_Growing_is_right := F10, b_Growing_is_right := b10, a_Feed_init := _, d_Feed_init := _, F_Feed_init := F11, b_Feed_init := b11, a_Feed_take := _, d_Feed_take := _, F_Feed_take := F12, b_Feed_take := b12, a_Feed_taken := _, d_Feed_taken := _, F_Feed_taken := F13, b_Feed_taken := b13, a_sum_of := _, d_sum_of := _, F_sum_of := F14, b_sum_of := b14, g_sum_of := PySem.W.mg_of X G a14, a_l_cell_at := _, d_l_cell_at := _, F_l_cell_at := F15, b_l_cell_at := b15, g_l_cell_at := PySem.W.mg_of X G a15, a_l_digit := _, d_l_digit := _, F_l_digit := F16, b_l_digit := b16, g_l_digit := PySem.W.mg_of X G a16, a_l_figures := _, d_l_figures := _, F_l_figures := F17, b_l_figures := b17, g_l_figures := PySem.W.mg_of X G a17, a_l_number_at := _, d_l_number_at := _, F_l_number_at := F18, b_l_number_at := b18, g_l_number_at := PySem.W.mg_of X G a18, a_l_odd_row := _, d_l_odd_row := _, F_l_odd_row := F19, b_l_odd_row := b19, g_l_odd_row := PySem.W.mg_of X G a19, a_l_bytes := _, d_l_bytes := _, F_l_bytes := F20, b_l_bytes := b20, g_l_bytes := PySem.W.mg_of X G a20, a_l_sum := _, d_l_sum := _, F_l_sum := F21, b_l_sum := b21, g_l_sum := PySem.W.mg_of X G a21, a_l_stuffed := _, d_l_stuffed := _, F_l_stuffed := F22, b_l_stuffed := b22, g_l_stuffed := PySem.W.mg_of X G a22, a_l_boxed := _, d_l_boxed := _, F_l_boxed := F23, b_l_boxed := b23, g_l_boxed := PySem.W.mg_of X G a23, a_l_contents := _, d_l_contents := _, F_l_contents := F24, b_l_contents := b24, g_l_contents := PySem.W.mg_of X G a24, a_l_box_at := _, d_l_box_at := _, F_l_box_at := F25, b_l_box_at := b25, g_l_box_at := PySem.W.mg_of X G a25, a_l_boxes_in := _, d_l_boxes_in := _, F_l_boxes_in := F26, b_l_boxes_in := b26, g_l_boxes_in := PySem.W.mg_of X G a26, a_l_stream := _, d_l_stream := _, F_l_stream := F27, b_l_stream := b27, g_l_stream := PySem.W.mg_of X G a27, a_l_refused := _, d_l_refused := _, F_l_refused := F28, b_l_refused := b28, g_l_refused := PySem.W.mg_of X G a28, a_l_ended := _, d_l_ended := _, F_l_ended := F29, b_l_ended := b29, g_l_ended := PySem.W.mg_of X G a29, a_l_takes := _, d_l_takes := _, F_l_takes := F30, b_l_takes := b30, g_l_takes := PySem.W.mg_of X G a30, a_law := _, d_law := _, F_law := F31, b_law := b31, g_law := PySem.W.mg_of X G a31, m_bool := PySem.W.mg_none_of X G z_bool, m_divmod := PySem.W.mg_none_of X G z_divmod, m_int := PySem.W.mg_none_of X G z_int, m_isinstance := PySem.W.mg_none_of X G z_isinstance, m_len := PySem.W.mg_none_of X G z_len, m_list := PySem.W.mg_none_of X G z_list, m_min := PySem.W.mg_none_of X G z_min, m_range := PySem.W.mg_none_of X G z_range, m_tuple := PySem.W.mg_none_of X G z_tuple, ct_GREATEST_NUMBER := ct_GREATEST_NUMBER, g_GREATEST_NUMBER := PySem.W.mg_of X G g_GREATEST_NUMBER, ct_BASE := ct_BASE, g_BASE := PySem.W.mg_of X G g_BASE, ct_STUFFING := ct_STUFFING, g_STUFFING := PySem.W.mg_of X G g_STUFFING, ct_END := ct_END, g_END := PySem.W.mg_of X G g_END, ct_LEAST_KIND := ct_LEAST_KIND, g_LEAST_KIND := PySem.W.mg_of X G g_LEAST_KIND, ct_GREATEST_KIND := ct_GREATEST_KIND, g_GREATEST_KIND := PySem.W.mg_of X G g_GREATEST_KIND, ct_LONGEST_BODY := ct_LONGEST_BODY, g_LONGEST_BODY := PySem.W.mg_of X G g_LONGEST_BODY, ct_LONGEST_LENGTH := ct_LONGEST_LENGTH, g_LONGEST_LENGTH := PySem.W.mg_of X G g_LONGEST_LENGTH, c_ScrollError := C_ScrollError, g_ScrollError := PySem.W.mg_of X G g_ScrollError, c_NoBytes := C_NoBytes, g_NoBytes := PySem.W.mg_of X G g_NoBytes, x_NoBytes := x_NoBytes, k_NoBytes := kc_NoBytes, bb_NoBytes := bb_NoBytes, t_NoBytes := t_NoBytes, xc_NoBytes := ⟨xa_NoBytes, xb_NoBytes, bb_NoBytes, xc_NoBytes, xd_NoBytes, xe_NoBytes, xf_NoBytes, xg_NoBytes⟩, c_NoPlace := C_NoPlace, g_NoPlace := PySem.W.mg_of X G g_NoPlace, c_NoKind := C_NoKind, g_NoKind := PySem.W.mg_of X G g_NoKind, c_Growing := C_Growing, g_Growing := PySem.W.mg_of X G g_Growing, c_Feed := C_Feed, g_Feed := PySem.W.mg_of X G g_Feed, cl_Growing := ⟨p1_Growing, p2_Growing, p3_Growing, p4_Growing⟩, mkk_Growing := p5_Growing, na_Growing_at := na_Growing_at, na_Growing_kind := na_Growing_kind, na_Growing_content := na_Growing_content, na_Growing_noughts := na_Growing_noughts, na_Growing_first := na_Growing_first, na_Growing_behind := na_Growing_behind, na_Growing_closed := na_Growing_closed, na_Growing_reached := na_Growing_reached, na_Growing_growing := na_Growing_growing, na_Growing_take := na_Growing_take, na_Growing_taken := na_Growing_taken, mk_Growing := ⟨p5_Growing, ma_Growing_init, mb_Growing_init, p6_Growing⟩, mt_Growing_grow := ⟨ma_Growing_grow, mb_Growing_grow, k7⟩, mt_Growing_measure := ⟨ma_Growing_measure, mb_Growing_measure, k8⟩, mt_Growing_body := ⟨ma_Growing_body, mb_Growing_body, k9⟩, mt_Growing_is_right := ⟨ma_Growing_is_right, mb_Growing_is_right, k10⟩, cl_Feed := ⟨p1_Feed, p2_Feed, p3_Feed, p4_Feed⟩, mkk_Feed := p5_Feed, na_Feed_at := na_Feed_at, na_Feed_kind := na_Feed_kind, na_Feed_content := na_Feed_content, na_Feed_noughts := na_Feed_noughts, na_Feed_first := na_Feed_first, na_Feed_behind := na_Feed_behind, na_Feed_closed := na_Feed_closed, na_Feed_measure := na_Feed_measure, na_Feed_is_right := na_Feed_is_right, na_Feed_body := na_Feed_body, na_Feed_reached := na_Feed_reached, na_Feed_growing := na_Feed_growing, na_Feed_grow := na_Feed_grow, mk_Feed := ⟨p5_Feed, ma_Feed_init, mb_Feed_init, p6_Feed⟩, mt_Feed_take := ⟨ma_Feed_take, mb_Feed_take, k12⟩, mt_Feed_taken := ⟨ma_Feed_taken, mb_Feed_taken, k13⟩, em_NoBytes_NoBytes := exm_by bs_NoBytes_NoBytes is_NoBytes_NoBytes ts_NoBytes_NoBytes sb_NoBytes_NoBytes, em_NoBytes_ScrollError := exm_by bs_NoBytes_ScrollError is_NoBytes_ScrollError ts_NoBytes_ScrollError sb_NoBytes_ScrollError, io_NoBytes_NoKind := io_NoBytes_NoKind, io_NoBytes_NoPlace := io_NoBytes_NoPlace }⟩
end LK
open PySem PySem.W PyProof.Rows
set_option maxHeartbeats 0 in
theorem PySem.Challenge.cw_lanescroll_k37_bytes_that_come_by_parts_holds : PySem.Challenge.rw_lanescroll_k37_bytes_that_come_by_parts.Holds := by
  w_on; o_law; k_head; (case hw => w_witness2)
  k_fill
  refine L2.walk_of (l := PySem.Challenge.rw_lanescroll_k37_bytes_that_come_by_parts) (n := 63) (k := 11) (x := "_law_script") (CX := fun _ => L2.CX0) (sp := fun w => LK.spLaw _) rfl (by decide) rfl ⟨rfl, by decide, by decide⟩ (fun w h Y => PySem.W.kIn_of Y) ?F (fun _ _ a ns hl _ hS => ⟨a, ns, rfl, hS, hl, fun _ => rfl⟩) (fun _ _ _ _ _ h => h)
  case F =>
    intro w mg fa h KX G hmg
    refine' LK.all_mk KX G hmg ?a0 ?l0 ?c0 ?k0 ?a1 ?l1 ?c1 ?k1 ?a2 ?l2 ?c2 ?k2 ?a3 ?l3 ?c3 ?k3 ?a4 ?l4 ?c4 ?k4 ?a5 ?l5 ?c5 ?k5 ?y6 ?a6 ?l6 ?c6 ?k6 ?y7 ?a7 ?l7 ?c7 ?k7 ?y8 ?a8 ?l8 ?c8 ?k8 ?y9 ?a9 ?l9 ?c9 ?k9 ?y10 ?a10 ?l10 ?c10 ?k10 ?y11 ?a11 ?l11 ?c11 ?k11 ?y12 ?a12 ?l12 ?c12 ?k12 ?y13 ?a13 ?l13 ?c13 ?k13 ?a14 ?l14 ?c14 ?k14 ?a15 ?l15 ?c15 ?k15 ?a16 ?l16 ?c16 ?k16 ?a17 ?l17 ?c17 ?k17 ?a18 ?l18 ?c18 ?k18 ?a19 ?l19 ?c19 ?k19 ?a20 ?l20 ?c20 ?k20 ?a21 ?l21 ?c21 ?k21 ?a22 ?l22 ?c22 ?k22 ?a23 ?l23 ?c23 ?k23 ?a24 ?l24 ?c24 ?k24 ?a25 ?l25 ?c25 ?k25 ?a26 ?l26 ?c26 ?k26 ?a27 ?l27 ?c27 ?k27 ?a28 ?l28 ?c28 ?k28 ?a29 ?l29 ?c29 ?k29 ?a30 ?l30 ?c30 ?k30 ?a31 ?l31 ?c31 ?k31 ?z_bool ?z_divmod ?z_int ?z_isinstance ?z_len ?z_list ?z_min ?z_range ?z_tuple ?g_GREATEST_NUMBER ?g_BASE ?g_STUFFING ?g_END ?g_LEAST_KIND ?g_GREATEST_KIND ?g_LONGEST_BODY ?g_LONGEST_LENGTH ?g_ScrollError ?g_NoBytes ?x_NoBytes ?kc_NoBytes ?bb_NoBytes ?t_NoBytes ?xa_NoBytes ?xb_NoBytes ?xc_NoBytes ?xd_NoBytes ?xe_NoBytes ?xf_NoBytes ?xg_NoBytes ?g_NoPlace ?g_NoKind ?g_Growing ?g_Feed ?p1_Growing ?p2_Growing ?p3_Growing ?p4_Growing ?p5_Growing ?p6_Growing ?na_Growing_at ?na_Growing_kind ?na_Growing_content ?na_Growing_noughts ?na_Growing_first ?na_Growing_behind ?na_Growing_closed ?na_Growing_reached ?na_Growing_growing ?na_Growing_take ?na_Growing_taken ?ma_Growing_init ?mb_Growing_init ?ma_Growing_grow ?mb_Growing_grow ?ma_Growing_measure ?mb_Growing_measure ?ma_Growing_body ?mb_Growing_body ?ma_Growing_is_right ?mb_Growing_is_right ?p1_Feed ?p2_Feed ?p3_Feed ?p4_Feed ?p5_Feed ?p6_Feed ?na_Feed_at ?na_Feed_kind ?na_Feed_content ?na_Feed_noughts ?na_Feed_first ?na_Feed_behind ?na_Feed_closed ?na_Feed_measure ?na_Feed_is_right ?na_Feed_body ?na_Feed_reached ?na_Feed_growing ?na_Feed_grow ?ma_Feed_init ?mb_Feed_init ?ma_Feed_take ?mb_Feed_take ?ma_Feed_taken ?mb_Feed_taken ?sb_NoBytes_NoBytes ?bs_NoBytes_NoBytes ?ts_NoBytes_NoBytes ?is_NoBytes_NoBytes ?sb_NoBytes_ScrollError ?bs_NoBytes_ScrollError ?ts_NoBytes_ScrollError ?is_NoBytes_ScrollError ?io_NoBytes_NoKind ?io_NoBytes_NoPlace
    (case a0 => k_is)
    (case l0 => k_is)
    (case c0 => k_is)
    (case k0 => k_is)
    (case a1 => k_is)
    (case l1 => k_is)
    (case c1 => k_is)
    (case k1 => k_is)
    (case a2 => k_is)
    (case l2 => k_is)
    (case c2 => k_is)
    (case k2 => k_is)
    (case a3 => k_is)
    (case l3 => k_is)
    (case c3 => k_is)
    (case k3 => k_is)
    (case a4 => k_is)
    (case l4 => k_is)
    (case c4 => k_is)
    (case k4 => k_is)
    (case a5 => k_is)
    (case l5 => k_is)
    (case c5 => k_is)
    (case k5 => k_is)
    (case y6 => k_is)
    (case a6 => k_is)
    (case l6 => k_is)
    (case c6 => k_is)
    (case k6 => k_is)
    (case y7 => k_is)
    (case a7 => k_is)
    (case l7 => k_is)
    (case c7 => k_is)
    (case k7 => k_is)
    (case y8 => k_is)
    (case a8 => k_is)
    (case l8 => k_is)
    (case c8 => k_is)
    (case k8 => k_is)
    (case y9 => k_is)
    (case a9 => k_is)
    (case l9 => k_is)
    (case c9 => k_is)
    (case k9 => k_is)
    (case y10 => k_is)
    (case a10 => k_is)
    (case l10 => k_is)
    (case c10 => k_is)
    (case k10 => k_is)
    (case y11 => k_is)
    (case a11 => k_is)
    (case l11 => k_is)
    (case c11 => k_is)
    (case k11 => k_is)
    (case y12 => k_is)
    (case a12 => k_is)
    (case l12 => k_is)
    (case c12 => k_is)
    (case k12 => k_is)
    (case y13 => k_is)
    (case a13 => k_is)
    (case l13 => k_is)
    (case c13 => k_is)
    (case k13 => k_is)
    (case a14 => k_is)
    (case l14 => k_is)
    (case c14 => k_is)
    (case k14 => k_is)
    (case a15 => k_is)
    (case l15 => k_is)
    (case c15 => k_is)
    (case k15 => k_is)
    (case a16 => k_is)
    (case l16 => k_is)
    (case c16 => k_is)
    (case k16 => k_is)
    (case a17 => k_is)
    (case l17 => k_is)
    (case c17 => k_is)
    (case k17 => k_is)
    (case a18 => k_is)
    (case l18 => k_is)
    (case c18 => k_is)
    (case k18 => k_is)
    (case a19 => k_is)
    (case l19 => k_is)
    (case c19 => k_is)
    (case k19 => k_is)
    (case a20 => k_is)
    (case l20 => k_is)
    (case c20 => k_is)
    (case k20 => k_is)
    (case a21 => k_is)
    (case l21 => k_is)
    (case c21 => k_is)
    (case k21 => k_is)
    (case a22 => k_is)
    (case l22 => k_is)
    (case c22 => k_is)
    (case k22 => k_is)
    (case a23 => k_is)
    (case l23 => k_is)
    (case c23 => k_is)
    (case k23 => k_is)
    (case a24 => k_is)
    (case l24 => k_is)
    (case c24 => k_is)
    (case k24 => k_is)
    (case a25 => k_is)
    (case l25 => k_is)
    (case c25 => k_is)
    (case k25 => k_is)
    (case a26 => k_is)
    (case l26 => k_is)
    (case c26 => k_is)
    (case k26 => k_is)
    (case a27 => k_is)
    (case l27 => k_is)
    (case c27 => k_is)
    (case k27 => k_is)
    (case a28 => k_is)
    (case l28 => k_is)
    (case c28 => k_is)
    (case k28 => k_is)
    (case a29 => k_is)
    (case l29 => k_is)
    (case c29 => k_is)
    (case k29 => k_is)
    (case a30 => k_is)
    (case l30 => k_is)
    (case c30 => k_is)
    (case k30 => k_is)
    (case a31 => k_is)
    (case l31 => k_is)
    (case c31 => k_is)
    (case k31 => k_is)
    (case z_bool => k_is)
    (case z_divmod => k_is)
    (case z_int => k_is)
    (case z_isinstance => k_is)
    (case z_len => k_is)
    (case z_list => k_is)
    (case z_min => k_is)
    (case z_range => k_is)
    (case z_tuple => k_is)
    (case g_GREATEST_NUMBER => k_is)
    (case g_BASE => k_is)
    (case g_STUFFING => k_is)
    (case g_END => k_is)
    (case g_LEAST_KIND => k_is)
    (case g_GREATEST_KIND => k_is)
    (case g_LONGEST_BODY => k_is)
    (case g_LONGEST_LENGTH => k_is)
    (case g_ScrollError => k_is)
    (case g_NoBytes => k_is)
    (case x_NoBytes => k_exc)
    (case kc_NoBytes => k_is)
    (case bb_NoBytes => k_is)
    (case t_NoBytes => k_is)
    (case xa_NoBytes => k_is)
    (case xb_NoBytes => k_is)
    (case xc_NoBytes => k_is)
    (case xd_NoBytes => k_is)
    (case xe_NoBytes => k_is)
    (case xf_NoBytes => k_is)
    (case xg_NoBytes => k_is)
    (case g_NoPlace => k_is)
    (case g_NoKind => k_is)
    (case g_Growing => k_is)
    (case g_Feed => k_is)
    (case p1_Growing => k_is)
    (case p2_Growing => k_is)
    (case p3_Growing => k_is)
    (case p4_Growing => k_is)
    (case p5_Growing => k_is)
    (case p6_Growing => k_is)
    (case na_Growing_at => k_is)
    (case na_Growing_kind => k_is)
    (case na_Growing_content => k_is)
    (case na_Growing_noughts => k_is)
    (case na_Growing_first => k_is)
    (case na_Growing_behind => k_is)
    (case na_Growing_closed => k_is)
    (case na_Growing_reached => k_is)
    (case na_Growing_growing => k_is)
    (case na_Growing_take => k_is)
    (case na_Growing_taken => k_is)
    (case ma_Growing_init => k_is)
    (case mb_Growing_init => k_is)
    (case ma_Growing_grow => k_is)
    (case mb_Growing_grow => k_is)
    (case ma_Growing_measure => k_is)
    (case mb_Growing_measure => k_is)
    (case ma_Growing_body => k_is)
    (case mb_Growing_body => k_is)
    (case ma_Growing_is_right => k_is)
    (case mb_Growing_is_right => k_is)
    (case p1_Feed => k_is)
    (case p2_Feed => k_is)
    (case p3_Feed => k_is)
    (case p4_Feed => k_is)
    (case p5_Feed => k_is)
    (case p6_Feed => k_is)
    (case na_Feed_at => k_is)
    (case na_Feed_kind => k_is)
    (case na_Feed_content => k_is)
    (case na_Feed_noughts => k_is)
    (case na_Feed_first => k_is)
    (case na_Feed_behind => k_is)
    (case na_Feed_closed => k_is)
    (case na_Feed_measure => k_is)
    (case na_Feed_is_right => k_is)
    (case na_Feed_body => k_is)
    (case na_Feed_reached => k_is)
    (case na_Feed_growing => k_is)
    (case na_Feed_grow => k_is)
    (case ma_Feed_init => k_is)
    (case mb_Feed_init => k_is)
    (case ma_Feed_take => k_is)
    (case mb_Feed_take => k_is)
    (case ma_Feed_taken => k_is)
    (case mb_Feed_taken => k_is)
    (case sb_NoBytes_NoBytes => first | rfl | k_is | k_exc)
    (case bs_NoBytes_NoBytes => k_is)
    (case ts_NoBytes_NoBytes => k_is)
    (case is_NoBytes_NoBytes => k_is)
    (case sb_NoBytes_ScrollError => first | rfl | k_is | k_exc)
    (case bs_NoBytes_ScrollError => k_is)
    (case ts_NoBytes_ScrollError => k_is)
    (case is_NoBytes_ScrollError => k_is)
    (case io_NoBytes_NoKind => first | rfl | k_is | k_exc)
    (case io_NoBytes_NoPlace => first | rfl | k_is | k_exc)
