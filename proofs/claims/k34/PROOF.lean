import PyProof.Rows.All
import Wide.All
import OpenK.AllK
import Wide.FinOn
import PySem.Challenge.RW_lanescroll_k34_a_box_and_its_place
import HandS.ForMost
import HandS.ForExc
import HandS.IsInst
import HandS.TupLe
import HandS.Wide
import HandS.Defaults
import HandS.ExcIs
import HandS.Style
import HandS.Walk
import KE.KCallOwn
import KE.KSuper
import HandS.FStr
import HandS.MakeKwOnly
import HandS.Star
import PyProof.CollectIter
import PyProof.WalksMore
import HandS.CallLocal
import HandS.ExcOwn
import HandS.TupAny
import HandS.Deep
import HandS.Lambda
import HandS.EndTab
import KE.KNestM
set_option Elab.async false
set_option linter.all false
set_option maxRecDepth 100000
set_option maxHeartbeats 4000000
namespace LK
open PySem PySem.Spec PyProof.Rows L2
def topS (i : Nat) : Stmt := PySem.Challenge.pw_lanescroll_k34_a_box_and_its_place.main.body.getD i (.Pass ⟨0, 0, 0, 0⟩)
abbrev s_is_number : Stmt := topS 7
abbrev N_is_number : List Str := ["thing"]
theorem sc_is_number : FnScope N_is_number ["thing"] (defScope s_is_number) := ⟨rfl, rfl, rfl, by decide +kernel, rfl, by decide +kernel, by decide +kernel⟩
abbrev s_is_whole : Stmt := topS 8
abbrev N_is_whole : List Str := ["thing", "low", "high"]
theorem sc_is_whole : FnScope N_is_whole ["thing", "low", "high"] (defScope s_is_whole) := ⟨rfl, rfl, rfl, by decide +kernel, rfl, by decide +kernel, by decide +kernel⟩
abbrev s_is_bytes : Stmt := topS 9
abbrev N_is_bytes : List Str := ["thing", "byte"]
theorem sc_is_bytes : FnScope N_is_bytes ["thing"] (defScope s_is_bytes) := ⟨rfl, rfl, rfl, by decide +kernel, rfl, by decide +kernel, by decide +kernel⟩
abbrev s_refuse_no_bytes : Stmt := topS 14
abbrev N_refuse_no_bytes : List Str := ["row"]
theorem sc_refuse_no_bytes : FnScope N_refuse_no_bytes ["row"] (defScope s_refuse_no_bytes) := ⟨rfl, rfl, rfl, by decide +kernel, rfl, by decide +kernel, by decide +kernel⟩
abbrev s_refuse_no_place : Stmt := topS 15
abbrev N_refuse_no_place : List Str := ["row", "at"]
theorem sc_refuse_no_place : FnScope N_refuse_no_place ["row", "at"] (defScope s_refuse_no_place) := ⟨rfl, rfl, rfl, by decide +kernel, rfl, by decide +kernel, by decide +kernel⟩
abbrev s_written : Stmt := topS 16
abbrev N_written : List Str := ["number", "row", "rest"]
theorem sc_written : FnScope N_written ["number"] (defScope s_written) := ⟨rfl, rfl, rfl, by decide +kernel, rfl, by decide +kernel, by decide +kernel⟩
abbrev s_number_at : Stmt := topS 17
abbrev N_number_at : List Str := ["row", "at", "number", "place", "figure"]
theorem sc_number_at : FnScope N_number_at ["row", "at"] (defScope s_number_at) := ⟨rfl, rfl, rfl, by decide +kernel, rfl, by decide +kernel, by decide +kernel⟩
abbrev s_check : Stmt := topS 18
abbrev N_check : List Str := ["row", "found", "byte"]
theorem sc_check : FnScope N_check ["row"] (defScope s_check) := ⟨rfl, rfl, rfl, by decide +kernel, rfl, by decide +kernel, by decide +kernel⟩
abbrev s_stuffed : Stmt := topS 19
abbrev N_stuffed : List Str := ["row", "found", "noughts", "byte"]
theorem sc_stuffed : FnScope N_stuffed ["row"] (defScope s_stuffed) := ⟨rfl, rfl, rfl, by decide +kernel, rfl, by decide +kernel, by decide +kernel⟩
abbrev s_Growing_init : Stmt := inClass (topS 27) 0
abbrev N_Growing_init : List Str := ["self", "at"]
theorem sc_Growing_init : FnScope N_Growing_init ["self", "at"] (defScope s_Growing_init) := ⟨rfl, rfl, rfl, by decide +kernel, rfl, by decide +kernel, by decide +kernel⟩
abbrev s_Growing_grow : Stmt := inClass (topS 27) 1
abbrev N_Growing_grow : List Str := ["self", "byte"]
theorem sc_Growing_grow : FnScope N_Growing_grow ["self", "byte"] (defScope s_Growing_grow) := ⟨rfl, rfl, rfl, by decide +kernel, rfl, by decide +kernel, by decide +kernel⟩
abbrev s_Growing_measure : Stmt := inClass (topS 27) 2
abbrev N_Growing_measure : List Str := ["self", "found"]
theorem sc_Growing_measure : FnScope N_Growing_measure ["self"] (defScope s_Growing_measure) := ⟨rfl, rfl, rfl, by decide +kernel, rfl, by decide +kernel, by decide +kernel⟩
abbrev s_Growing_body : Stmt := inClass (topS 27) 3
abbrev N_Growing_body : List Str := ["self"]
theorem sc_Growing_body : FnScope N_Growing_body ["self"] (defScope s_Growing_body) := ⟨rfl, rfl, rfl, by decide +kernel, rfl, by decide +kernel, by decide +kernel⟩
abbrev s_Growing_is_right : Stmt := inClass (topS 27) 4
abbrev N_Growing_is_right : List Str := ["self"]
theorem sc_Growing_is_right : FnScope N_Growing_is_right ["self"] (defScope s_Growing_is_right) := ⟨rfl, rfl, rfl, by decide +kernel, rfl, by decide +kernel, by decide +kernel⟩
abbrev s_sum_of : Stmt := topS 28
abbrev N_sum_of : List Str := ["kind", "body"]
theorem sc_sum_of : FnScope N_sum_of ["kind", "body"] (defScope s_sum_of) := ⟨rfl, rfl, rfl, by decide +kernel, rfl, by decide +kernel, by decide +kernel⟩
abbrev s_box : Stmt := topS 29
abbrev N_box : List Str := ["kind", "body"]
theorem sc_box : FnScope N_box ["kind", "body"] (defScope s_box) := ⟨rfl, rfl, rfl, by decide +kernel, rfl, by decide +kernel, by decide +kernel⟩
abbrev s_standing_at : Stmt := topS 30
abbrev N_standing_at : List Str := ["row", "at", "growing", "place"]
theorem sc_standing_at : FnScope N_standing_at ["row", "at"] (defScope s_standing_at) := ⟨rfl, rfl, rfl, by decide +kernel, rfl, by decide +kernel, by decide +kernel⟩
abbrev s_box_at : Stmt := topS 31
abbrev N_box_at : List Str := ["row", "at"]
theorem sc_box_at : FnScope N_box_at ["row", "at"] (defScope s_box_at) := ⟨rfl, rfl, rfl, by decide +kernel, rfl, by decide +kernel, by decide +kernel⟩
abbrev s_l_cell_at : Stmt := topS 33
abbrev N_l_cell_at : List Str := ["_law_script", "_law_k"]
theorem sc_l_cell_at : FnScope N_l_cell_at ["_law_script", "_law_k"] (defScope s_l_cell_at) := ⟨rfl, rfl, rfl, by decide +kernel, rfl, by decide +kernel, by decide +kernel⟩
abbrev s_l_digit : Stmt := topS 34
abbrev N_l_digit : List Str := ["_law_state", "_law_base", "_law_found", "_law_number"]
theorem sc_l_digit : FnScope N_l_digit ["_law_state", "_law_base"] (defScope s_l_digit) := ⟨rfl, rfl, rfl, by decide +kernel, rfl, by decide +kernel, by decide +kernel⟩
abbrev s_l_figures : Stmt := topS 35
abbrev N_l_figures : List Str := ["_law_number", "_law_found"]
theorem sc_l_figures : FnScope N_l_figures ["_law_number"] (defScope s_l_figures) := ⟨rfl, rfl, rfl, by decide +kernel, rfl, by decide +kernel, by decide +kernel⟩
abbrev s_l_number_at : Stmt := topS 36
abbrev N_l_number_at : List Str := ["_law_row", "_law_at", "_law_number", "_law_place"]
theorem sc_l_number_at : FnScope N_l_number_at ["_law_row", "_law_at"] (defScope s_l_number_at) := ⟨rfl, rfl, rfl, by decide +kernel, rfl, by decide +kernel, by decide +kernel⟩
abbrev s_l_odd_row : Stmt := topS 37
abbrev N_l_odd_row : List Str := ["_law_state", "_law_row", "_law_odd", "_law_at"]
theorem sc_l_odd_row : FnScope N_l_odd_row ["_law_state", "_law_row"] (defScope s_l_odd_row) := ⟨rfl, rfl, rfl, by decide +kernel, rfl, by decide +kernel, by decide +kernel⟩
abbrev s_l_bytes : Stmt := topS 38
abbrev N_l_bytes : List Str := ["_law_state", "_law_many", "_law_plain", "_law_found", "_law_k", "_law_byte"]
theorem sc_l_bytes : FnScope N_l_bytes ["_law_state", "_law_many"] (defScope s_l_bytes) := ⟨rfl, rfl, rfl, by decide +kernel, rfl, by decide +kernel, by decide +kernel⟩
abbrev s_l_sum : Stmt := topS 39
abbrev N_l_sum : List Str := ["_law_row", "_law_number", "_law_byte"]
theorem sc_l_sum : FnScope N_l_sum ["_law_row", "_law_number"] (defScope s_l_sum) := ⟨rfl, rfl, rfl, by decide +kernel, rfl, by decide +kernel, by decide +kernel⟩
abbrev s_l_stuffed : Stmt := topS 40
abbrev N_l_stuffed : List Str := ["_law_row", "_law_found", "_law_noughts", "_law_byte"]
theorem sc_l_stuffed : FnScope N_l_stuffed ["_law_row"] (defScope s_l_stuffed) := ⟨rfl, rfl, rfl, by decide +kernel, rfl, by decide +kernel, by decide +kernel⟩
abbrev s_l_boxed : Stmt := topS 41
abbrev N_l_boxed : List Str := ["_law_kind", "_law_body", "_law_content"]
theorem sc_l_boxed : FnScope N_l_boxed ["_law_kind", "_law_body"] (defScope s_l_boxed) := ⟨rfl, rfl, rfl, by decide +kernel, rfl, by decide +kernel, by decide +kernel⟩
abbrev s_l_contents : Stmt := topS 42
abbrev N_l_contents : List Str := ["_law_row", "_law_at", "_law_found", "_law_places", "_law_noughts"]
theorem sc_l_contents : FnScope N_l_contents ["_law_row", "_law_at"] (defScope s_l_contents) := ⟨rfl, rfl, rfl, by decide +kernel, rfl, by decide +kernel, by decide +kernel⟩
abbrev s_l_box_at : Stmt := topS 43
abbrev N_l_box_at : List Str := ["_law_row", "_law_at", "_law_found", "_law_places", "_law_size", "_law_many", "_law_body", "_law_end"]
theorem sc_l_box_at : FnScope N_l_box_at ["_law_row", "_law_at"] (defScope s_l_box_at) := ⟨rfl, rfl, rfl, by decide +kernel, rfl, by decide +kernel, by decide +kernel⟩
abbrev s_l_word : Stmt := topS 45
abbrev N_l_word : List Str := ["_law_ask", "e"]
theorem sc_l_word : FnScope N_l_word ["_law_ask"] (defScope s_l_word) := ⟨rfl, rfl, rfl, by decide +kernel, rfl, by decide +kernel, by decide +kernel⟩
abbrev s_l_right : Stmt := topS 46
abbrev N_l_right : List Str := ["_law_row", "_law_places", "_law_due", "_law_found", "_law_at", "_law_handed"]
theorem sc_l_right : FnScope N_l_right ["_law_row", "_law_places"] (defScope s_l_right) := ⟨rfl, rfl, rfl, by decide +kernel, rfl, by decide +kernel, by decide +kernel⟩
abbrev s_l_odds : Stmt := topS 47
abbrev N_l_odds : List Str := ["_law_state", "_law_row", "_law_body", "_law_kind", "_law_odd", "_law_place", "_law_some"]
theorem sc_l_odds : FnScope N_l_odds ["_law_state", "_law_row", "_law_body"] (defScope s_l_odds) := ⟨rfl, rfl, rfl, by decide +kernel, rfl, by decide +kernel, by decide +kernel⟩
abbrev s_l_great : Stmt := topS 48
abbrev N_l_great : List Str := ["_law_state", "_law_many", "_law_worth", "_law_body", "_law_there", "_law_rest", "_law_tail"]
theorem sc_l_great : FnScope N_l_great ["_law_state"] (defScope s_l_great) := ⟨rfl, rfl, rfl, by decide +kernel, rfl, by decide +kernel, by decide +kernel⟩
abbrev s_law : Stmt := topS 49
abbrev N_law : List Str := ["_law_script", "_law_state", "_law_cell", "_law_many", "_law_kind", "_law_body", "_law_handed", "_law_there", "_law_ahead", "_law_row", "_law_at", "_law_byte", "_law_places", "_law_rows", "_law_some", "_law_place"]
theorem sc_law : FnScope N_law ["_law_script"] (defScope s_law) := ⟨rfl, rfl, rfl, by decide +kernel, rfl, by decide +kernel, by decide +kernel⟩

/-- a def whose code object is known: it makes lambdas -/
structure FunC (K : PySem.W.Frag) (x qual : Str) (st : Stmt) (f : Addr) (fd : FuncData) (c : Addr) : Prop where
  ex : ∃ (oc : Value) (od : Option Addr) (kV doc pm : Value) (an : Option Addr) (ct : Value) (osl : Array (Option Value)), fd = PySem.W.fnOf x qual (defArgs st) (defBody st) (defScope st) .none kV doc pm an (.ref c) ct ∧ K.lookup f = some ⟨oc, od, .func fd, osl⟩ ∧ PySem.W.codeIn K (.ref c) qual = true
theorem FunC.ok {P : Program} {w : World} {K : PySem.W.Frag} {mg : Str → Option Value} {base : Heap} {x qual : Str} {st : Stmt} {f c : Addr} {fd : FuncData} {N ps : List Str} {k : Nat} {sp : Sp} (F : FunC K x qual st f fd c) (S : FnScope N ps (defScope st)) (ln : ∀ vs H Q E, sp vs H Q E → vs.length = ps.length)
    (hb : ∀ (A : Around) (outer : List Env) (s : Shared) (H : Hp) (vs : List V) (Q : VK) (E : XK), Room k (A.deeper (envOfC qual (defScope st) s.heap.objs.size f (.ref c))) → sp vs H Q E →
      ∃ t, PSs (cxOf CX0 P w K mg base N qual (defScope st) f (.ref c) A outer s H E).nox (defBody st) t ∧ t { nx := fun _ H' => Q .non H', rt := Q } (L2.start N vs) H) : FnOk P w K mg base CX0 (k + 1) f fd ps sp := by
  obtain ⟨oc, od, kV, doc, pm, an, ct, osl, rfl, lk, hcd⟩ := F.ex
  refine fn_of lk hcd S ln fun A outer s H vs Q E hr hsp => ?_
  obtain ⟨t, pt, q⟩ := hb A outer s H vs Q E hr hsp
  exact ⟨t, pt.nox, q⟩
/-- the table of a code object -/
def tabO (o : Obj) : Option Addr := match o.data with
  | .fields vs => match (vs[11]? : Option Value) with
    | some (Value.ref P) => some P
    | _ => none
  | _ => none
structure Txt (K : PySem.W.Frag) (mg : Str → Option Value) : Type where
  a_is_number : Addr
  d_is_number : FuncData
  F_is_number : Fun K "is_number" "is_number" s_is_number a_is_number d_is_number
  g_is_number : mg "is_number" = some (.ref a_is_number)
  b_is_number : Binds K d_is_number ["thing"] []
  a_is_whole : Addr
  d_is_whole : FuncData
  F_is_whole : Fun K "is_whole" "is_whole" s_is_whole a_is_whole d_is_whole
  g_is_whole : mg "is_whole" = some (.ref a_is_whole)
  b_is_whole : Binds K d_is_whole ["thing", "low", "high"] []
  a_is_bytes : Addr
  d_is_bytes : FuncData
  F_is_bytes : Fun K "is_bytes" "is_bytes" s_is_bytes a_is_bytes d_is_bytes
  g_is_bytes : mg "is_bytes" = some (.ref a_is_bytes)
  b_is_bytes : Binds K d_is_bytes ["thing"] []
  a_refuse_no_bytes : Addr
  d_refuse_no_bytes : FuncData
  F_refuse_no_bytes : Fun K "refuse_no_bytes" "refuse_no_bytes" s_refuse_no_bytes a_refuse_no_bytes d_refuse_no_bytes
  g_refuse_no_bytes : mg "refuse_no_bytes" = some (.ref a_refuse_no_bytes)
  b_refuse_no_bytes : Binds K d_refuse_no_bytes ["row"] []
  a_refuse_no_place : Addr
  d_refuse_no_place : FuncData
  F_refuse_no_place : Fun K "refuse_no_place" "refuse_no_place" s_refuse_no_place a_refuse_no_place d_refuse_no_place
  g_refuse_no_place : mg "refuse_no_place" = some (.ref a_refuse_no_place)
  b_refuse_no_place : Binds K d_refuse_no_place ["row", "at"] []
  a_written : Addr
  d_written : FuncData
  F_written : Fun K "written" "written" s_written a_written d_written
  g_written : mg "written" = some (.ref a_written)
  b_written : Binds K d_written ["number"] []
  a_number_at : Addr
  d_number_at : FuncData
  F_number_at : Fun K "number_at" "number_at" s_number_at a_number_at d_number_at
  g_number_at : mg "number_at" = some (.ref a_number_at)
  b_number_at : Binds K d_number_at ["row", "at"] []
  a_check : Addr
  d_check : FuncData
  F_check : Fun K "check" "check" s_check a_check d_check
  g_check : mg "check" = some (.ref a_check)
  b_check : Binds K d_check ["row"] []
  a_stuffed : Addr
  d_stuffed : FuncData
  F_stuffed : Fun K "stuffed" "stuffed" s_stuffed a_stuffed d_stuffed
  g_stuffed : mg "stuffed" = some (.ref a_stuffed)
  b_stuffed : Binds K d_stuffed ["row"] []
  a_Growing_init : Addr
  d_Growing_init : FuncData
  F_Growing_init : Fun K "__init__" "Growing.__init__" s_Growing_init a_Growing_init d_Growing_init
  b_Growing_init : Binds K d_Growing_init ["self", "at"] []
  a_Growing_grow : Addr
  d_Growing_grow : FuncData
  F_Growing_grow : Fun K "grow" "Growing.grow" s_Growing_grow a_Growing_grow d_Growing_grow
  b_Growing_grow : Binds K d_Growing_grow ["self", "byte"] []
  a_Growing_measure : Addr
  d_Growing_measure : FuncData
  F_Growing_measure : Fun K "measure" "Growing.measure" s_Growing_measure a_Growing_measure d_Growing_measure
  b_Growing_measure : Binds K d_Growing_measure ["self"] []
  a_Growing_body : Addr
  d_Growing_body : FuncData
  F_Growing_body : Fun K "body" "Growing.body" s_Growing_body a_Growing_body d_Growing_body
  b_Growing_body : Binds K d_Growing_body ["self"] []
  a_Growing_is_right : Addr
  d_Growing_is_right : FuncData
  F_Growing_is_right : Fun K "is_right" "Growing.is_right" s_Growing_is_right a_Growing_is_right d_Growing_is_right
  b_Growing_is_right : Binds K d_Growing_is_right ["self"] []
  a_sum_of : Addr
  d_sum_of : FuncData
  F_sum_of : Fun K "sum_of" "sum_of" s_sum_of a_sum_of d_sum_of
  g_sum_of : mg "sum_of" = some (.ref a_sum_of)
  b_sum_of : Binds K d_sum_of ["kind", "body"] []
  a_box : Addr
  d_box : FuncData
  F_box : Fun K "box" "box" s_box a_box d_box
  g_box : mg "box" = some (.ref a_box)
  b_box : Binds K d_box ["kind", "body"] []
  a_standing_at : Addr
  d_standing_at : FuncData
  F_standing_at : Fun K "standing_at" "standing_at" s_standing_at a_standing_at d_standing_at
  g_standing_at : mg "standing_at" = some (.ref a_standing_at)
  b_standing_at : Binds K d_standing_at ["row", "at"] []
  a_box_at : Addr
  d_box_at : FuncData
  F_box_at : FunD K "box_at" "box_at" (defArgs s_box_at) (defBody s_box_at) (defScope s_box_at) [V.int 0] [] a_box_at d_box_at
  g_box_at : mg "box_at" = some (.ref a_box_at)
  b_box_at : Binds K d_box_at ["row", "at"] []
  a_l_cell_at : Addr
  d_l_cell_at : FuncData
  F_l_cell_at : Fun K "_law_cell_at" "_law_cell_at" s_l_cell_at a_l_cell_at d_l_cell_at
  g_l_cell_at : mg "_law_cell_at" = some (.ref a_l_cell_at)
  b_l_cell_at : Binds K d_l_cell_at ["_law_script", "_law_k"] []
  a_l_digit : Addr
  d_l_digit : FuncData
  F_l_digit : Fun K "_law_digit" "_law_digit" s_l_digit a_l_digit d_l_digit
  g_l_digit : mg "_law_digit" = some (.ref a_l_digit)
  b_l_digit : Binds K d_l_digit ["_law_state", "_law_base"] []
  a_l_figures : Addr
  d_l_figures : FuncData
  F_l_figures : Fun K "_law_figures" "_law_figures" s_l_figures a_l_figures d_l_figures
  g_l_figures : mg "_law_figures" = some (.ref a_l_figures)
  b_l_figures : Binds K d_l_figures ["_law_number"] []
  a_l_number_at : Addr
  d_l_number_at : FuncData
  F_l_number_at : Fun K "_law_number_at" "_law_number_at" s_l_number_at a_l_number_at d_l_number_at
  g_l_number_at : mg "_law_number_at" = some (.ref a_l_number_at)
  b_l_number_at : Binds K d_l_number_at ["_law_row", "_law_at"] []
  a_l_odd_row : Addr
  d_l_odd_row : FuncData
  F_l_odd_row : Fun K "_law_odd_row" "_law_odd_row" s_l_odd_row a_l_odd_row d_l_odd_row
  g_l_odd_row : mg "_law_odd_row" = some (.ref a_l_odd_row)
  b_l_odd_row : Binds K d_l_odd_row ["_law_state", "_law_row"] []
  a_l_bytes : Addr
  d_l_bytes : FuncData
  F_l_bytes : Fun K "_law_bytes" "_law_bytes" s_l_bytes a_l_bytes d_l_bytes
  g_l_bytes : mg "_law_bytes" = some (.ref a_l_bytes)
  b_l_bytes : Binds K d_l_bytes ["_law_state", "_law_many"] []
  a_l_sum : Addr
  d_l_sum : FuncData
  F_l_sum : Fun K "_law_sum" "_law_sum" s_l_sum a_l_sum d_l_sum
  g_l_sum : mg "_law_sum" = some (.ref a_l_sum)
  b_l_sum : Binds K d_l_sum ["_law_row", "_law_number"] []
  a_l_stuffed : Addr
  d_l_stuffed : FuncData
  F_l_stuffed : Fun K "_law_stuffed" "_law_stuffed" s_l_stuffed a_l_stuffed d_l_stuffed
  g_l_stuffed : mg "_law_stuffed" = some (.ref a_l_stuffed)
  b_l_stuffed : Binds K d_l_stuffed ["_law_row"] []
  a_l_boxed : Addr
  d_l_boxed : FuncData
  F_l_boxed : Fun K "_law_boxed" "_law_boxed" s_l_boxed a_l_boxed d_l_boxed
  g_l_boxed : mg "_law_boxed" = some (.ref a_l_boxed)
  b_l_boxed : Binds K d_l_boxed ["_law_kind", "_law_body"] []
  a_l_contents : Addr
  d_l_contents : FuncData
  F_l_contents : Fun K "_law_contents" "_law_contents" s_l_contents a_l_contents d_l_contents
  g_l_contents : mg "_law_contents" = some (.ref a_l_contents)
  b_l_contents : Binds K d_l_contents ["_law_row", "_law_at"] []
  a_l_box_at : Addr
  d_l_box_at : FuncData
  F_l_box_at : Fun K "_law_box_at" "_law_box_at" s_l_box_at a_l_box_at d_l_box_at
  g_l_box_at : mg "_law_box_at" = some (.ref a_l_box_at)
  b_l_box_at : Binds K d_l_box_at ["_law_row", "_law_at"] []
  a_l_word : Addr
  d_l_word : FuncData
  F_l_word : Fun K "_law_word" "_law_word" s_l_word a_l_word d_l_word
  g_l_word : mg "_law_word" = some (.ref a_l_word)
  b_l_word : Binds K d_l_word ["_law_ask"] []
  a_l_right : Addr
  d_l_right : FuncData
  F_l_right : Fun K "_law_right" "_law_right" s_l_right a_l_right d_l_right
  g_l_right : mg "_law_right" = some (.ref a_l_right)
  b_l_right : Binds K d_l_right ["_law_row", "_law_places"] []
  a_l_odds : Addr
  d_l_odds : FuncData
  F_l_odds : Fun K "_law_odds" "_law_odds" s_l_odds a_l_odds d_l_odds
  g_l_odds : mg "_law_odds" = some (.ref a_l_odds)
  b_l_odds : Binds K d_l_odds ["_law_state", "_law_row", "_law_body"] []
  a_l_great : Addr
  d_l_great : FuncData
  F_l_great : Fun K "_law_great" "_law_great" s_l_great a_l_great d_l_great
  g_l_great : mg "_law_great" = some (.ref a_l_great)
  b_l_great : Binds K d_l_great ["_law_state"] []
  a_law : Addr
  d_law : FuncData
  F_law : Fun K "law" "law" s_law a_law d_law
  g_law : mg "law" = some (.ref a_law)
  b_law : Binds K d_law ["_law_script"] []
  cw_l_right : Addr
  tw_l_right : Addr
  C_l_right : FunC K "_law_right" "_law_right" s_l_right a_l_right d_l_right cw_l_right
  cw_l_odds : Addr
  tw_l_odds : Addr
  C_l_odds : FunC K "_law_odds" "_law_odds" s_l_odds a_l_odds d_l_odds cw_l_odds
  ds1_box_at : List Value
  v1_box_at : Vals [V.int 0] ds1_box_at
  b1_box_at : Binds K d_box_at ["row", "at"] ds1_box_at
  m_bool : mg "bool" = none
  m_divmod : mg "divmod" = none
  m_int : mg "int" = none
  m_isinstance : mg "isinstance" = none
  m_len : mg "len" = none
  m_list : mg "list" = none
  m_min : mg "min" = none
  m_range : mg "range" = none
  m_tuple : mg "tuple" = none
  c_ScrollError : Addr
  g_ScrollError : mg "ScrollError" = some (.ref c_ScrollError)
  c_NoNumber : Addr
  g_NoNumber : mg "NoNumber" = some (.ref c_NoNumber)
  c_NoBytes : Addr
  g_NoBytes : mg "NoBytes" = some (.ref c_NoBytes)
  c_NoPlace : Addr
  g_NoPlace : mg "NoPlace" = some (.ref c_NoPlace)
  c_NoKind : Addr
  g_NoKind : mg "NoKind" = some (.ref c_NoKind)
  c_Growing : Addr
  g_Growing : mg "Growing" = some (.ref c_Growing)
  ct_GREATEST_NUMBER : Tok
  g_GREATEST_NUMBER : mg "GREATEST_NUMBER" = some (.int 1000000000000000000000000000000000000000000000000000000000000 ct_GREATEST_NUMBER)
  ct_BASE : Tok
  g_BASE : mg "BASE" = some (.int 128 ct_BASE)
  ct_STUFFING : Tok
  g_STUFFING : mg "STUFFING" = some (.int 2 ct_STUFFING)
  ca_START : Addr
  g_START : mg "START" = some (.ref ca_START)
  cs_START : ∃ o n its, K.lookup ca_START = some o ∧ o.cls = .type "tuple" ∧ o.data = .seq its n ∧ Vals ([.int 0, .int 0, .int 1] : List V) its.toList
  ct_END : Tok
  g_END : mg "END" = some (.int 255 ct_END)
  ct_LEAST_KIND : Tok
  g_LEAST_KIND : mg "LEAST_KIND" = some (.int 1 ct_LEAST_KIND)
  ct_GREATEST_KIND : Tok
  g_GREATEST_KIND : mg "GREATEST_KIND" = some (.int 9 ct_GREATEST_KIND)
  ct_LONGEST_BODY : Tok
  g_LONGEST_BODY : mg "LONGEST_BODY" = some (.int 60000 ct_LONGEST_BODY)
  ct_LONGEST_LENGTH : Tok
  g_LONGEST_LENGTH : mg "LONGEST_LENGTH" = some (.int 3 ct_LONGEST_LENGTH)
  cl_Growing : Cls K c_Growing
  mkk_Growing : PySem.W.makesIn K c_Growing = true
  na_Growing_at : NoAttr K c_Growing "at"
  na_Growing_kind : NoAttr K c_Growing "kind"
  na_Growing_content : NoAttr K c_Growing "content"
  na_Growing_noughts : NoAttr K c_Growing "noughts"
  na_Growing_first : NoAttr K c_Growing "first"
  na_Growing_behind : NoAttr K c_Growing "behind"
  na_Growing_closed : NoAttr K c_Growing "closed"
  mk_Growing : Mk K c_Growing a_Growing_init
  mt_Growing_grow : Meth K c_Growing "grow" a_Growing_grow
  mt_Growing_measure : Meth K c_Growing "measure" a_Growing_measure
  mt_Growing_body : Meth K c_Growing "body" a_Growing_body
  mt_Growing_is_right : Meth K c_Growing "is_right" a_Growing_is_right
  x_NoNumber : PySem.W.excIn K c_NoNumber [.type "ValueError", .type "Exception", .type "BaseException", .type "object"] "ValueError.__new__" = true
  k_NoNumber : PySem.W.keepIn K (.ref c_NoNumber) = true
  bb_NoNumber : PySem.W.subIn K (.ref c_NoNumber) (.type "BaseException") = some true
  t_NoNumber : PySem.W.typeIn K (.ref c_NoNumber) = some (.type "type")
  xc_NoNumber : ExcC K c_NoNumber
  x_NoBytes : PySem.W.excIn K c_NoBytes [.type "ValueError", .type "Exception", .type "BaseException", .type "object"] "ValueError.__new__" = true
  k_NoBytes : PySem.W.keepIn K (.ref c_NoBytes) = true
  bb_NoBytes : PySem.W.subIn K (.ref c_NoBytes) (.type "BaseException") = some true
  t_NoBytes : PySem.W.typeIn K (.ref c_NoBytes) = some (.type "type")
  xc_NoBytes : ExcC K c_NoBytes
  x_NoPlace : PySem.W.excIn K c_NoPlace [.type "ValueError", .type "Exception", .type "BaseException", .type "object"] "ValueError.__new__" = true
  k_NoPlace : PySem.W.keepIn K (.ref c_NoPlace) = true
  bb_NoPlace : PySem.W.subIn K (.ref c_NoPlace) (.type "BaseException") = some true
  t_NoPlace : PySem.W.typeIn K (.ref c_NoPlace) = some (.type "type")
  xc_NoPlace : ExcC K c_NoPlace
  x_NoKind : PySem.W.excIn K c_NoKind [.type "ValueError", .type "Exception", .type "BaseException", .type "object"] "ValueError.__new__" = true
  k_NoKind : PySem.W.keepIn K (.ref c_NoKind) = true
  bb_NoKind : PySem.W.subIn K (.ref c_NoKind) (.type "BaseException") = some true
  t_NoKind : PySem.W.typeIn K (.ref c_NoKind) = some (.type "type")
  xc_NoKind : ExcC K c_NoKind
  em_NoBytes_NoKind : PySem.W.exmOne K (.ref c_NoBytes) (.ref c_NoKind) = some false
  em_NoKind_NoKind : PySem.W.exmOne K (.ref c_NoKind) (.ref c_NoKind) = some true
  em_NoNumber_NoKind : PySem.W.exmOne K (.ref c_NoNumber) (.ref c_NoKind) = some false
  em_NoPlace_NoKind : PySem.W.exmOne K (.ref c_NoPlace) (.ref c_NoKind) = some false
  em_NoBytes_NoBytes : PySem.W.exmOne K (.ref c_NoBytes) (.ref c_NoBytes) = some true
  em_NoKind_NoBytes : PySem.W.exmOne K (.ref c_NoKind) (.ref c_NoBytes) = some false
  em_NoNumber_NoBytes : PySem.W.exmOne K (.ref c_NoNumber) (.ref c_NoBytes) = some false
  em_NoPlace_NoBytes : PySem.W.exmOne K (.ref c_NoPlace) (.ref c_NoBytes) = some false
  em_NoBytes_NoPlace : PySem.W.exmOne K (.ref c_NoBytes) (.ref c_NoPlace) = some false
  em_NoKind_NoPlace : PySem.W.exmOne K (.ref c_NoKind) (.ref c_NoPlace) = some false
  em_NoNumber_NoPlace : PySem.W.exmOne K (.ref c_NoNumber) (.ref c_NoPlace) = some false
  em_NoPlace_NoPlace : PySem.W.exmOne K (.ref c_NoPlace) (.ref c_NoPlace) = some true
  em_NoBytes_ScrollError : PySem.W.exmOne K (.ref c_NoBytes) (.ref c_ScrollError) = some true
  em_NoKind_ScrollError : PySem.W.exmOne K (.ref c_NoKind) (.ref c_ScrollError) = some true
  em_NoNumber_ScrollError : PySem.W.exmOne K (.ref c_NoNumber) (.ref c_ScrollError) = some true
  em_NoPlace_ScrollError : PySem.W.exmOne K (.ref c_NoPlace) (.ref c_ScrollError) = some true
  io_NoBytes_NoBytes : PySem.W.kitOne K (.ref c_NoBytes) (.ref c_NoBytes) = some true
  io_NoKind_NoBytes : PySem.W.kitOne K (.ref c_NoKind) (.ref c_NoBytes) = some false
  io_NoNumber_NoBytes : PySem.W.kitOne K (.ref c_NoNumber) (.ref c_NoBytes) = some false
  io_NoPlace_NoBytes : PySem.W.kitOne K (.ref c_NoPlace) (.ref c_NoBytes) = some false
  io_NoBytes_NoNumber : PySem.W.kitOne K (.ref c_NoBytes) (.ref c_NoNumber) = some false
  io_NoKind_NoNumber : PySem.W.kitOne K (.ref c_NoKind) (.ref c_NoNumber) = some false
  io_NoNumber_NoNumber : PySem.W.kitOne K (.ref c_NoNumber) (.ref c_NoNumber) = some true
  io_NoPlace_NoNumber : PySem.W.kitOne K (.ref c_NoPlace) (.ref c_NoNumber) = some false
  io_NoBytes_NoPlace : PySem.W.kitOne K (.ref c_NoBytes) (.ref c_NoPlace) = some false
  io_NoKind_NoPlace : PySem.W.kitOne K (.ref c_NoKind) (.ref c_NoPlace) = some false
  io_NoNumber_NoPlace : PySem.W.kitOne K (.ref c_NoNumber) (.ref c_NoPlace) = some false
  io_NoPlace_NoPlace : PySem.W.kitOne K (.ref c_NoPlace) (.ref c_NoPlace) = some true
  io_NoBytes_NoKind : PySem.W.kitOne K (.ref c_NoBytes) (.ref c_NoKind) = some false
  io_NoKind_NoKind : PySem.W.kitOne K (.ref c_NoKind) (.ref c_NoKind) = some true
  io_NoNumber_NoKind : PySem.W.kitOne K (.ref c_NoNumber) (.ref c_NoKind) = some false
  io_NoPlace_NoKind : PySem.W.kitOne K (.ref c_NoPlace) (.ref c_NoKind) = some false
structure TabsT (base : Heap) (mg : Str → Option Value) {K : PySem.W.Frag} (T : Txt K mg) : Prop where
  tb_l_right : LamX.TabB base mg T.cw_l_right T.tw_l_right
  tb_l_odds : LamX.TabB base mg T.cw_l_odds T.tw_l_odds
  ne_l_right_l_odds : T.tw_l_right ≠ T.tw_l_odds
/-! ### heaps -/
/-- all but what stands at p is as it was -/
def Frm (p : Addr) (H H' : Hp) : Prop := ∀ b o, b ≠ p → H b = some o → H' b = some o
theorem Frm.get {p q : Addr} {H H' : Hp} {o : HO} (f : Frm p H H') (n : q ≠ p) (h : H q = some o) : H' q = some o := f q o n h
theorem Frm.refl {p : Addr} {H : Hp} : Frm p H H := fun _ _ _ h => h
theorem Frm.trans {p : Addr} {H H1 H2 : Hp} (a : Frm p H H1) (b : Frm p H1 H2) : Frm p H H2 := fun c o n h => b c o n (a c o n h)
theorem Frm.upd {p : Addr} {H : Hp} {o : HO} : Frm p H (upd H p o) := fun c u n h => by rw [upd_ne n]; exact h
theorem upd_old {H : Hp} {a q : Addr} {o o' : HO} (na : H a = none) (h : H q = some o) : upd H a o' q = some o := by
  rw [upd_ne (ne_of_none h na)]; exact h
theorem upd_oth {H : Hp} {a q : Addr} {o o' : HO} (na : q ≠ a) (h : H q = some o) : upd H a o' q = some o := by
  rw [upd_ne na]; exact h
theorem Frm.new {p a : Addr} {H H' : Hp} {o : HO} (f : Frm p H H') (na : H' a = none) : Frm p H (L2.upd H' a o) := fun c u n h => upd_old na (f c u n h)
theorem Frm.upd2 {p : Addr} {H H' : Hp} {o : HO} (f : Frm p H H') : Frm p H (L2.upd H' p o) := f.trans .upd
theorem Frm.own {p a : Addr} {H H' : Hp} {o : HO} (f : Frm p H H') (na : H a = none) : Frm p H (L2.upd H' a o) := fun c u n h => upd_oth (ne_of_none h na) (f c u n h)
theorem Frm.new2 {p a : Addr} {H H' : Hp} {o o2 : HO} (f : Frm p H H') (na : H' a = none) : Frm p H (L2.upd (L2.upd H' a o2) a o) := by rw [upd_upd]; exact f.new na
theorem upd_old2 {H : Hp} {a q : Addr} {o o' o2 : HO} (na : H a = none) (h : H q = some o) : upd (upd H a o2) a o' q = some o := by rw [upd_upd]; exact upd_old na h
theorem new_ne {H : Hp} {a q : Addr} {o : HO} (na : H a = none) (h : H q = some o) : a ≠ q := fun e => by subst e; rw [na] at h; cases h
theorem Same.get {q : Addr} {H H' : Hp} {o : HO} (f : Same H H') (h : H q = some o) : H' q = some o := f q o h
theorem Same.new {a : Addr} {H H' : Hp} {o : HO} (f : Same H H') (na : H' a = none) : Same H (L2.upd H' a o) := fun c u h => upd_old na (f c u h)
theorem Same.new2 {a : Addr} {H H' : Hp} {o o2 : HO} (f : Same H H') (na : H' a = none) : Same H (L2.upd (L2.upd H' a o2) a o) := by rw [upd_upd]; exact Same.new f na
theorem Same.own {a : Addr} {H H' : Hp} {o : HO} (f : Same H H') (na : H a = none) : Same H (L2.upd H' a o) := fun c u h => upd_oth (ne_of_none h na) (f c u h)
theorem Same.frm {p : Addr} {H H' : Hp} (f : Same H H') : Frm p H H' := fun c u _ h => f c u h
/-- what is new to an elder heap and stands apart is no matter -/
theorem Frm.same {p : Addr} {H H' : Hp} (f : Frm p H H') (n : H p = none) : Same H H' := fun c u h => f c u (ne_of_none h n) h
theorem Same.byFrm {p : Addr} {H H1 H2 : Hp} (f : Same H H1) (g : Frm p H1 H2) (n : H p = none) : Same H H2 := fun c u h => g c u (ne_of_none h n) (f c u h)
theorem Frm.none {p q : Addr} {H H' : Hp} (f : Frm p H H') (n : q ≠ p) (h : H' q = none) : H q = none := by
  cases e : H q with
  | none => rfl
  | some o => rw [f q o n e] at h; cases h
theorem Same.none {q : Addr} {H H' : Hp} (f : Same H H') (h : H' q = none) : H q = none := by
  cases e : H q with
  | none => rfl
  | some o => rw [f q o e] at h; cases h
/-! ### sizes, ifs -/
theorem szb {n : Nat} (h : n ≤ 16000000) : n ≤ sizeLine := Nat.le_trans h (by decide)
theorem szbl {n : Nat} (h : n ≤ 16000000) : n < sizeLine := Nat.lt_of_le_of_lt h (by decide)
theorem sz {n : Nat} (h : Nat.ble n 1000 = true) : n ≤ sizeLine := Nat.le_trans (Nat.le_of_ble_eq_true h) (by decide)
theorem szl {n : Nat} (h : Nat.ble n 1000 = true) : n < sizeLine := Nat.lt_of_le_of_lt (Nat.le_of_ble_eq_true h) (by decide)
theorem szn {n : Nat} (h : n ≤ 1000) : n ≤ sizeLine := Nat.le_trans h (by decide)
theorem sznl {n : Nat} (h : n ≤ 1000) : n < sizeLine := Nat.lt_of_le_of_lt h (by decide)
theorem ifT {c : Bool} {A B : Prop} (h : c = true) (a : A) : if c = true then A else B := by rw [if_pos h]; exact a
theorem ifF {c : Bool} {A B : Prop} (h : c = false) (b : B) : if c = true then A else B := by rw [h, if_neg Bool.false_ne_true]; exact b
theorem ifC {c : Bool} {A B : Prop} (a : c = true → A) (b : c = false → B) : if c = true then A else B := by
  cases c with
  | true => exact ifT rfl (a rfl)
  | false => exact ifF rfl (b rfl)
theorem ifAnd {k1 k2 : Bool} {A : Prop} {Q : VK} {H : Hp} (a : Q (.bl k2) H → A) (h : Q (.bl (k1 && k2)) H) : if k1 = true then A else Q (.bl false) H := by
  cases k1 with
  | true => exact ifT rfl (a h)
  | false => exact ifF rfl h
/-! ### items at a drawn place -/
theorem at_nn {α : Type} {xs : List α} {d : Int} (h0 : 0 ≤ d) (h1 : d < xs.length) : ∃ v, atI xs d = some v ∧ v ∈ xs ∧ xs[d.toNat]? = some v := by
  have h2 : d.toNat < xs.length := by omega
  have e : (d.toNat : Int) = d := by omega
  have k := atI_nat (List.getElem?_eq_getElem h2)
  rw [e] at k
  exact ⟨xs[d.toNat], k, List.getElem_mem h2, List.getElem?_eq_getElem h2⟩
theorem ixP {K : PySem.W.Frag} {H : Hp} {Q : VK} {p : Addr} {xs : List V} {d : Int} (R : V → Prop) (hp : SqL K H p xs) (h0 : 0 ≤ d) (h1 : d < xs.length) (all : ∀ v ∈ xs, R v) (k : ∀ v, R v → Q v H) : rIxL K (.ref p) (.int d) H Q := by
  obtain ⟨v, e, m, _⟩ := at_nn h0 h1
  exact ⟨_, _, _, _, rfl, rfl, hp, e, k v (all v m)⟩
theorem ixG {K : PySem.W.Frag} {H : Hp} {Q : VK} {p : Addr} {xs : List V} {d : Int} (hp : SqL K H p xs) (h0 : 0 ≤ d) (h1 : d < xs.length) (k : ∀ v, xs[d.toNat]? = some v → Q v H) : rIxL K (.ref p) (.int d) H Q := by
  obtain ⟨v, e, _, m⟩ := at_nn h0 h1
  exact ⟨_, _, _, _, rfl, rfl, hp, e, k v m⟩
def isI : V → Bool
  | .int _ => true
  | _ => false
theorem ixI {K : PySem.W.Frag} {H : Hp} {Q : VK} {p : Addr} {xs : List V} {d : Int} (hp : SqL K H p xs) (h0 : 0 ≤ d) (h1 : d < xs.length) (all : xs.all isI = true) (k : ∀ i, V.int i ∈ xs → Q (.int i) H) : rIxL K (.ref p) (.int d) H Q := by
  refine ixP (fun v => (∃ i, v = .int i) ∧ v ∈ xs) hp h0 h1 (fun v hv => ⟨?_, hv⟩) (fun v ⟨⟨i, e⟩, m⟩ => ?_)
  · have := List.all_eq_true.mp all v hv
    cases v <;> first | exact ⟨_, rfl⟩ | cases this
  · subst e; exact k i m
/-! ### a call with keywords alone -/
section
variable {X : Cx} {CX : CXT} {k : Nat} {f : Addr} {fd : FuncData} {ps ks : List Str} {sp : Sp} {E : XK} {x : Str} {p pos : Pos} {kws : List Keyword} {tk : TA} {g : List Value → List Value → List Value} {gV : List V → List V → List V}
theorem pe_callN0 (F : FnOk X.prog X.w X.K X.mg X.base CX k f fd ps sp) (hr : Room k X.A) (hg : Gl X x) (hm : X.mg x = some (.ref f)) (hk : PySem.W.keepIn X.K (.ref f) = true) (hb : KBn X.K fd ps 0 ks g gV) (hx : Passes CX X E)
    (hkw : PK X kws tk) (hall : (backToKw pos (keywordEach kws X.env)).all (·.1.isSome) = true := by rfl) (hks : (backToKw pos (keywordEach kws X.env)).filterMap (·.1) = ks := by rfl)
    (hdb : (x == ("__debug__" : Str)) = false := by decide)
    (hpl : ((backTo pos (starEach [] X.env)).any (·.1) || (backToKw pos (keywordEach kws X.env)).any (·.1.isNone)) = false := by rfl) :
    PE X (.Call (.Name x p) [] kws pos) (tCallN 0 ks.length sp gV E tNil tk) := by
  refine ⟨fun pins s σ H Q I h => ?_⟩
  refine wpAny_Call_Name_kw (ld_glob I hg hm ?_ hdb)
  refine PySem.W.callWith_KW0 (h₀ := X.base) I.ok.mod.kin hk hall (thn (hkw.run pos pins s σ H _ I h) fun ws s2 ⟨zs, H2, I2, rz, l1, l2, q2⟩ => ⟨I2.kIn, ?_⟩) hpl
  rw [hks]
  exact run_fnN F hr hb hx I2 .nil rz rfl l2 q2
end
section
variable {K : PySem.W.Frag} {x qual : Str} {st : Stmt} {f : Addr} {fd : FuncData} {ps ks : List Str} {n : Nat}
theorem kbAll {F : Fun K x qual st f fd} {g : {α : Type} → List α → List α → List α} (h : ∀ (kV doc pm : Value) (an : Option Addr) (cdv ct : Value) (us ws : List Value), us.length = n → ws.length = ks.length →
    bindArgs (PySem.W.fnOf x qual (defArgs st) (defBody st) (defScope st) .none kV doc pm an cdv ct) ⟨us, ks.zip ws⟩ = pure (ps.zip (g us ws)))
    (hrel : ∀ {vs : List V} {us : List Value} {zs : List V} {ws : List Value}, Vals vs us → Vals zs ws → Vals (g vs zs) (g us ws)) : KBn K fd ps n ks (fun us ws => g us ws) (fun us ws => g us ws) := by
  obtain ⟨oc, od, kV, doc, pm, an, cdv, ct, osl, rfl, lk, hcd⟩ := F.ex
  exact ⟨fun s us ws _ h1 h2 => .of_eq (h kV doc pm an cdv ct us ws h1 h2), fun r1 r2 => hrel r1 r2⟩
variable {params : Arguments} {body : List Stmt} {scope : Scope} {dvs : List V}
theorem bindsAll {F : FunD K x qual params body scope dvs [] f fd}
    (h : ∀ (T : Addr) (kV doc pm : Value) (an : Option Addr) (cdv ct : Value) (us its : List Value), us.length = ps.length → its.length = dvs.length →
      ∃ k, bindArgs (PySem.W.fnOf x qual params body scope (.ref T) kV doc pm an cdv ct) ⟨us, []⟩ = seqItems? (.ref T) >>= k ∧ k (some its.toArray) = pure (ps.zip us)) (hd : dvs ≠ []) : Binds K fd ps [] := by
  obtain ⟨ds, hv, hb⟩ := F.binds1 (ps := ps) ps.length dvs.length hd (by omega) (fun T kV doc pm an cdv ct us its h1 h2 => by
    obtain ⟨k, e1, e2⟩ := h T kV doc pm an cdv ct us its h1 h2
    refine ⟨k, e1, ?_⟩
    rw [e2, ← h2, List.drop_length, List.append_nil])
  rw [List.drop_length] at hv
  cases hv
  exact hb
theorem kbAllD {F : FunD K x qual params body scope dvs [] f fd} {g : {α : Type} → List α → List α → List α}
    (h : ∀ (T : Addr) (kV doc pm : Value) (an : Option Addr) (cdv ct : Value) (us its ws : List Value), us.length = n → its.length = dvs.length → ws.length = ks.length →
      ∃ k, bindArgs (PySem.W.fnOf x qual params body scope (.ref T) kV doc pm an cdv ct) ⟨us, ks.zip ws⟩ = seqItems? (.ref T) >>= k ∧ k (some its.toArray) = pure (ps.zip (g us ws))) (hd : dvs ≠ [])
    (hrel : ∀ {vs : List V} {us : List Value} {zs : List V} {ws : List Value}, Vals vs us → Vals zs ws → Vals (g vs zs) (g us ws)) : KBn K fd ps n ks (fun us ws => g us ws) (fun us ws => g us ws) := by
  obtain ⟨oc, od, dV, kV, doc, pm, an, cdv, ct, osl, rfl, lk, hcd, hD, hK⟩ := F.ex
  rcases hD with ⟨e, _⟩ | ⟨_, T, o, its, m, rfl, lT, oT, rT⟩
  · exact absurd e hd
  · refine ⟨fun s us ws X l1 l2 => ?_, fun r1 r2 => hrel r1 r2⟩
    obtain ⟨k, e1, e2⟩ := h T kV doc pm an cdv ct us its ws l1 rT.length.symm l2
    refine BindsTo.of_looks fun M => ?_
    rw [e1]
    exact looks_items X lT oT (.of_pure e2)
theorem exm_by {K : PySem.W.Frag} {C S : Addr} {b : Bool} (h1 : PySem.W.subIn K (.ref S) (.type "BaseException") = some true) (h2 : PySem.W.isClsIn K S = true) (h3 : PySem.W.typeIn K (.ref S) = some (.type "type")) (h4 : PySem.W.subIn K (.ref C) (.ref S) = some b) :
    PySem.W.exmOne K (.ref C) (.ref S) = some b := by
  have e1 : (PySem.W.subIn K (.ref S) (.type "BaseException") == some true) = true := by rw [h1] <;> rfl
  have e2 : ((PySem.W.clsIn K S).isSome && PySem.W.typeIn K (.ref S) == some (.type "type")) = true := by
    have h2' : (PySem.W.clsIn K S).isSome = true := h2
    rw [h2', h3] <;> rfl
  show (if (PySem.W.subIn K (.ref S) (.type "BaseException") == some true) = true then (if ((PySem.W.clsIn K S).isSome && PySem.W.typeIn K (.ref S) == some (.type "type")) = true then PySem.W.subIn K (.ref C) (.ref S) else none) else none) = some b
  rw [if_pos e1, if_pos e2]
  exact h4
end
/-! ### a < b < c of whole numbers, as one answer -/
def MonoE (t : TE) : Prop := ∀ (σ : L2.St) (H : Hp) (Q Q' : VK), (∀ v H', Q v H' → Q' v H') → t σ H Q → t σ H Q'
theorem mn_var {i : Nat} : MonoE (tVar i) := fun _ _ _ _ k ⟨v, e, q⟩ => ⟨v, e, k _ _ q⟩
theorem mn_c {v : V} : MonoE (tC v) := fun _ _ _ _ k q => k _ _ q
theorem mn_I0 {g : Int → Int → V} {ta tb : TE} (a : MonoE ta) (b : MonoE tb) : MonoE (tOp (rI0 g) ta tb) := fun σ H Q Q' k h =>
  a σ H _ _ (fun _ H1 h1 => b σ H1 _ _ (fun _ _ ⟨i, j, e1, e2, q⟩ => ⟨i, j, e1, e2, k _ _ q⟩) h1) h
theorem mn_I {C : Int → Int → Prop} {g : Int → Int → V} {ta tb : TE} (a : MonoE ta) (b : MonoE tb) : MonoE (tOp (rI C g) ta tb) := fun σ H Q Q' k h =>
  a σ H _ _ (fun _ H1 h1 => b σ H1 _ _ (fun _ _ ⟨i, j, e1, e2, c, q⟩ => ⟨i, j, e1, e2, c, k _ _ q⟩) h1) h
theorem mn_ixL {K : PySem.W.Frag} {ta tb : TE} (a : MonoE ta) (b : MonoE tb) : MonoE (tOp (rIxL K) ta tb) := fun σ H Q Q' k h =>
  a σ H _ _ (fun _ H1 h1 => b σ H1 _ _ (fun _ _ ⟨p, xs, i, v, e1, e2, s, e, q⟩ => ⟨p, xs, i, v, e1, e2, s, e, k _ _ q⟩) h1) h
theorem mn_ixT {K : PySem.W.Frag} {ta tb : TE} (a : MonoE ta) (b : MonoE tb) : MonoE (tOp (rIxT K) ta tb) := fun σ H Q Q' k h =>
  a σ H _ _ (fun _ H1 h1 => b σ H1 _ _ (fun _ _ ⟨p, xs, i, v, e1, e2, s, e, q⟩ => ⟨p, xs, i, v, e1, e2, s, e, k _ _ q⟩) h1) h
theorem mn_len {r : List V → Hp → VK → Prop} {ta : TE} (a : MonoE ta) (hr : ∀ vs H (Q Q' : VK), (∀ v H', Q v H' → Q' v H') → r vs H Q → r vs H Q') : MonoE (tCB r (tCons ta tNil)) := fun σ H Q Q' k h =>
  a σ H _ _ (fun _ H1 h1 => hr _ _ _ _ k h1) h
def tChI (g g' : Int → Int → Bool) (ta tb tc : TE) : TE := fun σ H Q => ta σ H fun x H1 => tb σ H1 fun y H2 => tc σ H2 fun z H3 => ∃ i j l : Int, x = .int i ∧ y = .int j ∧ z = .int l ∧ H3 = H2 ∧ Q (.bl (g i j && g' j l)) H2
/-- what c's reading tells is told at once: c changes nothing -/
theorem tChI_to {g g' : Int → Int → Bool} {ta tb tc : TE} (ma : MonoE ta) (mb : MonoE tb) (mc : MonoE tc) {σ : L2.St} {H : Hp} {Q : VK} (cx : ∀ (σ : L2.St) (H : Hp) (Q : V → Hp → Prop), tc σ H Q → ∃ v H', Q v H') (h : tChI g g' ta tb tc σ H Q) :
    tChain (rI0 fun i j => .bl (g i j)) (rI0 fun i j => .bl (g' i j)) ta tb tc σ H Q := by
  refine ma σ H _ _ (fun x H1 h1 => mb σ H1 _ _ (fun y H2 h2 => ?_) h1) h
  obtain ⟨_, _, i, j, l, ex, ey, _, _, q⟩ := cx _ _ _ h2
  refine ⟨i, j, ex, ey, _, rfl, ?_⟩
  cases e : g i j with
  | true =>
    refine ifT rfl (mc σ H2 _ _ (fun z H3 h3 => ?_) h2)
    obtain ⟨i', j', l', ex', ey', ez, e3, q'⟩ := h3
    have e1 : i' = i := V.int.inj (ex'.symm.trans ex)
    have e2 : j' = j := V.int.inj (ey'.symm.trans ey)
    subst e1 e2 ez e3
    rw [e, Bool.true_and] at q'
    exact ⟨j', l', ey, rfl, q'⟩
  | false =>
    rw [e, Bool.false_and] at q
    exact ifF rfl q
def ShowsE (t : TE) : Prop := ∀ (σ : L2.St) (H : Hp) (Q : V → Hp → Prop), t σ H Q → ∃ v H', Q v H'
theorem sh_var {i : Nat} : ShowsE (tVar i) := fun _ _ _ ⟨v, _, q⟩ => ⟨v, _, q⟩
theorem sh_c {v : V} : ShowsE (tC v) := fun _ _ _ q => ⟨_, _, q⟩
theorem sh_I0 {g : Int → Int → V} {ta tb : TE} (a : ShowsE ta) (b : ShowsE tb) : ShowsE (tOp (rI0 g) ta tb) := fun σ H Q h => by
  obtain ⟨x, H1, h1⟩ := a _ _ _ h
  obtain ⟨y, H2, h2⟩ := b _ _ _ h1
  obtain ⟨i, j, _, _, q⟩ := h2
  exact ⟨_, _, q⟩
theorem sh_I {C : Int → Int → Prop} {g : Int → Int → V} {ta tb : TE} (a : ShowsE ta) (b : ShowsE tb) : ShowsE (tOp (rI C g) ta tb) := fun σ H Q h => by
  obtain ⟨x, H1, h1⟩ := a _ _ _ h
  obtain ⟨y, H2, h2⟩ := b _ _ _ h1
  obtain ⟨i, j, _, _, _, q⟩ := h2
  exact ⟨_, _, q⟩
theorem sh_ixL {K : PySem.W.Frag} {ta tb : TE} (a : ShowsE ta) (b : ShowsE tb) : ShowsE (tOp (rIxL K) ta tb) := fun σ H Q h => by
  obtain ⟨x, H1, h1⟩ := a _ _ _ h
  obtain ⟨y, H2, h2⟩ := b _ _ _ h1
  obtain ⟨_, _, _, _, _, _, _, _, q⟩ := h2
  exact ⟨_, _, q⟩
theorem sh_ixT {K : PySem.W.Frag} {ta tb : TE} (a : ShowsE ta) (b : ShowsE tb) : ShowsE (tOp (rIxT K) ta tb) := fun σ H Q h => by
  obtain ⟨x, H1, h1⟩ := a _ _ _ h
  obtain ⟨y, H2, h2⟩ := b _ _ _ h1
  obtain ⟨_, _, _, _, _, _, _, _, q⟩ := h2
  exact ⟨_, _, q⟩
theorem PE.weak {X : Cx} {e : Expr} {t t' : TE} (h : PE X e t) (w : ∀ σ H Q, t' σ H Q → t σ H Q) : PE X e t' := ⟨fun pins s σ H Q I q => h.run pins s σ H Q I (w _ _ _ q)⟩
theorem pe_chainI {X : Cx} {op op' : CmpOp} {g g' : Int → Int → Bool} {a b c : Expr} {ta tb tc : TE} {pos : Pos} (ho : OpR X (compareOp op) (rI0 fun i j => .bl (g i j))) (ho' : OpR X (compareOp op') (rI0 fun i j => .bl (g' i j)))
    (ha : PE X a ta) (hb : PE X b tb) (hc : PE X c tc) (ma : MonoE ta) (mb : MonoE tb) (mc : MonoE tc) (sc : ShowsE tc) (hm : lastMarks [op, op'] [b, c] = false := by rfl) : PE X (.Compare a [op, op'] [b, c] pos) (tChI g g' ta tb tc) :=
  PE.weak (pe_chain ho ho' ha hb hc hm) (fun _ _ _ h => tChI_to ma mb mc sc h)
/-! ### rules within a comprehension: the written part by its own name -/
section
variable {X : Cx} {K : PySem.W.Frag}
theorem ix_listK (h : X.K = K) : IxR X (rIxL K) := h ▸ ix_list
theorem ix_tupK (h : X.K = K) : IxR X (rIxT K) := h ▸ ix_tup
theorem sl_listK (h : X.K = K) : SlR X (rSlL K) := h ▸ sl_list
theorem call_len_seqK (h : X.K = K) : CallR X (.builtin "len") (fun xs H Q => ∃ p ys, xs = [.ref p] ∧ (SqL K H p ys ∨ SqT K H p ys) ∧ Q (.int ys.length) H) := h ▸ call_len_seq
end
section
variable {X : Cx} {K : PySem.W.Frag}
theorem call_isiB (h : X.K = K) : CallR X (.builtin "isinstance") (rIsi K) := h ▸ call_isi
end
section
variable {X : Cx} {K : PySem.W.Frag}
theorem op_neDK (h : X.K = K) (hu : X.A.units + 64 < cLine) : OpR X (compareOp .NotEq) (rNeD K) := h ▸ op_neD hu
theorem op_eqDK (h : X.K = K) (hu : X.A.units + 64 < cLine) : OpR X (compareOp .Eq) (rEqD K) := h ▸ op_eqD hu
end
section
variable {X : Cx} {K : PySem.W.Frag}
theorem op_inDK (h : X.K = K) (hu : X.A.units + 65 < cLine) : OpR X (compareOp .In) (rInD K) := h ▸ op_inD hu
end
/-! ### + of two lists, the script among them; + of two truths -/
theorem list_add_any (l : Addr) (items : Array Value) (n : Nat) (sl : Array (Option Value)) (b : Addr) (items2 : Array Value) (n2 : Nat) (sl2 : Array (Option Value)) (hc0 : items.size + items2.size ≤ sizeLine) :
    Meets (Builtin.«list.__add__» ⟨[.ref l, .ref b], []⟩) (fun _ R s => s.heap.get? l = some { cls := .type "list", dict := none, data := .seq items n, slots := sl } ∧ s.heap.get? b = some { cls := .type "list", dict := none, data := .seq items2 n2, slots := sl2 } ∧ R (.ok (.ret (Value.ref s.heap.objs.size))) { s with heap := s.heap.push { cls := Value.type "list", data := Data.seq (items ++ items2) } }) :=
  .of_wp fun prog w A R s h => by
    obtain ⟨hp, g, d, tk, os⟩ := s
    obtain ⟨hl, hb, h⟩ := h
    have f3 := AutoSeq1.sub_list_list
    wp_walk using AutoSeq1.wpAny_loadPart' hl, AutoSeq1.wpAny_loadPart' hb
    exact ⟨_, rfl, h⟩
def rCatF (K : PySem.W.Frag) : R2 := fun x y H Q => ∃ l b xs zs, x = .ref l ∧ y = .ref b ∧ SqL K H l xs ∧ SqL K H b zs ∧ xs.length + zs.length ≤ sizeLine ∧ ∀ p, H p = none → Q (.ref p) (upd H p (.lst (xs ++ zs)))
theorem op_catF {X : Cx} : OpR X (binaryOp .Add) (rCatF X.K) := by
  intro pins s σ H x y v u Q I rx ry h
  obtain ⟨l, b, xs, zs, rfl, rfl, hH, hB, hz, q⟩ := h
  cases rx
  cases ry
  obtain ⟨its, r, ⟨o, n, e, hc, hd, hs⟩, _⟩ := I.list hH
  obtain ⟨its2, r2, ⟨o2, n2, e2, hc2, hd2, hs2⟩, _⟩ := I.list hB
  obtain ⟨oc, od, odt, osl⟩ := o
  obtain ⟨oc2, od2, odt2, osl2⟩ := o2
  simp only at hc hd hs hc2 hd2 hs2
  subst hc hd hs hc2 hd2 hs2
  have l1 := r.length
  have l2 := r2.length
  refine PySem.concat_meets ⟨_, e, rfl⟩ ⟨_, e2, rfl⟩ PySem.noFill_list_add PySem.seq_list_add PySem.F.slot_list_add PySem.F.entry_list_add (PySem.F.args_list_add_2 _ _) (list_add_any l its.toArray n osl b its2.toArray n2 osl2 (by rw [List.size_toArray, List.size_toArray]; omega)) ⟨e, e2, ?_⟩
  have ea : its.toArray ++ its2.toArray = (its ++ its2).toArray := by simp
  rw [ea]
  exact ⟨.ref _, _, I.lnew (t' := s.toks) (r.append r2) (by rw [List.length_append]; omega), rfl, q _ I.fresh⟩
theorem give_bb (a b : Bool) : Gives (Builtin.«int.__add__» ⟨[.bool a, .bool b], []⟩) (.int ((if a = true then (1 : Int) else 0) + (if b = true then (1 : Int) else 0))) := .of_wp fun M A E s Q h => by
  obtain ⟨hp, g, d, tk, os⟩ := s
  wp_walk
  exact ⟨_, rfl, h⟩
theorem op_add_bb {X : Cx} : OpR X (binaryOp .Add) (fun x y H Q => ∃ i k, x = .bl i ∧ y = .bl k ∧ Q (.int ((if i = true then (1 : Int) else 0) + (if k = true then (1 : Int) else 0))) H) := by
  intro pins s σ H x y v u Q I rx ry h
  obtain ⟨i, k, rfl, rfl, q⟩ := h
  cases rx
  cases ry
  exact binaryOp_gives (op := .Add) (T := "bool") rfl rfl PySem.F.fills_bool_add PySem.F.slot_bool_add PySem.F.entry_int_add (PySem.F.args_int_add_2 _ _) (give_bb i k) trivial ⟨.int _, H, I.tok _, ⟨_, rfl⟩, q⟩
/-! ### a, *b = a tuple -/
theorem Walks.later {prog : Program} {w : World} {A : Around} {I : Addr} {fp wr : List Addr} {n : Nat} {P : Nat → Value → Prop} {St : Nat → Heap → Prop} (W : Walks prog w A I fp wr (n + 1) P St) :
    Walks prog w A I fp wr n (fun i => P (i + 1)) (fun i => St (i + 1)) where
  sub := W.sub
  frame i := W.frame (i + 1)
  item i s Q E hi st hQ := W.item (i + 1) s Q E (by omega) st hQ
  done s Q E st hQ := W.done s Q E st hQ
  self i := W.self (i + 1)
theorem unpack_star {prog : Program} {w : World} {A : Around} {E : Value → Shared → Prop} {s : Shared} {t : Addr} {x : Value} {xs : List Value} {Q : List Value → Shared → Prop} (hh : A.handled = none) (ht : IsTup s.heap t (x :: xs).toArray) (hz : xs.length ≤ sizeLine)
    (hQ : ∀ (h' : Heap) (tk : Nat), (∀ b o, s.heap.get? b = some o → h'.get? b = some o) → Q [x, .ref h'.objs.size] { s with heap := h'.push { cls := .type "list", data := .seq xs.toArray }, toks := tk }) :
    wpAny (model prog w) A (unpackItems (.ref t) 2 (some 1)) Q E s := by
  have hlt : t ≠ s.heap.objs.size := by
    obtain ⟨o, ho, _⟩ := ht
    exact Nat.ne_of_lt (Heap.lt_size ho)
  unfold unpackItems
  refine wpAny_bind ?_
  unfold notIterableAtAll
  refine wpAny_bind (wpAny_specialOf ht.typeIs slot_tuple_iter.lookup (wpAny_pure ?_))
  simp only [Bool.false_eq_true, if_false]
  refine wpAny_bind (wpAny_holding (iter_tuple ht (wpAny_bind (wpAny_holding (draw_tuple hlt 1 0 _ _ ⟨_, Heap.get?_push_size _ rfl, rfl, rfl⟩ (ht.push _) (by simp) fun h1 it1 same1 => ?_)))))
  have ht1 : IsTup h1 t (x :: xs).toArray := (ht.push _).extBut same1.extBut hlt
  have e1 : List.take 1 (List.drop 0 (x :: xs).toArray.toList) = [x] := rfl
  rw [e1, if_neg (by simp)]
  refine wpAny_bind (wpAny_holding ?_)
  have W := (Walks.later (Walks.tuple (prog := prog) (w := w) (A := A.in1) hh s.heap.objs.size t hlt (x :: xs).toArray)).toS
  have hbig : s.heap.objs.size < h1.objs.size := by
    obtain ⟨o, ho, _⟩ := it1
    exact Heap.lt_size ho
  refine wpAny_collect_iter (T := "tuple_iterator") (.inr (.inr (.inr rfl))) W (fun i s' st => st.1.typeIs) ⟨it1, ht1⟩ (fun b hb => ?_) (by simp) (fun s' acc mv items => ?_) hz
  · simp only [List.mem_cons, List.not_mem_nil, or_false] at hb
    obtain ⟨o, ho, _⟩ := id ht1
    rcases hb with rfl | rfl
    · exact hbig
    · exact Heap.lt_size ho
  · have el : acc.toList = xs := by
      refine List.ext_getElem (by simpa using items.1) fun j h2 h3 => ?_
      have := items.2 j acc.toList[j] (by simp)
      simpa [List.getElem?_eq_getElem h3] using this.symm
    rw [el, if_neg (by omega)]
    refine wpAny_bind (wpAny_newList ?_ )
    have em : List.take (xs.length - (2 - 1 - 1)) xs = xs := List.take_of_length_le (by omega)
    have ed : List.drop (xs.length - (2 - 1 - 1)) xs = [] := List.drop_of_length_le (by omega)
    rw [em, ed, Moved.eq_with mv]
    refine wpAny_pure (hQ s'.heap s'.toks fun b o e => ?_)
    have nb : b ≠ s.heap.objs.size := Nat.ne_of_lt (Heap.lt_size e)
    exact mv.heap b o (by simpa using nb) (same1.extBut b o nb (Heap.get?_push_of_some _ e))
def gStar (K : PySem.W.Frag) (g0 g1 : TG) : TG := fun v σ H Q => ∃ a x xs, v = .ref a ∧ SqT K H a (x :: xs) ∧ ∀ l, H l = none → g0 x σ (upd H l (.lst xs)) fun σ1 H1 => g1 (.ref l) σ1 H1 Q
theorem pg_star {X : Cx} {e0 e1 : Expr} {p pos : Pos} {k : Nat} {g0 g1 : TG} (hc : X.calm = true) (h0 : PG X e0 g0) (h1 : PG X e1 g1) (he : assignEach [e0, .Starred e1 p] X.env = [(false, assign e0 X.env), (true, assign e1 X.env)] := by rfl) :
    PG X (.Tuple [e0, .Starred e1 p] k pos) (gStar X.K g0 g1) := by
  constructor
  rintro pins s σ H v u Q I r ⟨a, x, xs, rfl, hq, hw⟩
  cases r
  obtain ⟨its, rv, ht, hz⟩ := I.tuple hq
  cases rv with
  | @cons _ y _ ys ry rys =>
    rw [assign_Tuple]
    refine wpAny_bind (wpAny_standAt ?_)
    unfold unpack
    rw [he]
    refine wpAny_bind (wpAny_holding (unpack_star (I.ok.hd hc) ht (by rw [← rys.length]; simp only [List.length] at hz; omega) fun h' tk kp => ?_))
    have I1 : Inv X pins σ H { s with heap := h', toks := tk } := I.kept kp
    have I2 := I1.lnew (t' := tk) rys (by simp only [List.length] at hz; omega)
    refine assignInOrder_cons (thn (h0.run pins _ σ _ _ _ _ I2 ry (hw _ I1.fresh)) fun _ s1 z => ?_)
    obtain ⟨σ1, H1, I3, q1⟩ := z
    refine assignInOrder_cons (thn (h1.run pins s1 σ1 H1 (.ref h'.objs.size) _ Q I3 rfl q1) fun _ s2 z => ?_)
    exact assignInOrder_nil z
/-! ### a class made of the things of a list -/
def tMakeS (K : PySem.W.Frag) (C : Addr) (sp : Sp) (E : XK) (te : TE) : TE := fun u G Q => te u G fun y G1 => ∃ a xs, y = .ref a ∧ (SqT K G1 a xs ∨ SqL K G1 a xs) ∧
  ∀ o d, G1 o = none → G1 d = none → d ≠ o → sp (.ref o :: xs) (upd (upd G1 d (.own o)) o (.ins C d [])) (fun v G2 => v = .non ∧ Q (.ref o) G2) E
theorem pe_makeS {X : Cx} {CT : CXT} {k : Nat} {f C : Addr} {fd : FuncData} {ps : List Str} {sp : Sp} {E : XK} {x : Str} {p q pos : Pos} {e : Expr} {te : TE} (M : Mk X.K C f) (F : FnOk X.prog X.w X.K X.mg X.base CT k f fd ps sp) (hr : Room (k + 1) X.A) (hg : Gl X x) (hm : X.mg x = some (.ref C)) (hb : Binds X.K fd ps []) (hx : Passes CT X E) (he : PE X e te)
    (nd : (x == ("__debug__" : Str)) = false := by decide) (hs : starEach [.Starred e q] X.env = [(true, eval e X.env)] := by rfl) : PE X (.Call (.Name x p) [.Starred e q] [] pos) (tMakeS X.K C sp E te) := by
  constructor
  intro pins s u G Q I h
  refine wpAny_Call_Name_kw (ld_glob I hg hm (PySem.W.callWith_S (h₀ := X.base) I.ok.mod.kin M.kp (thn (he.run pins s u G _ I h) ?_) hs) nd)
  rintro v s1 ⟨y, G1, I1, ry, a, xs, rfl, hxs, q⟩
  cases ry
  refine StX.star_any I1 hxs fun us s2 I2 rv => ⟨I2.kIn, ?_⟩
  refine run_make (dvs := []) M F hr hb .nil hx I2 rv fun o d h1 h2 h3 => ?_
  rw [List.append_nil]
  exact q o d h1 h2 h3
/-! ### a method of an object whose class is one of several -/
theorem pe_either {X : Cx} {e : Expr} {t u : TE} (h : PE X e t) (k : PE X e u) : PE X e (fun σ H Q => t σ H Q ∨ u σ H Q) := ⟨fun pins s σ H Q I q => q.elim (h.run pins s σ H Q I) (k.run pins s σ H Q I)⟩
/-! ### several clauses of one try, each with a name for the error or without -/
abbrev Suite := Addr → Value → Option Addr → TS
/-- what follows a suite whose error had the slot i -/
def offAt (i : Nat) (D : Ends) : Ends := { nx := fun u G => D.nx (u.set i none) G, rt := D.rt, bk := fun u G => D.bk (u.set i none) G, ct := fun u G => D.ct (u.set i none) G }
def wMix (K : PySem.W.Frag) (Wo : WX) (D : Ends) : List (Value × Option Nat × Suite) → WX
  | [] => Wo
  | (c, none, t) :: r => fun k d u G => ∃ y, PySem.W.exmOne K k c = some y ∧ (y = true → ∀ e, G e = none → t e k d D u G) ∧ (y = false → wMix K Wo D r k d u G)
  | (c, some i, t) :: r => fun k d u G => ∃ y, PySem.W.exmOne K k c = some y ∧ (y = true → ∀ e, G e = none → t e k d (offAt i D) (u.set i (some (.ref e))) G) ∧ (y = false → wMix K Wo D r k d u G)
inductive Clauses (X : Cx) : List ExceptHandler → List (Value × Option Nat × Suite) → Prop
  | nil : Clauses X [] []
  | bare {x : Str} {c : Value} {t : Suite} {b : Stmt} {bs : List Stmt} {p1 p2 : Pos} {hds l} (hc : Names X x c)
      (su : ∀ e oe k d pn, Zc k d oe → (∃ vs, oe.data = .fields vs) → PSs (X.suite e ((e, oe) :: pn)) (b :: bs) (t e k d)) (r : Clauses X hds l) :
      Clauses X (.ExceptHandler (some (.Name x p1)) none (b :: bs) p2 :: hds) ((c, none, t) :: l)
  | named {x n : Str} {c : Value} {i : Nat} {t : Suite} {b : Stmt} {bs : List Stmt} {p1 p2 : Pos} {hds l} (hN : X.N.Nodup) (hi : X.N[i]? = some n) (hl : X.env.kindOf n = some .local) (hc : Names X x c)
      (su : ∀ e oe k d pn, Zc k d oe → (∃ vs, oe.data = .fields vs) → PSs (X.suite e ((e, oe) :: pn)) (b :: bs) (t e k d)) (r : Clauses X hds l) :
      Clauses X (.ExceptHandler (some (.Name x p1)) (some n) (b :: bs) p2 :: hds) ((c, some i, t) :: l)
theorem ps_try_mix {X : Cx} {body : List Stmt} {h1 : ExceptHandler} {hds : List ExceptHandler} {l : List (Value × Option Nat × Suite)} {pos : Pos} {tb : WX → TS} {Wo : WX} (hs : X.stack = X.env :: X.outer) (hf : X.env.frame = some X.env.locals) (tk : Takes X Wo)
    (hb : ∀ W pn xe, Takes (X.tr pn xe) W → PassesOwn (model X.prog X.w) X.A X.env xe → PSs (X.tr pn xe) body (tb W)) (hh : Clauses X (h1 :: hds) l) :
    PS X (.Try body (h1 :: hds) [] [] pos) (fun D u G => tb (wMix X.K Wo D l) D u G) := by
  constructor
  intro pins s u G D I h
  have ok := I.ok
  have frm : X.A.frames = some (X.env :: X.outer) := by rw [ok.frames, hs]
  refine wpAny_Try_except (wpAny_mono ((hb (wMix X.K Wo D l) (X.pn ++ pins) (fun e s₁ => wpAny (model X.prog X.w) X.A (noteFrame e X.env) (fun _ s₂ => wpAny (model X.prog X.w) X.A (setFlight e none) (fun _ s₃ => wpAny (model X.prog X.w) X.A (handleBy e X.env (h1 :: hds)) (SP X pins D) X.xe s₃) X.xe s₂) X.xe s₁) (fun v s' xx => ?_) PassesOwn.looking).run [] s u G D (I.toTry _) h) (fun f s1 z => ?_) (fun _ _ z => z))
  · obtain ⟨e, B, sI, _, u', G', k, d, rfl, J0, nb, up, sky, na, os, ag, wish⟩ := xx
    have J : Inv X pins u' G' sI := J0.ofTry ok
    refine Sky.land Zc.steady frm hf (by rw [← hs]; exact sky) fun h3 fl up3 => ?_
    have up13 := up.trans up3
    obtain ⟨o3, _, g3, z3, d3⟩ := fl.there
    have far : e ∉ frs (X.env :: X.outer) := by
      intro m
      obtain ⟨_, o', g', no⟩ := fl.2.2.1.mem m
      cases g3.symm.trans g'
      exact no _ d3
    have nl : e ≠ X.env.locals := by
      intro z
      exact far (List.mem_filterMap.mpr ⟨X.env, List.mem_cons_self, by rw [hf, z]⟩)
    have nf : e ∉ X.fs := by
      intro m
      obtain ⟨v, hv, q⟩ := List.mem_filterMap.mp m
      exact far (List.mem_filterMap.mpr ⟨v, List.mem_cons_of_mem _ hv, q⟩)
    have J3 : Inv X pins u' G' { s' with heap := h3 } := J.landed nb fl.1 up13 os ag
    have S3 := J3.suite g3 d3 na nl nf
    have TY : PySem.W.Looks (model X.prog X.w) h3 (typeOf (.ref e)) k := fun _ _ _ _ kk q => wpAny_typeOf_ref (kk _ _ g3) (z3.1 ▸ q)
    have name : ∀ {x : Str} {c : Value} {p1 : Pos}, Names X x c → ∀ {Q : Value → Shared → Prop} {E : Value → Shared → Prop}, Q c { s' with heap := h3 } → wpAny (model X.prog X.w) (X.A.mark (some (.ref e))) (eval (.Name x p1) X.env) Q E { s' with heap := h3 } := by
      rintro x c p1 ⟨g, nd, m | ⟨m, bv, nn⟩⟩ Q E q
      · exact ld_glob (X := X.suite e ((e, o3) :: (X.pn ++ pins))) S3 g m q nd
      · exact ld_blt (X := X.suite e ((e, o3) :: (X.pn ++ pins))) S3 g m bv q nn nd
    suffices go : ∀ {hd : List ExceptHandler} {l' : List (Value × Option Nat × Suite)}, Clauses X hd l' → wMix X.K Wo D l' k d u' G' → wpAny (model X.prog X.w) X.A (handleBy (.ref e) X.env hd) (SP X pins D) X.xe { s' with heap := h3 } from go hh wish
    intro hd l' cl
    induction cl with
    | nil =>
      intro wi
      refine wpAny_handleBy_nil ?_
      obtain ⟨_, _, _, oe, vs, T, oT, tt, he, hz, hdd, hT, hr⟩ := id fl
      unfold PySem.passOn
      refine wpAny_bind (wpAny_field he hdd hT ?_)
      rw [if_neg (by simp : ¬ ((Value.ref T == Value.none) = true))]
      have last : wpAny (model X.prog X.w) X.A (setFlight (.ref e) X.env.frame) (fun _ s4 => wpAny (model X.prog X.w) X.A (throw (.ref e) : Sem Flow) (SP X pins D) X.xe s4) X.xe { s' with heap := h3 } := by
        rw [hf]
        refine HandSPX.setFlight_upZ fl fun h4 hh4 up4 => wpAny_throw (tk _ _ ⟨e, B, sI, pins, u', G', k, d, rfl, J, nb, up13.trans up4, .inr (.inr ?_), na, os, ag, wi⟩)
        rw [hs]; exact hh4
      first | exact wpAny_bind (wpAny_pure (wpAny_bind last)) | exact wpAny_bind last
    | bare hc su r ih =>
      rintro ⟨y, ey, yes, no⟩
      refine wpAny_handleBy_cons (codeAny_handlers_test (name hc ((PySem.W.exm_one (M := model X.prog X.w) J3.kIn TY ey).here ?_))) (fun q => by cases q)
      cases y with
      | false => exact ih (no rfl)
      | true =>
        refine codeAny_handlers_suite (HandSPX.lands_againZ fl fun h4 fl4 up4 => ?_)
        obtain ⟨o4, _, g4, z4, d4⟩ := fl4.there
        have S4 := (J.landed (s' := { s' with heap := h4 }) nb fl4.1 (up13.trans up4) os ag).suite g4 d4 na nl nf
        refine wpAny_mono ((su e o4 k d (X.pn ++ pins) z4 ⟨_, d4⟩).run [] _ _ G' _ S4 (yes rfl e na)) (fun f s6 z => ?_) (fun _ _ z => z.elim)
        cases f with
        | ret v => obtain ⟨v6, u6, G6, S6, r6, q6⟩ := z; exact ⟨v6, u6, G6, S6.unsuite ok, r6, q6⟩
        | _ => obtain ⟨u6, G6, S6, q6⟩ := z; exact ⟨u6, G6, S6.unsuite ok, q6⟩
    | @named _ n c i _ _ _ _ p2 _ _ hN hi hl hc su r ih =>
      rintro ⟨y, ey, yes, no⟩
      refine wpAny_handleBy_cons (codeAny_handlers_test (name hc ((PySem.W.exm_one (M := model X.prog X.w) J3.kIn TY ey).here ?_))) (fun q => by cases q)
      cases y with
      | false => exact ih (no rfl)
      | true =>
        refine codeAny_handlers_suite_as (HandSPX.lands_againZ fl fun h4 fl4 up4 => ?_)
        obtain ⟨o4, _, g4, z4, d4⟩ := fl4.there
        have S4 := (J.landed (s' := { s' with heap := h4 }) nb fl4.1 (up13.trans up4) os ag).suite g4 d4 na nl nf
        refine store_ok (X := X.suite e ((e, o4) :: (X.pn ++ pins))) (v := .ref e) S4 hN hi (.inl hl) rfl (fun s5 S5 => wpAny_mono ((su e o4 k d (X.pn ++ pins) z4 ⟨_, d4⟩).run [] s5 _ G' _ S5 (yes rfl e na)) (fun f s6 z => ?_) (fun _ _ z => z.elim)) (.inr hl)
        have off : ∀ {u6 : L2.St} {G6 : Hp} {Q : Shared → Prop}, Inv (X.suite e ((e, o4) :: (X.pn ++ pins))) [] u6 G6 s6 → (∀ s7, Inv X pins (u6.set i none) G6 s7 → Q s7) → wpAny (model X.prog X.w) X.A (do bindName X.env n .none; unbindBehindTheSuite X.env n p2) (fun _ s7 => Q s7) X.xe s6 := fun S6 hq => gone_ok (S6.unsuite ok) hN hi hl hq
        cases f with
        | ret v => obtain ⟨v6, u6, G6, S6, r6, q6⟩ := z; exact off S6 fun s7 J7 => ⟨v6, _, G6, J7, r6, q6⟩
        | _ => obtain ⟨u6, G6, S6, q6⟩ := z; exact off S6 fun s7 J7 => ⟨_, G6, J7, q6⟩
  · cases f with
    | next => obtain ⟨u6, G6, J6, q6⟩ := z; exact wpAny_execs_nil ⟨u6, G6, J6.ofTry ok, q6⟩
    | ret v => obtain ⟨v6, u6, G6, J6, r6, q6⟩ := z; exact ⟨v6, u6, G6, J6.ofTry ok, r6, q6⟩
    | _ => obtain ⟨u6, G6, J6, q6⟩ := z; exact ⟨u6, G6, J6.ofTry ok, q6⟩
/-! ### isinstance of a caught error, of one class of several -/
def rIsEs (K : PySem.W.Frag) (k : Value) (d : Option Addr) (e : Addr) : List V → Hp → VK → Prop := fun xs H Q =>
  ∃ (D tp : Addr) (cs : List V) (us : List Value) (b : Bool), k = .ref D ∧ d = none ∧ ExcC K D ∧ xs = [.ref e, .ref tp] ∧ H tp = some (.tup cs) ∧ Paired ClsV cs us ∧ PySem.W.kitAny K (.ref D) us = some b ∧ Q (.bl b) H
theorem call_isEs {X : Cx} {K : PySem.W.Frag} {e : Addr} {oe : Obj} {k : Value} {d : Option Addr} {pn : List (Addr × Obj)} (hK : X.K = K) (hz : Zc k d oe) (hf : ∃ vs, oe.data = .fields vs) : CallR (X.suite e ((e, oe) :: pn)) (.builtin "isinstance") (rIsEs K k d e) := by
  subst hK
  intro pins s σ H xs us Q I r h
  obtain ⟨D, tp, cs, ws, b, rfl, rfl, C, rfl, hT, pr, ka, q⟩ := h
  obtain ⟨u1, u2, rfl, r1, r2⟩ := vals2 r
  cases r1
  cases (show u2 = Value.ref tp from r2)
  obtain ⟨_, its, rv, o, o1, o2, n, o3⟩ := (show ObjOk _ _ H s.heap tp (.tup cs) from I.hok tp _ hT)
  have eq := ClsV.all pr rv
  subst eq
  obtain ⟨oc, od, dt, sl⟩ := o
  simp only at o2 o3
  subst o2 o3
  obtain ⟨vs, hv⟩ := hf
  have there := (I.pin (e, oe) (List.mem_append.mpr (.inl List.mem_cons_self))).1
  have J : PySem.W.InstAt s.heap e oe D none := by
    obtain ⟨_, _, _, _⟩ := oe
    obtain ⟨z1, z2⟩ := hz
    dsimp only at z1 z2 hv
    subst z1 z2 hv
    exact ⟨there, rfl, rfl, trivial⟩
  exact PySem.W.kia_tup (PySem.W.handS_kitx_exc C.hg C.hk C.hs C.hd C.ha C.hn C.ht C.hm) I.kIn J o1 ka (fun z => nomatch z) fun tk => ⟨.bl b, H, I.kept (t' := tk) fun _ _ z => z, rfl, q⟩
/-! ### isinstance of a caught error, whatever its class -/
theorem call_isE2 {X : Cx} {K : PySem.W.Frag} {a : Addr} {oe : Obj} {cls : Value} {d : Option Addr} {pn : List (Addr × Obj)} (hK : X.K = K) (hz : Zc cls d oe) (hf : ∃ vs, oe.data = .fields vs) :
    CallR (X.suite a ((a, oe) :: pn)) (.builtin "isinstance") (fun xs H Q => ∃ D, cls = .ref D ∧ d = none ∧ ExcC K D ∧ rIsE K D a xs H Q) := by
  subst hK
  intro pins s σ H xs us Q I r h
  obtain ⟨D, rfl, rfl, C, h⟩ := h
  exact call_isE C hz hf pins s σ H xs us Q I r h
/-! ### a call of what a slot holds, inside a try -/
def tCallLS (W : WX) (i : Nat) (f : Addr) (sp : Sp) (t : TA) : TE := fun u G Q => u[i]? = some (some (.ref f)) ∧ t u G fun vs G1 => sp vs G1 Q (WE W u)
theorem pe_callLS {X : Cx} {C : CXT} {k i : Nat} {f : Addr} {fd : FuncData} {ps : List Str} {sp : Sp} {W : WX} {x : Str} {p pos : Pos} {e : Expr} {es : List Expr} {t : TA} (F : FnOk X.prog X.w X.K X.mg X.base C k f fd ps sp) (hr : Room k X.A) (hN : X.N[i]? = some x) (hv : Vis X.env.scope x)
    (hk : PySem.W.keepIn X.K (.ref f) = true) (hb : Binds X.K fd ps []) (hx : ∀ u, PassesAt C X u (WE W u)) (ha : PA X (e :: es) t) (n1 : (x == ("__debug__" : Str)) = false := by decide) (n2 : (x == ("__classdict__" : Str)) = false := by decide)
    (he : starEach (e :: es) X.env = (false, eval e X.env) :: starEach es X.env := by rfl) (hp : (backTo pos (starEach es X.env)).any (·.1) = false := by rfl) : PE X (.Call (.Name x p) (e :: es) [] pos) (tCallLS W i f sp t) := by
  constructor
  rintro pins s u G Q I ⟨hs, ht⟩
  refine wpAny_Call_Name_kw (thn ((pe_var (pos := p) hN hv n1 n2).run pins s u G (fun v G1 => v = .ref f ∧ G1 = G) I ⟨.ref f, hs, rfl, rfl⟩) ?_)
  rintro v s1 ⟨_, _, I1, r1, rfl, rfl⟩
  cases r1
  refine PySem.W.callWith_K (h₀ := X.base) I.ok.mod.kin hk (thn (ha.run pos pins s1 u _ _ I1 ht) fun us s2 z => ?_) he hp
  obtain ⟨vs, G2, I2, r, q⟩ := z
  exact ⟨I2.kIn, run_fnS (E := WE W) F hr hb (hx u) I2 r q⟩
/-! ### a list is made longer by a tuple -/
def rExtT (K : PySem.W.Frag) : V → List V → Hp → VK → Prop := fun x vs G Q => ∃ l b xs zs, x = .ref l ∧ vs = [.ref b] ∧ G l = some (.lst xs) ∧ SqT K G b zs ∧ xs.length + zs.length ≤ sizeLine ∧ Q .non (upd G l (.lst (xs ++ zs)))
theorem ext_tup {l b : Addr} {xs ys : Array Value} {n m : Nat} {dd : Option Addr} {sl : Array (Option Value)} (h0 : ¬(!xs.isEmpty && Builtin.List.listTooLong (xs.size + ys.size)) = true) (h1 : xs.size ≤ sizeLine) (h2 : xs.size + ys.size ≤ sizeLine + 1) :
    Meets (Builtin.«list.extend» ⟨[.ref l, .ref b], []⟩) (fun _ R sh => sh.heap.get? l = some { cls := .type "list", data := .seq xs n } ∧ sh.heap.get? b = some ⟨.type "tuple", dd, .seq ys m, sl⟩ ∧ R (.ok (.ret Value.none)) { sh with heap := sh.heap.update l (Obj.mapSeq (· ++ ys)), toks := sh.toks }) := by
  refine .of_wp fun prog w A R sh q => ?_
  obtain ⟨hp, g, d, tk, os⟩ := sh
  obtain ⟨ql, qb, qr⟩ := q
  have e1 := PySem.AutoSeq1.idx_int
  have e2 := PySem.AutoSeq1.sub_tuple_tuple
  have e3 := PySem.AutoSeq1.sub_list_list
  have e4 := PySem.AutoSeq1.sub_tuple_list
  have e5 := PySem.AutoSeq1.sub_list_tuple
  have hz : (xs ++ ys).size ≤ sizeLine + 1 := Nat.le_trans (Nat.le_of_eq Array.size_append) h2
  wp_walk using (wpAny_updateSeq ql rfl (hz := h1) (_hz' := hz)), wpAny_loadPart' ql, wpAny_loadPart' qb
  exact ⟨_, rfl, qr⟩
theorem mt_extT {X : Cx} : MtM X "list.extend" (rExtT X.K) := by
  rintro pins s u G x vs v us Q J rx rv ⟨l, b, xs, zs, rfl, rfl, hl0, hb0, hz, q⟩
  cases rx
  obtain ⟨w, rfl, ru⟩ := rv.one
  cases ru
  obtain ⟨_, ia, na, ra, la, ea⟩ := J.lstM hl0
  obtain ⟨ib, rb, tb, lb⟩ := J.tuple hb0
  obtain ⟨⟨oc, od, dt, sl⟩, eb, cb, nb, db⟩ := tb
  simp only at cb db
  subst cb db
  have small : ia.toArray.size + ib.toArray.size ≤ sizeLine := by
    rw [List.size_toArray, List.size_toArray]
    have := rb.length
    omega
  have open_ : ¬ (!ia.toArray.isEmpty && Builtin.List.listTooLong (ia.toArray.size + ib.toArray.size)) = true := by
    rw [notLongL small, Bool.and_false]
    decide
  refine call_meets F.slot_list_extend ⟨_, ea, rfl⟩ F.entry_list_extend (F.args_list_extend_2 _ _) (ext_tup open_ (by rw [List.size_toArray]; omega) (by omega)) ⟨ea, eb, ?_⟩
  refine ⟨.non, _, J.lset (its' := ia ++ ib) hl0 ea (by simp) (ra.append rb) ?_, rfl, q⟩
  rw [List.length_append]
  exact hz
theorem room65 {k : Nat} {A : Around} (r : Room k A) : A.units + 65 < cLine := by have := r.un; omega
/-! ## the data layer: what stands in frozen parts of the heap as plain data, what is still written to as cells -/
inductive D where
  | non
  | bl (b : Bool)
  | int (i : Int)
  | str (x : Str)
  | tup (xs : List D)
  | lst (xs : List D)
  | scr (xs : List D)
  | obj (C : Addr) (ns : List Str) (ds : List D)
  | dic
  | ty (n : String)
  | cls (C : Addr)
mutual
/-- in the frozen heap G the value v is the data d -/
inductive Rep (K : PySem.W.Frag) (G : Hp) : D → V → Prop
  | non : Rep K G .non .non
  | bl (b : Bool) : Rep K G (.bl b) (.bl b)
  | int (i : Int) : Rep K G (.int i) (.int i)
  | str (x : Str) : Rep K G (.str x) (.str x)
  | tup {a : Addr} {vs : List V} {ds : List D} : SqT K G a vs → Reps K G ds vs → Rep K G (.tup ds) (.ref a)
  | lst {a : Addr} {vs : List V} {ds : List D} : G a = some (.lst vs) → Reps K G ds vs → Rep K G (.lst ds) (.ref a)
  | scr {a : Addr} {vs : List V} {ds : List D} : SqL K G a vs → Reps K G ds vs → Rep K G (.scr ds) (.ref a)
  | obj {a C dx : Addr} {ns : List Str} {vs : List V} {ds : List D} : G a = some (.ins C dx (ns.zip vs)) → ns.length = ds.length → Reps K G ds vs → Rep K G (.obj C ns ds) (.ref a)
  | dic {a : Addr} {kvs : List (Key × V)} : G a = some (.dK kvs) → Rep K G .dic (.ref a)
  | ty (n : String) : Rep K G (.ty n) (.ty n)
  | cls (C : Addr) : Rep K G (.cls C) (.ref C)
inductive Reps (K : PySem.W.Frag) (G : Hp) : List D → List V → Prop
  | nil : Reps K G [] []
  | cons {d : D} {ds : List D} {v : V} {vs : List V} : Rep K G d v → Reps K G ds vs → Reps K G (d :: ds) (v :: vs)
end
section
variable {K : PySem.W.Frag} {G G' H : Hp} {v : V} {vs : List V} {d : D} {ds : List D}
theorem Rep.nonE (h : Rep K G .non v) : v = .non := by cases h; rfl
theorem Rep.blE {b : Bool} (h : Rep K G (.bl b) v) : v = .bl b := by cases h; rfl
theorem Rep.intE {i : Int} (h : Rep K G (.int i) v) : v = .int i := by cases h; rfl
theorem Rep.strE {x : Str} (h : Rep K G (.str x) v) : v = .str x := by cases h; rfl
theorem Rep.tupE (h : Rep K G (.tup ds) v) : ∃ a vs, v = .ref a ∧ SqT K G a vs ∧ Reps K G ds vs := by cases h with | tup a b => exact ⟨_, _, rfl, a, b⟩
theorem Rep.lstE (h : Rep K G (.lst ds) v) : ∃ a vs, v = .ref a ∧ G a = some (.lst vs) ∧ Reps K G ds vs := by cases h with | lst a b => exact ⟨_, _, rfl, a, b⟩
theorem Rep.scrE (h : Rep K G (.scr ds) v) : ∃ a vs, v = .ref a ∧ SqL K G a vs ∧ Reps K G ds vs := by cases h with | scr a b => exact ⟨_, _, rfl, a, b⟩
theorem Rep.objE {C : Addr} {ns : List Str} (h : Rep K G (.obj C ns ds) v) : ∃ a dx vs, v = .ref a ∧ G a = some (.ins C dx (ns.zip vs)) ∧ ns.length = ds.length ∧ Reps K G ds vs := by cases h with | obj a b c => exact ⟨_, _, _, rfl, a, b, c⟩
theorem Rep.dicE (h : Rep K G .dic v) : ∃ a kvs, v = .ref a ∧ G a = some (.dK kvs) := by cases h with | dic a => exact ⟨_, _, rfl, a⟩
theorem Reps.nilE (h : Reps K G [] vs) : vs = [] := by cases h; rfl
theorem Reps.consE (h : Reps K G (d :: ds) vs) : ∃ v ws, vs = v :: ws ∧ Rep K G d v ∧ Reps K G ds ws := by cases h with | cons a b => exact ⟨_, _, rfl, a, b⟩
theorem Same.seqT {a : Addr} {xs : List V} (e : Same G G') (h : SqT K G a xs) : SqT K G' a xs := by
  rcases h with (h | ⟨o, h⟩) | h
  · exact .inl (.inl (e _ _ h))
  · exact .inl (.inr ⟨o, e _ _ h⟩)
  · exact .inr h
mutual
theorem Rep.mono (s : Same G G') : ∀ (d : D) (v : V), Rep K G d v → Rep K G' d v
  | .non, _, h => by cases h; exact .non
  | .bl _, _, h => by cases h; exact .bl _
  | .int _, _, h => by cases h; exact .int _
  | .str _, _, h => by cases h; exact .str _
  | .tup ds, _, h => by cases h with | tup a b => exact .tup (Same.seqT s a) (Reps.mono s ds _ b)
  | .lst ds, _, h => by cases h with | lst a b => exact .lst (s _ _ a) (Reps.mono s ds _ b)
  | .scr ds, _, h => by cases h with | scr a b => exact .scr (Same.seq s a) (Reps.mono s ds _ b)
  | .obj C ns ds, _, h => by cases h with | obj a b c => exact .obj (s _ _ a) b (Reps.mono s ds _ c)
  | .dic, _, h => by cases h with | dic a => exact .dic (s _ _ a)
  | .ty _, _, h => by cases h; exact .ty _
  | .cls _, _, h => by cases h; exact .cls _
theorem Reps.mono (s : Same G G') : ∀ (ds : List D) (vs : List V), Reps K G ds vs → Reps K G' ds vs
  | [], _, h => by cases h; exact .nil
  | d :: ds, _, h => by cases h with | cons a b => exact .cons (Rep.mono s d _ a) (Reps.mono s ds _ b)
end
theorem Reps.length : ∀ {ds : List D} {vs : List V}, Reps K G ds vs → vs.length = ds.length
  | [], _, h => by cases h; rfl
  | _ :: _, _, h => by cases h with | cons _ b => exact congrArg (· + 1) (Reps.length b)
theorem Reps.get : ∀ {ds : List D} {vs : List V} {i : Nat} {d : D}, Reps K G ds vs → ds[i]? = some d → ∃ v, vs[i]? = some v ∧ Rep K G d v
  | [], _, _, _, _, e => by simp at e
  | _ :: _, _, 0, _, h, e => by cases h with | cons a _ => simp at e; subst e; exact ⟨_, rfl, a⟩
  | _ :: _, _, i + 1, _, h, e => by
    cases h with
    | cons _ b =>
      obtain ⟨v, q, r⟩ := Reps.get (i := i) b (by simpa using e)
      exact ⟨v, by simpa using q, r⟩
theorem Reps.append : ∀ {ds es : List D} {vs ws : List V}, Reps K G ds vs → Reps K G es ws → Reps K G (ds ++ es) (vs ++ ws)
  | [], _, _, _, h, k => by cases h; exact k
  | _ :: _, _, _, _, h, k => by cases h with | cons a b => exact .cons a (b.append k)
theorem Reps.drop : ∀ {ds : List D} {vs : List V} (n : Nat), Reps K G ds vs → Reps K G (ds.drop n) (vs.drop n)
  | _, _, 0, h => h
  | [], _, _ + 1, h => by cases h; exact .nil
  | _ :: _, _, n + 1, h => by cases h with | cons _ b => exact Reps.drop n b
theorem Reps.take : ∀ {ds : List D} {vs : List V} (n : Nat), Reps K G ds vs → Reps K G (ds.take n) (vs.take n)
  | _, _, 0, _ => .nil
  | [], _, _ + 1, h => by cases h; exact .nil
  | _ :: _, _, n + 1, h => by cases h with | cons a b => exact .cons a (Reps.take n b)
theorem Reps.set {d : D} {v : V} (r : Rep K G d v) : ∀ {ds : List D} {vs : List V} (i : Nat), Reps K G ds vs → Reps K G (ds.set i d) (vs.set i v)
  | [], _, _, h => by cases h; exact .nil
  | _ :: _, _, 0, h => by cases h with | cons _ b => exact .cons r b
  | _ :: _, _, i + 1, h => by cases h with | cons a b => exact .cons a (Reps.set r i b)
theorem Reps.reverse {ds : List D} {vs : List V} (h : Reps K G ds vs) : Reps K G ds.reverse vs.reverse := by
  induction ds generalizing vs with
  | nil => cases h; exact .nil
  | cons d ds ih => cases h with | cons a b => rw [List.reverse_cons, List.reverse_cons]; exact (ih b).append (.cons a .nil)
theorem Reps.rep {ds : List D} {vs : List V} (h : Reps K G ds vs) : ∀ n : Nat, Reps K G (List.replicate n ds).flatten (List.replicate n vs).flatten
  | 0 => .nil
  | n + 1 => by rw [List.replicate_succ, List.replicate_succ, List.flatten_cons, List.flatten_cons]; exact h.append (Reps.rep h n)
theorem Reps.ofV {ns : List Int} : Reps K G (ns.map D.int) (ns.map V.int) := by
  induction ns with
  | nil => exact .nil
  | cons n ns ih => exact .cons (.int n) ih
end
/-! no list and no object within: it can't hold a list that is still written to -/
mutual
def hard : D → Bool
  | .tup ds => hards ds
  | .lst _ => false
  | .scr _ => false
  | .obj _ _ ds => hards ds
  | _ => true
def hards : List D → Bool
  | [] => true
  | d :: ds => hard d && hards ds
end
section
variable {K : PySem.W.Frag} {G G' : Hp}
theorem SqT.hard {a : Addr} {vs : List V} (s : ∀ a o, G a = some o → (G' a = some o) ∨ (∃ xs, o = .lst xs)) (h : SqT K G a vs) : SqT K G' a vs := by
  rcases h with (h | ⟨o, h⟩) | h
  · rcases s _ _ h with z | ⟨xs, z⟩
    · exact .inl (.inl z)
    · cases z
  · rcases s _ _ h with z | ⟨xs, z⟩
    · exact .inl (.inr ⟨o, z⟩)
    · cases z
  · exact .inr h
mutual
theorem Rep.hard (s : ∀ a o, G a = some o → (G' a = some o) ∨ (∃ xs, o = .lst xs)) : ∀ (d : D) (v : V), LK.hard d = true → Rep K G d v → Rep K G' d v
  | .non, _, _, h => by cases h; exact .non
  | .bl _, _, _, h => by cases h; exact .bl _
  | .int _, _, _, h => by cases h; exact .int _
  | .str _, _, _, h => by cases h; exact .str _
  | .tup ds, _, k, h => by cases h with | tup a b => exact .tup (SqT.hard s a) (Reps.hard s ds _ (by rw [LK.hard] at k; exact k) b)
  | .lst ds, _, k, h => by rw [LK.hard] at k; cases k
  | .scr ds, _, k, h => by rw [LK.hard] at k; cases k
  | .obj C ns ds, _, k, h => by
    cases h with
    | obj a b c =>
      rcases s _ _ a with z | ⟨xs, z⟩
      · exact .obj z b (Reps.hard s ds _ (by rw [LK.hard] at k; exact k) c)
      · cases z
  | .dic, _, k, h => by
    cases h with
    | dic a =>
      rcases s _ _ a with z | ⟨xs, z⟩
      · exact .dic z
      · cases z
  | .ty _, _, _, h => by cases h; exact .ty _
  | .cls _, _, _, h => by cases h; exact .cls _
theorem Reps.hard (s : ∀ a o, G a = some o → (G' a = some o) ∨ (∃ xs, o = .lst xs)) : ∀ (ds : List D) (vs : List V), hards ds = true → Reps K G ds vs → Reps K G' ds vs
  | [], _, _, h => by cases h; exact .nil
  | d :: ds, _, k, h => by
    cases h with
    | cons a b =>
      rw [hards, Bool.and_eq_true] at k
      exact .cons (Rep.hard s d _ k.1 a) (Reps.hard s ds _ k.2 b)
end
end
/-- an item of a tuple that holds cells -/
inductive TN where
  | dat (d : D)
  | cel (j : Nat)
  | tup (xs : List TN)
/-- what a slot holds: data, or a cell, or a tuple that holds cells -/
inductive AV where
  | dat (d : D)
  | cel (j : Nat)
  | tup (xs : List TN)
/-- what else may be written to: what is known of it, by the frozen heap -/
structure CellX where
  ok : Hp → Addr → HO → Prop
  mono : ∀ {G G' : Hp} (s : ∀ a o, G a = some o → (G' a = some o) ∨ (∃ xs, o = .lst xs)) {a : Addr} {o : HO}, ok G a o → ok G' a o
/-- a private part of the heap: T what stands in it, a its root; what is known of it, by the frozen heap G -/
structure RegX where
  ok : Hp → Hp → Addr → Prop
  mono : ∀ {T G G' : Hp} {a : Addr} (s : ∀ a o, G a = some o → (G' a = some o) ∨ (∃ xs, o = .lst xs)), ok T G a → ok T G' a
/-- a list of scalars and pointers, of which the address is known -/
def lstX (c : Addr) (ds : List D) : CellX where
  ok _ a o := a = c ∧ ∃ vs, o = .lst vs ∧ ∀ (K : PySem.W.Frag) (G : Hp), Reps K G ds vs
  mono := by intro _ _ _ _ _ h; exact h
/-- an object of such fields, of which the address is known -/
def insX (g C : Addr) (ns : List Str) (ds : List D) : CellX where
  ok _ a o := a = g ∧ ∃ dx vs, o = .ins C dx (ns.zip vs) ∧ ns.length = ds.length ∧ ∀ (K : PySem.W.Frag) (G : Hp), Reps K G ds vs
  mono := by intro _ _ _ _ _ h; exact h
/-- scalars and pointers -/
def atom : D → Bool
  | .non => true | .bl _ => true | .int _ => true | .str _ => true | .ty _ => true | .cls _ => true
  | _ => false
def atoms : List D → Bool
  | [] => true
  | d :: ds => atom d && atoms ds
theorem Rep.atom {K K' : PySem.W.Frag} {G G' : Hp} {d : D} {v : V} (h : LK.atom d = true) (r : Rep K G d v) : Rep K' G' d v := by
  cases d with
  | non => cases r; exact .non
  | bl => cases r; exact .bl _
  | int => cases r; exact .int _
  | str => cases r; exact .str _
  | ty => cases r; exact .ty _
  | cls => cases r; exact .cls _
  | _ => cases h
theorem Reps.atoms {K K' : PySem.W.Frag} {G G' : Hp} : ∀ {ds : List D} {vs : List V}, LK.atoms ds = true → Reps K G ds vs → Reps K' G' ds vs
  | [], _, _, r => by cases r; exact .nil
  | d :: ds, _, h, r => by
    rw [LK.atoms, Bool.and_eq_true] at h
    cases r with
    | cons a b => exact .cons (Rep.atom h.1 a) (Reps.atoms h.2 b)
/-- what is still written to -/
inductive Cell where
  | reg (t : Option Addr) (X : RegX)
  | oth (X : CellX)
  | gone
  | lst (ds : List D)
  | drw
  | ins (C : Addr) (ns : List Str) (ds : List D)
def IsSt (xs : List V) : Prop := (∃ x, xs = [.int x]) ∨ ∃ x y z, xs = [.int x, .int y, .int z]
structure En where
  sl : List (Option AV)
  ce : List Cell
/-- what stands ahead of the def's call, the data it was handed, what is wanted of its errors -/
structure Fx where
  Fr : Hp
  G0 : Hp
  E : XK
  ex : Addr → Prop
  hE : ∀ C H, ex C → Same Fr H → E (.ref C) none H
  fr : V → Prop
  as0 : List Addr
mutual
inductive TNr (K : PySem.W.Frag) (G : Hp) (as : List Addr) : TN → V → Prop
  | dat {d : D} {v : V} : Rep K G d v → TNr K G as (.dat d) v
  | cel {j : Nat} {a : Addr} : as[j]? = some a → TNr K G as (.cel j) (.ref a)
  | tup {xs : List TN} {a : Addr} {vs : List V} : SqT K G a vs → TNs K G as xs vs → TNr K G as (.tup xs) (.ref a)
inductive TNs (K : PySem.W.Frag) (G : Hp) (as : List Addr) : List TN → List V → Prop
  | nil : TNs K G as [] []
  | cons {x : TN} {xs : List TN} {v : V} {vs : List V} : TNr K G as x v → TNs K G as xs vs → TNs K G as (x :: xs) (v :: vs)
end
def RepA (K : PySem.W.Frag) (G : Hp) (as : List Addr) : AV → V → Prop
  | .dat d, v => Rep K G d v
  | .cel j, v => ∃ a, as[j]? = some a ∧ v = .ref a
  | .tup xs, v => ∃ a vs, v = .ref a ∧ SqT K G a vs ∧ TNs K G as xs vs
def CellOk (K : PySem.W.Frag) (G H : Hp) (a : Addr) : Cell → Prop
  | .gone => True
  | .reg _ _ => G a = none
  | .lst ds => G a = none ∧ ∃ vs, H a = some (.lst vs) ∧ Reps K G ds vs
  | .drw => G a = none ∧ ∃ xs, H a = some (.lst xs) ∧ IsSt xs
  | .oth X => G a = none ∧ ∃ o, H a = some o ∧ X.ok G a o
  | .ins C ns ds => G a = none ∧ ∃ dx vs, H a = some (.ins C dx (ns.zip vs)) ∧ ns.length = ds.length ∧ Reps K G ds vs
/-- the private parts: apart from one another, from the frozen heap and from all other cells -/
structure RegsAt (Ts : Nat → Hp) (Fr G H : Hp) (as : List Addr) (cs : List Cell) : Prop where
  em : ∀ j, (∀ t X, cs[j]? ≠ some (Cell.reg t X)) → ∀ b, Ts j b = none
  dj : ∀ i j b o u, Ts i b = some o → Ts j b = some u → i = j
  pl : ∀ i b o, Ts i b = some o → H b = some o ∧ G b = none ∧ Fr b = none ∧ ∀ j, as[j]? = some b → j = i
  ok : ∀ (j : Nat) t X a, cs[j]? = some (Cell.reg t X) → as[j]? = some a → (∀ g, t = some g → a = g) ∧ X.ok (Ts j) G a
theorem RegsAt.is {Ts : Nat → Hp} {Fr G H : Hp} {as : List Addr} {cs : List Cell} (r : RegsAt Ts Fr G H as cs) {j : Nat} {b : Addr} {o : HO} (h : Ts j b = some o) : ∃ t X, cs[j]? = some (Cell.reg t X) := by
  cases hc : cs[j]? with
  | none => have := r.em j (fun t X z => by rw [hc] at z; cases z) b; rw [h] at this; cases this
  | some c =>
    cases c with
    | reg t X => exact ⟨t, X, rfl⟩
    | _ => have := r.em j (fun t X z => by rw [hc] at z; cases z) b; rw [h] at this; cases this
/-- the parts at other places, in another heap -/
theorem RegsAt.map {Ts : Nat → Hp} {Fr G H Fr' G' H' : Hp} {as as' : List Addr} {cs cs' : List Cell} (r : RegsAt Ts Fr G H as cs) (f : Nat → Option Nat)
    (f1 : ∀ (i : Nat) t X, cs'[i]? = some (Cell.reg t X) → ∃ i0, f i = some i0 ∧ cs[i0]? = some (Cell.reg t X) ∧ as'[i]? = as[i0]?)
    (f2 : ∀ i i0, f i = some i0 → ∃ t X, cs'[i]? = some (Cell.reg t X))
    (fi : ∀ i j k, f i = some k → f j = some k → i = j)
    (fb : ∀ (i : Nat) b, as'[i]? = some b → H b = none ∨ ∃ i0, as[i0]? = some b ∧ ∀ j, f j = some i0 → j = i)
    (hH : ∀ i i0 b o, f i = some i0 → Ts i0 b = some o → H' b = some o ∧ G' b = none ∧ Fr' b = none)
    (sG : ∀ a o, G a = some o → (G' a = some o) ∨ (∃ xs, o = .lst xs)) : RegsAt (fun i => match f i with | some i0 => Ts i0 | none => fun _ => none) Fr' G' H' as' cs' := by
  refine ⟨fun j h b => ?_, fun i j b o u h1 h2 => ?_, fun i b o h => ?_, fun j t X a hc ha => ?_⟩
  · cases hf : f j with
    | none => rfl
    | some j0 => obtain ⟨t, X, z⟩ := f2 j j0 hf; exact absurd z (h t X)
  · cases hf : f i with
    | none => simp only [hf] at h1; cases h1
    | some i0 =>
      cases hg : f j with
      | none => simp only [hg] at h2; cases h2
      | some j0 =>
        simp only [hf] at h1
        simp only [hg] at h2
        have := r.dj i0 j0 b o u h1 h2
        subst this
        exact fi i j i0 hf hg
  · cases hf : f i with
    | none => simp only [hf] at h; cases h
    | some i0 =>
      simp only [hf] at h
      obtain ⟨x1, x2, x3⟩ := hH i i0 b o hf h
      obtain ⟨y1, _, _, y4⟩ := r.pl i0 b o h
      refine ⟨x1, x2, x3, fun j hj => ?_⟩
      rcases fb j b hj with z | ⟨k, hk, hu⟩
      · rw [y1] at z; cases z
      · have := y4 k hk
        subst this
        exact (hu i hf).symm
  · obtain ⟨i0, hf, h1, h2⟩ := f1 j t X hc
    simp only [hf]
    obtain ⟨x, y⟩ := r.ok i0 t X a h1 (by rw [← h2]; exact ha)
    exact ⟨x, X.mono sG y⟩
/-- some of the parts, at their places -/
theorem RegsAt.subS {Ts : Nat → Hp} {Fr G H Fr' G' H' : Hp} {as as' : List Addr} {cs cs' : List Cell} (r : RegsAt Ts Fr G H as cs)
    (f1 : ∀ (i : Nat) t X, cs'[i]? = some (Cell.reg t X) → cs[i]? = some (Cell.reg t X) ∧ as'[i]? = as[i]?)
    (fb : ∀ (i : Nat) b, as'[i]? = some b → H b = none ∨ as[i]? = some b)
    (hH : ∀ (i : Nat) t X b o, cs'[i]? = some (Cell.reg t X) → Ts i b = some o → H' b = some o ∧ G' b = none ∧ Fr' b = none)
    (sG : ∀ a o, G a = some o → (G' a = some o) ∨ (∃ xs, o = .lst xs)) : ∃ Ts', RegsAt Ts' Fr' G' H' as' cs' ∧ ∀ i b o, Ts' i b = some o → Ts i b = some o := by
  refine ⟨_, r.map (fun i => match cs'[i]? with | some (.reg _ _) => some i | _ => none) (fun i t X h => ⟨i, by simp only [h], f1 i t X h⟩) (fun i i0 h => ?_) (fun i j k h1 h2 => ?_) (fun i b h => ?_) (fun i i0 b o h hb => ?_) sG, fun i b o h => ?_⟩
  · split at h
    · rename_i t X e; exact ⟨t, X, e⟩
    · cases h
  · split at h1
    · split at h2
      · cases h1; cases h2; rfl
      · cases h2
    · cases h1
  · rcases fb i b h with z | z
    · exact .inl z
    · refine .inr ⟨i, z, fun j hj => ?_⟩
      split at hj
      · cases hj; rfl
      · cases hj
  · split at h
    · rename_i t X e
      cases h
      exact hH _ t X b o e hb
    · cases h
  · have h : (match (match cs'[i]? with | some (.reg _ _) => some i | _ => none : Option Nat) with | some i0 => Ts i0 | none => fun _ => none) b = some o := h
    cases hf : (match cs'[i]? with | some (.reg _ _) => some i | _ => none : Option Nat) with
    | none => simp only [hf] at h; cases h
    | some i0 =>
      simp only [hf] at h
      split at hf
      · cases hf; exact h
      · cases hf
theorem RegsAt.sub {Ts : Nat → Hp} {Fr G H Fr' G' H' : Hp} {as as' : List Addr} {cs cs' : List Cell} (r : RegsAt Ts Fr G H as cs)
    (f1 : ∀ (i : Nat) t X, cs'[i]? = some (Cell.reg t X) → cs[i]? = some (Cell.reg t X) ∧ as'[i]? = as[i]?)
    (fb : ∀ (i : Nat) b, as'[i]? = some b → H b = none ∨ as[i]? = some b)
    (hH : ∀ (i : Nat) t X b o, cs'[i]? = some (Cell.reg t X) → Ts i b = some o → H' b = some o ∧ G' b = none ∧ Fr' b = none)
    (sG : ∀ a o, G a = some o → (G' a = some o) ∨ (∃ xs, o = .lst xs)) : ∃ Ts', RegsAt Ts' Fr' G' H' as' cs' := let ⟨Ts', h, _⟩ := r.subS f1 fb hH sG; ⟨Ts', h⟩
/-- nothing of them has changed -/
theorem RegsAt.same {Ts : Nat → Hp} {Fr G H Fr' G' H' : Hp} {as : List Addr} {cs : List Cell} (r : RegsAt Ts Fr G H as cs) (hH : ∀ i b o, Ts i b = some o → H b = some o → H' b = some o) (hG : ∀ b o, H b = some o → G b = none → G' b = none) (hF : ∀ b, Fr b = none → Fr' b = none) (sG : ∀ a o, G a = some o → (G' a = some o) ∨ (∃ xs, o = .lst xs)) : RegsAt Ts Fr' G' H' as cs :=
  ⟨r.em, r.dj, fun i b o h => by obtain ⟨x, y, z, w⟩ := r.pl i b o h; exact ⟨hH i b o h x, hG b o x y, hF b z, w⟩, fun j t X a hc ha => by obtain ⟨x, y⟩ := r.ok j t X a hc ha; exact ⟨x, X.mono sG y⟩⟩
/-- a cell is written to or has become another one -/
theorem RegsAt.setCS {Ts : Nat → Hp} {Fr G H G' H' : Hp} {as : List Addr} {cs : List Cell} (r : RegsAt Ts Fr G H as cs) {j : Nat} {a : Addr} {c' : Cell} (ha : as[j]? = some a) (hc : ∀ t X, c' ≠ Cell.reg t X) (hH : ∀ b o, b ≠ a → H b = some o → H' b = some o) (hG : ∀ b o, b ≠ a → H b = some o → G b = none → G' b = none) (sG : Same G G') : ∃ Ts', RegsAt Ts' Fr G' H' as (cs.set j c') ∧ ∀ i b o, Ts' i b = some o → Ts i b = some o := by
  have ne : ∀ i t X, (cs.set j c')[i]? = some (Cell.reg t X) → i ≠ j ∧ cs[i]? = some (Cell.reg t X) := fun i t X h => by
    by_cases q : j = i
    · subst q
      rw [List.getElem?_set] at h
      split at h
      · split at h
        · exact absurd (Option.some.inj h) (hc t X)
        · cases h
      · rename_i z; exact absurd rfl z
    · rw [List.getElem?_set_ne q] at h
      exact ⟨fun z => q z.symm, h⟩
  refine r.subS (fun i t X h => ⟨(ne i t X h).2, rfl⟩) (fun i b h => .inr h) (fun i t X b o h hb => ?_) (fun a o z => .inl (sG a o z))
  obtain ⟨x, y, z, w⟩ := r.pl i b o hb
  have nb : b ≠ a := fun q => by subst q; exact (ne i t X h).1 (w j ha).symm
  exact ⟨hH b o nb x, hG b o nb x y, z⟩
theorem RegsAt.setC {Ts : Nat → Hp} {Fr G H G' H' : Hp} {as : List Addr} {cs : List Cell} (r : RegsAt Ts Fr G H as cs) {j : Nat} {a : Addr} {c' : Cell} (ha : as[j]? = some a) (hc : ∀ t X, c' ≠ Cell.reg t X) (hH : ∀ b o, b ≠ a → H b = some o → H' b = some o) (hG : ∀ b o, b ≠ a → H b = some o → G b = none → G' b = none) (sG : Same G G') : ∃ Ts', RegsAt Ts' Fr G' H' as (cs.set j c') := let ⟨Ts', h, _⟩ := r.setCS ha hc hH hG sG; ⟨Ts', h⟩
/-- a new cell -/
theorem RegsAt.addC {Ts : Nat → Hp} {Fr G H H' : Hp} {as : List Addr} {cs : List Cell} (r : RegsAt Ts Fr G H as cs) {p : Addr} {c' : Cell} (ln : as.length = cs.length) (hc : ∀ t X, c' ≠ Cell.reg t X) (hp : ∀ i o, Ts i p ≠ some o) (hH : ∀ b o, b ≠ p → H b = some o → H' b = some o) : ∃ Ts', RegsAt Ts' Fr G H' (as ++ [p]) (cs ++ [c']) := by
  refine ⟨Ts, fun j h b => r.em j (fun t X z => h t X ?_) b, r.dj, fun i b o h => ?_, fun j t X a h1 h2 => ?_⟩
  · rw [List.getElem?_append_left (List.getElem?_eq_some_iff.mp z).1]; exact z
  · obtain ⟨x, y, z, w⟩ := r.pl i b o h
    have nb : b ≠ p := fun q => by subst q; exact hp i o h
    refine ⟨hH b o nb x, y, z, fun j hj => ?_⟩
    by_cases q : j < as.length
    · rw [List.getElem?_append_left q] at hj; exact w j hj
    · rw [List.getElem?_append_right (by omega)] at hj
      exact absurd (List.mem_singleton.mp (List.mem_of_getElem? hj)) nb
  · by_cases q : j < cs.length
    · rw [List.getElem?_append_left q] at h1
      rw [List.getElem?_append_left (by omega)] at h2
      exact r.ok j t X a h1 h2
    · rw [List.getElem?_append_right (by omega)] at h1
      exact absurd (List.mem_singleton.mp (List.mem_of_getElem? h1)).symm (hc t X)
structure EnvOk (K : PySem.W.Frag) (F : Fx) (ρ : En) (as : List Addr) (σ : L2.St) (H G : Hp) : Prop where
  gh : Same G H
  fh : Same F.Fr H
  fg : ∀ a o, G a = some o → F.G0 a = some o ∨ F.Fr a = none
  g0 : Same F.G0 G
  nd : as.Nodup
  pr : F.as0 <+: as
  ln : as.length = ρ.ce.length
  ce : ∀ (j : Nat) (c : Cell) (a : Addr), ρ.ce[j]? = some c → as[j]? = some a → F.Fr a = none ∧ (∃ o, H a = some o) ∧ CellOk K G H a c
  sn : σ.length = ρ.sl.length
  sl : ∀ (i : Nat) (av : AV), ρ.sl[i]? = some (some av) → ∃ v, σ[i]? = some (some v) ∧ RepA K G as av v
  rg : ∃ Ts, RegsAt Ts F.Fr G H as ρ.ce
/-- more is frozen, more cells -/
structure Gr (G : Hp) (as : List Addr) (G' : Hp) (as' : List Addr) : Prop where
  g : Same G G'
  a : ∃ r, as' = as ++ r
theorem Gr.refl {G : Hp} {as : List Addr} : Gr G as G as := ⟨Same.refl _, [], by simp⟩
theorem Gr.trans {G G1 G2 : Hp} {as as1 as2 : List Addr} (x : Gr G as G1 as1) (y : Gr G1 as1 G2 as2) : Gr G as G2 as2 := by
  obtain ⟨g, r, rfl⟩ := x
  obtain ⟨g2, r2, rfl⟩ := y
  exact ⟨Same.trans g g2, r ++ r2, by simp⟩
mutual
theorem TNr.mono {K : PySem.W.Frag} {G G' : Hp} {as as' : List Addr} (g : Gr G as G' as') : ∀ (x : TN) (v : V), TNr K G as x v → TNr K G' as' x v
  | .dat d, v, h => by cases h with | dat r => exact .dat (Rep.mono g.g _ _ r)
  | .cel j, v, h => by
    cases h with
    | cel e =>
      obtain ⟨_, r, rfl⟩ := g
      exact .cel (by rw [List.getElem?_append_left (List.getElem?_eq_some_iff.mp e).1]; exact e)
  | .tup xs, v, h => by cases h with | tup s r => exact .tup (Same.seqT g.g s) (TNs.mono g xs _ r)
theorem TNs.mono {K : PySem.W.Frag} {G G' : Hp} {as as' : List Addr} (g : Gr G as G' as') : ∀ (xs : List TN) (vs : List V), TNs K G as xs vs → TNs K G' as' xs vs
  | [], _, h => by cases h; exact .nil
  | x :: xs, _, h => by cases h with | cons a b => exact .cons (TNr.mono g x _ a) (TNs.mono g xs _ b)
end
theorem RepA.mono {K : PySem.W.Frag} {G G' : Hp} {as as' : List Addr} (g : Gr G as G' as') : ∀ {av : AV} {v : V}, RepA K G as av v → RepA K G' as' av v
  | .dat d, v, h => Rep.mono g.g d v h
  | .cel j, v, ⟨a, e, q⟩ => by
    obtain ⟨_, r, rfl⟩ := g
    exact ⟨a, by rw [List.getElem?_append_left (List.getElem?_eq_some_iff.mp e).1]; exact e, q⟩
  | .tup xs, v, ⟨a, vs, e, s, r⟩ => ⟨a, vs, e, Same.seqT g.g s, TNs.mono g _ _ r⟩
inductive RepAs (K : PySem.W.Frag) (G : Hp) (as : List Addr) : List AV → List V → Prop
  | nil : RepAs K G as [] []
  | cons {x : AV} {xs : List AV} {v : V} {vs : List V} : RepA K G as x v → RepAs K G as xs vs → RepAs K G as (x :: xs) (v :: vs)
theorem RepAs.mono {K : PySem.W.Frag} {G G' : Hp} {as as' : List Addr} (g : Gr G as G' as') {xs : List AV} {vs : List V} (h : RepAs K G as xs vs) : RepAs K G' as' xs vs := by
  induction h with
  | nil => exact .nil
  | cons a _ ih => exact .cons (a.mono g) ih
theorem RepAs.length {K : PySem.W.Frag} {G : Hp} {as : List Addr} {xs : List AV} {vs : List V} (h : RepAs K G as xs vs) : vs.length = xs.length := by
  induction h with
  | nil => rfl
  | cons _ _ ih => exact congrArg (· + 1) ih
theorem RepAs.append {K : PySem.W.Frag} {G : Hp} {as : List Addr} {xs ys : List AV} {vs ws : List V} (h : RepAs K G as xs vs) (k : RepAs K G as ys ws) : RepAs K G as (xs ++ ys) (vs ++ ws) := by
  induction h with
  | nil => exact k
  | cons a _ ih => exact .cons a ih
/-! ### the wishes, by data -/
structure KS where
  nx : En → Prop
  rt : AV → En → Prop
  bk : En → Prop := fun _ => False
  ct : En → Prop := fun _ => False
section
variable (K : PySem.W.Frag) (F : Fx)
/-- what is wanted of a value that has come -/
def Got (ρ : En) (as : List Addr) (σ : L2.St) (G : Hp) (k : AV → En → Prop) (Q : VK) : Prop := ∀ av ρ' v as' H' G', k av ρ' → EnvOk K F ρ' as' σ H' G' → Gr G as G' as' → RepA K G' as' av v → Q v H'
def WpE (t : TE) (ρ : En) (k : AV → En → Prop) : Prop := ∀ as σ H G, EnvOk K F ρ as σ H G → ∀ Q : VK, Got K F ρ as σ G k Q → t σ H Q
def WpT (t : TT) (ρ : En) (k : Bool → En → Prop) : Prop := ∀ as σ H G, EnvOk K F ρ as σ H G → ∀ Q : Bool → Hp → Prop, (∀ b ρ' as' H' G', k b ρ' → EnvOk K F ρ' as' σ H' G' → Gr G as G' as' → Q b H') → t σ H Q
def WpA (t : TA) (ρ : En) (k : List AV → En → Prop) : Prop := ∀ as σ H G, EnvOk K F ρ as σ H G → ∀ Q : List V → Hp → Prop, (∀ avs ρ' vs as' H' G', k avs ρ' → EnvOk K F ρ' as' σ H' G' → Gr G as G' as' → RepAs K G' as' avs vs → Q vs H') → t σ H Q
def WpR (r : R2) (x y : AV) (ρ : En) (k : AV → En → Prop) : Prop := ∀ as σ H G vx vy, EnvOk K F ρ as σ H G → RepA K G as x vx → RepA K G as y vy → ∀ Q : VK, Got K F ρ as σ G k Q → r vx vy H Q
def WpU (r : V → Hp → VK → Prop) (x : AV) (ρ : En) (k : AV → En → Prop) : Prop := ∀ as σ H G vx, EnvOk K F ρ as σ H G → RepA K G as x vx → ∀ Q : VK, Got K F ρ as σ G k Q → r vx H Q
def WpC (r : List V → Hp → VK → Prop) (xs : List AV) (ρ : En) (k : AV → En → Prop) : Prop := ∀ as σ H G vs, EnvOk K F ρ as σ H G → RepAs K G as xs vs → ∀ Q : VK, Got K F ρ as σ G k Q → r vs H Q
def WpM (r : V → List V → Hp → VK → Prop) (x : AV) (xs : List AV) (ρ : En) (k : AV → En → Prop) : Prop := ∀ as σ H G v vs, EnvOk K F ρ as σ H G → RepA K G as x v → RepAs K G as xs vs → ∀ Q : VK, Got K F ρ as σ G k Q → r v vs H Q
def WpSp (sp : Sp) (E : L2.St → XK) (xs : List AV) (ρ : En) (k : AV → En → Prop) : Prop := ∀ as σ H G vs, EnvOk K F ρ as σ H G → RepAs K G as xs vs → ∀ Q : VK, Got K F ρ as σ G k Q → sp vs H Q (E σ)
def WpG (g : TG) (x : AV) (ρ : En) (k : En → Prop) : Prop := ∀ as σ H G v, EnvOk K F ρ as σ H G → RepA K G as x v → ∀ Q : L2.St → Hp → Prop, (∀ ρ' as' σ' H' G', k ρ' → EnvOk K F ρ' as' σ' H' G' → Gr G as G' as' → Q σ' H') → g v σ H Q
def WpGs (g : TGs) (xs : List AV) (ρ : En) (k : En → Prop) : Prop := ∀ as σ H G vs, EnvOk K F ρ as σ H G → RepAs K G as xs vs → ∀ Q : L2.St → Hp → Prop, (∀ ρ' as' σ' H' G', k ρ' → EnvOk K F ρ' as' σ' H' G' → Gr G as G' as' → Q σ' H') → g vs σ H Q
/-- the ends of a statement, by data -/
structure EndsOk (as : List Addr) (G : Hp) (k : KS) (D : Ends) : Prop where
  nx : ∀ ρ as' σ H G', k.nx ρ → EnvOk K F ρ as' σ H G' → Gr G as G' as' → D.nx σ H
  rt : ∀ av ρ v as' σ H G', k.rt av ρ → EnvOk K F ρ as' σ H G' → Gr G as G' as' → RepA K G' as' av v → D.rt v H
  bk : ∀ ρ as' σ H G', k.bk ρ → EnvOk K F ρ as' σ H G' → Gr G as G' as' → D.bk σ H
  ct : ∀ ρ as' σ H G', k.ct ρ → EnvOk K F ρ as' σ H G' → Gr G as G' as' → D.ct σ H
  fr : ∀ v H, F.fr v → D.rt v H
theorem EndsOk.grow {as as1 : List Addr} {G G1 : Hp} {k : KS} {D : Ends} (q : EndsOk K F as G k D) (g : Gr G as G1 as1) : EndsOk K F as1 G1 k D :=
  ⟨fun ρ as' σ H G' a b c => q.nx ρ as' σ H G' a b (g.trans c), fun av ρ v as' σ H G' a b c d => q.rt av ρ v as' σ H G' a b (g.trans c) d, fun ρ as' σ H G' a b c => q.bk ρ as' σ H G' a b (g.trans c), fun ρ as' σ H G' a b c => q.ct ρ as' σ H G' a b (g.trans c), q.fr⟩
def WpS (t : TS) (ρ : En) (k : KS) : Prop := ∀ as σ H G, EnvOk K F ρ as σ H G → ∀ D : Ends, EndsOk K F as G k D → t D σ H
end
/-! ### rules of the data layer: expressions -/
section
variable {K : PySem.W.Frag} {F : Fx} {ρ : En} {k : AV → En → Prop} {kb : Bool → En → Prop} {ks : KS} {t u : TS} {ta tb te : TE} {tt tu : TT}
theorem Got.imp {as : List Addr} {σ : L2.St} {G : Hp} {ρ1 : En} {as1 : List Addr} {G1 : Hp} {k1 : AV → En → Prop} {Q : VK} (g : Got K F ρ as σ G k Q) (gr : Gr G as G1 as1) (h : ∀ av ρ', k1 av ρ' → k av ρ') : Got K F ρ1 as1 σ G1 k1 Q :=
  fun av ρ' v as' H' G' hk e gr' r => g av ρ' v as' H' G' (h _ _ hk) e (gr.trans gr') r
theorem WpE.imp {k' : AV → En → Prop} (h : WpE K F te ρ k) (i : ∀ av ρ', k av ρ' → k' av ρ') : WpE K F te ρ k' := fun as σ H G e Q q => h as σ H G e Q (q.imp .refl i)
theorem we_var {i : Nat} {av : AV} (h : ρ.sl[i]? = some (some av)) (hk : k av ρ) : WpE K F (tVar i) ρ k := fun as σ H G e Q q => by
  obtain ⟨v, hv, r⟩ := e.sl i av h
  exact ⟨v, hv, q av ρ v as H G hk e .refl r⟩
theorem we_ci {i : Int} (hk : k (.dat (.int i)) ρ) : WpE K F (tC (.int i)) ρ k := fun as σ H G e Q q => q _ ρ _ as H G hk e .refl (Rep.int i)
theorem we_cb {b : Bool} (hk : k (.dat (.bl b)) ρ) : WpE K F (tC (.bl b)) ρ k := fun as σ H G e Q q => q _ ρ _ as H G hk e .refl (Rep.bl b)
theorem we_cn (hk : k (.dat .non) ρ) : WpE K F (tC .non) ρ k := fun as σ H G e Q q => q _ ρ _ as H G hk e .refl Rep.non
theorem we_cs {x : Str} (hk : k (.dat (.str x)) ρ) : WpE K F (tC (.str x)) ρ k := fun as σ H G e Q q => q _ ρ _ as H G hk e .refl (Rep.str x)
theorem we_ct {n : String} (hk : k (.dat (.ty n)) ρ) : WpE K F (tC (.ty n)) ρ k := fun as σ H G e Q q => q _ ρ _ as H G hk e .refl (Rep.ty n)
/-- a constant of the module -/
theorem we_cr {a : Addr} {d : D} (h : ∀ G, Rep K G d (.ref a)) (hk : k (.dat d) ρ) : WpE K F (tC (.ref a)) ρ k := fun as σ H G e Q q => q _ ρ _ as H G hk e .refl (h G)
theorem we_op {r : R2} (h : WpE K F ta ρ fun x ρ1 => WpE K F tb ρ1 fun y ρ2 => WpR K F r x y ρ2 k) : WpE K F (tOp r ta tb) ρ k := fun as σ H G e Q q =>
  h as σ H G e _ fun x ρ1 vx as1 H1 G1 h1 e1 g1 r1 => h1 as1 σ H1 G1 e1 _ fun y ρ2 vy as2 H2 G2 h2 e2 g2 r2 => h2 as2 σ H2 G2 vx vy e2 (r1.mono g2) r2 Q (q.imp (g1.trans g2) fun _ _ z => z)
theorem we_un {r : V → Hp → VK → Prop} (h : WpE K F ta ρ fun x ρ1 => WpU K F r x ρ1 k) : WpE K F (tUn r ta) ρ k := fun as σ H G e Q q =>
  h as σ H G e _ fun x ρ1 vx as1 H1 G1 h1 e1 g1 r1 => h1 as1 σ H1 G1 vx e1 r1 Q (q.imp g1 fun _ _ z => z)
theorem we_tCB {r : List V → Hp → VK → Prop} {t : TA} (h : WpA K F t ρ fun xs ρ1 => WpC K F r xs ρ1 k) : WpE K F (tCB r t) ρ k := fun as σ H G e Q q =>
  h as σ H G e _ fun xs ρ1 vs as1 H1 G1 h1 e1 g1 r1 => h1 as1 σ H1 G1 vs e1 r1 Q (q.imp g1 fun _ _ z => z)
theorem wa_nil {k : List AV → En → Prop} (hk : k [] ρ) : WpA K F tNil ρ k := fun as σ H G e Q q => q [] ρ [] as H G hk e .refl .nil
theorem wa_cons {k : List AV → En → Prop} {tr : TA} (h : WpE K F ta ρ fun x ρ1 => WpA K F tr ρ1 fun xs ρ2 => k (x :: xs) ρ2) : WpA K F (tCons ta tr) ρ k := fun as σ H G e Q q =>
  h as σ H G e _ fun x ρ1 vx as1 H1 G1 h1 e1 g1 r1 => h1 as1 σ H1 G1 e1 _ fun xs ρ2 vs as2 H2 G2 h2 e2 g2 r2 => q _ ρ2 _ as2 H2 G2 h2 e2 (g1.trans g2) (.cons (r1.mono g2) r2)
theorem wr_I0i {f : Int → Int → Int} {i j : Int} (hk : k (.dat (.int (f i j))) ρ) : WpR K F (rI0 fun i j => .int (f i j)) (.dat (.int i)) (.dat (.int j)) ρ k := fun as σ H G vx vy e r1 r2 Q q => by
  cases (show Rep K G (.int i) vx from r1); cases (show Rep K G (.int j) vy from r2)
  exact ⟨i, j, rfl, rfl, q _ ρ _ as H G hk e .refl (Rep.int _)⟩
theorem wr_I0b {f : Int → Int → Bool} {i j : Int} (hk : k (.dat (.bl (f i j))) ρ) : WpR K F (rI0 fun i j => .bl (f i j)) (.dat (.int i)) (.dat (.int j)) ρ k := fun as σ H G vx vy e r1 r2 Q q => by
  cases (show Rep K G (.int i) vx from r1); cases (show Rep K G (.int j) vy from r2)
  exact ⟨i, j, rfl, rfl, q _ ρ _ as H G hk e .refl (Rep.bl _)⟩
theorem wr_Ii {C : Int → Int → Prop} {f : Int → Int → Int} {i j : Int} (hc : C i j) (hk : k (.dat (.int (f i j))) ρ) : WpR K F (rI C fun i j => .int (f i j)) (.dat (.int i)) (.dat (.int j)) ρ k := fun as σ H G vx vy e r1 r2 Q q => by
  cases (show Rep K G (.int i) vx from r1); cases (show Rep K G (.int j) vy from r2)
  exact ⟨i, j, rfl, rfl, hc, q _ ρ _ as H G hk e .refl (Rep.int _)⟩
theorem wu_neg {i : Int} (hk : k (.dat (.int (-i))) ρ) : WpU K F (rU fun i => .int (-i)) (.dat (.int i)) ρ k := fun as σ H G vx e r1 Q q => by
  cases (show Rep K G (.int i) vx from r1)
  exact ⟨i, rfl, q _ ρ _ as H G hk e .refl (Rep.int _)⟩
theorem wc_abs {i : Int} (hk : k (.dat (.int (if i < 0 then -i else i))) ρ) : WpC K F (fun xs H Q => ∃ i, xs = [.int i] ∧ Q (.int (if i < 0 then -i else i)) H) [.dat (.int i)] ρ k := fun as σ H G vs e r Q q => by
  cases r with
  | cons a b =>
    cases b
    cases (show Rep K G (.int i) _ from a)
    exact ⟨i, rfl, q _ ρ _ as H G hk e .refl (Rep.int _)⟩
/-- == of scalars -/
def scalD : D → D → Bool
  | .non, .non => true | .non, .int _ => true | .int _, .non => true | .non, .bl _ => true | .bl _, .non => true | .non, .str _ => true | .str _, .non => true
  | .int _, .int _ => true | .bl _, .bl _ => true | .str _, .str _ => true | .int _, .str _ => true | .str _, .int _ => true | .bl _, .str _ => true | .str _, .bl _ => true
  | _, _ => false
def eqS : D → D → Bool
  | .non, .non => true
  | .int i, .int j => decide (i = j)
  | .bl a, .bl b => decide (a = b)
  | .str x, .str y => decide (x = y)
  | _, _ => false
theorem scal_rep {G : Hp} {d e : D} {v w : V} (h : scalD d e = true) (r1 : Rep K G d v) (r2 : Rep K G e w) : scal v w = true ∧ decide (v = w) = eqS d e := by
  cases d <;> cases e <;> first
    | (exact Bool.noConfusion (show false = true from h))
    | (cases r1; cases r2; refine ⟨rfl, ?_⟩; first | rfl | (simp [eqS]) | (exact decide_eq_false (fun z => nomatch z)))
theorem wr_eq {d e : D} (h : scalD d e = true) (hk : k (.dat (.bl (eqS d e))) ρ) : WpR K F rEq (.dat d) (.dat e) ρ k := fun as σ H G vx vy en r1 r2 Q q => by
  obtain ⟨a, b⟩ := scal_rep (K := K) (G := G) h r1 r2
  refine ⟨a, ?_⟩
  rw [b]
  exact q _ ρ _ as H G hk en .refl (Rep.bl _)
theorem wr_ne {d e : D} (h : scalD d e = true) (hk : k (.dat (.bl (!eqS d e))) ρ) : WpR K F rNe (.dat d) (.dat e) ρ k := fun as σ H G vx vy en r1 r2 Q q => by
  obtain ⟨a, b⟩ := scal_rep (K := K) (G := G) h r1 r2
  refine ⟨a, ?_⟩
  rw [b]
  exact q _ ρ _ as H G hk en .refl (Rep.bl _)
def isNon : AV → Bool
  | .dat .non => true
  | _ => false
theorem isNon_rep {G : Hp} {as : List Addr} {x : AV} {v : V} (r : RepA K G as x v) : decide (v = .non) = isNon x := by
  cases x with
  | cel j => obtain ⟨a, _, rfl⟩ := r; rfl
  | tup xs => obtain ⟨a, vs, rfl, _⟩ := r; rfl
  | dat d => cases d <;> cases (show Rep K G _ v from r) <;> rfl
theorem wr_isN {x : AV} (hk : k (.dat (.bl (isNon x))) ρ) : WpR K F (fun x y H Q => y = .non ∧ Q (.bl (decide (x = .non))) H) x (.dat .non) ρ k := fun as σ H G vx vy en r1 r2 Q q => by
  refine ⟨Rep.nonE r2, ?_⟩
  rw [isNon_rep r1]
  exact q _ ρ _ as H G hk en .refl (Rep.bl _)
theorem wr_notN {x : AV} (hk : k (.dat (.bl (!isNon x))) ρ) : WpR K F (fun x y H Q => y = .non ∧ Q (.bl (!decide (x = .non))) H) x (.dat .non) ρ k := fun as σ H G vx vy en r1 r2 Q q => by
  refine ⟨Rep.nonE r2, ?_⟩
  rw [isNon_rep r1]
  exact q _ ρ _ as H G hk en .refl (Rep.bl _)
theorem wr_isB {a b : Bool} (hk : k (.dat (.bl (decide (a = b)))) ρ) : WpR K F (fun x y H Q => ∃ a b, x = .bl a ∧ y = .bl b ∧ Q (.bl (decide (a = b))) H) (.dat (.bl a)) (.dat (.bl b)) ρ k := fun as σ H G vx vy en r1 r2 Q q =>
  ⟨a, b, Rep.blE r1, Rep.blE r2, q _ ρ _ as H G hk en .refl (Rep.bl _)⟩
theorem wr_isnotB {a b : Bool} (hk : k (.dat (.bl (!decide (a = b)))) ρ) : WpR K F (fun x y H Q => ∃ a b, x = .bl a ∧ y = .bl b ∧ Q (.bl (!decide (a = b))) H) (.dat (.bl a)) (.dat (.bl b)) ρ k := fun as σ H G vx vy en r1 r2 Q q =>
  ⟨a, b, Rep.blE r1, Rep.blE r2, q _ ρ _ as H G hk en .refl (Rep.bl _)⟩
/-! truth -/
theorem we_andV (h : WpE K F ta ρ fun x ρ1 => ∃ c, x = .dat (.bl c) ∧ if c = true then WpE K F tb ρ1 k else k (.dat (.bl false)) ρ1) : WpE K F (tAndV ta tb) ρ k := fun as σ H G e Q q =>
  h as σ H G e _ fun x ρ1 vx as1 H1 G1 ⟨c, ex, hc⟩ e1 g1 r1 => by
    subst ex
    refine ⟨c, Rep.blE r1, ?_⟩
    cases c with
    | true => exact (show WpE K F tb ρ1 k from hc) as1 σ H1 G1 e1 Q (q.imp g1 fun _ _ z => z)
    | false => exact q _ ρ1 _ as1 H1 G1 hc e1 g1 (Rep.bl _)
theorem we_orV (h : WpE K F ta ρ fun x ρ1 => ∃ c, x = .dat (.bl c) ∧ if c = true then k (.dat (.bl true)) ρ1 else WpE K F tb ρ1 k) : WpE K F (tOrV ta tb) ρ k := fun as σ H G e Q q =>
  h as σ H G e _ fun x ρ1 vx as1 H1 G1 ⟨c, ex, hc⟩ e1 g1 r1 => by
    subst ex
    refine ⟨c, Rep.blE r1, ?_⟩
    cases c with
    | false => exact (show WpE K F tb ρ1 k from hc) as1 σ H1 G1 e1 Q (q.imp g1 fun _ _ z => z)
    | true => exact q _ ρ1 _ as1 H1 G1 hc e1 g1 (Rep.bl _)
theorem we_notV (h : WpE K F ta ρ fun x ρ1 => ∃ c, x = .dat (.bl c) ∧ k (.dat (.bl (!c))) ρ1) : WpE K F (tNotV ta) ρ k := fun as σ H G e Q q =>
  h as σ H G e _ fun x ρ1 vx as1 H1 G1 ⟨c, ex, hc⟩ e1 g1 r1 => by
    subst ex
    exact ⟨c, Rep.blE r1, q _ ρ1 _ as1 H1 G1 hc e1 g1 (Rep.bl _)⟩
theorem we_if (h : WpT K F tt ρ fun b ρ1 => if b = true then WpE K F ta ρ1 k else WpE K F tb ρ1 k) : WpE K F (tIf tt ta tb) ρ k := fun as σ H G e Q q =>
  h as σ H G e _ fun b ρ1 as1 H1 G1 hb e1 g1 => by
    cases b with
    | true => exact (show WpE K F ta ρ1 k from hb) as1 σ H1 G1 e1 Q (q.imp g1 fun _ _ z => z)
    | false => exact (show WpE K F tb ρ1 k from hb) as1 σ H1 G1 e1 Q (q.imp g1 fun _ _ z => z)
theorem wt_test (h : WpE K F te ρ fun x ρ1 => ∃ b, x = .dat (.bl b) ∧ kb b ρ1) : WpT K F (tTest te) ρ kb := fun as σ H G e Q q =>
  h as σ H G e _ fun x ρ1 vx as1 H1 G1 ⟨c, ex, hc⟩ e1 g1 r1 => by
    subst ex
    exact ⟨c, Rep.blE r1, q _ ρ1 as1 H1 G1 hc e1 g1⟩
theorem wt_B (h : WpE K F te ρ fun x ρ1 => ∃ b, x = .dat (.bl b) ∧ kb b ρ1) : WpT K F (tB te) ρ kb := wt_test h
theorem wt_and (h : WpT K F tt ρ fun b ρ1 => if b = true then WpT K F tu ρ1 kb else kb false ρ1) : WpT K F (tAnd tt tu) ρ kb := fun as σ H G e Q q =>
  h as σ H G e _ fun b ρ1 as1 H1 G1 hb e1 g1 => by
    cases b with
    | true => exact (show WpT K F tu ρ1 kb from hb) as1 σ H1 G1 e1 Q fun b2 ρ2 as2 H2 G2 h2 e2 g2 => q _ _ _ _ _ h2 e2 (g1.trans g2)
    | false => exact q _ _ _ _ _ hb e1 g1
theorem wt_or (h : WpT K F tt ρ fun b ρ1 => if b = true then kb true ρ1 else WpT K F tu ρ1 kb) : WpT K F (tOr tt tu) ρ kb := fun as σ H G e Q q =>
  h as σ H G e _ fun b ρ1 as1 H1 G1 hb e1 g1 => by
    cases b with
    | false => exact (show WpT K F tu ρ1 kb from hb) as1 σ H1 G1 e1 Q fun b2 ρ2 as2 H2 G2 h2 e2 g2 => q _ _ _ _ _ h2 e2 (g1.trans g2)
    | true => exact q _ _ _ _ _ hb e1 g1
theorem wt_not (h : WpT K F tt ρ fun b ρ1 => kb (!b) ρ1) : WpT K F (tNot tt) ρ kb := fun as σ H G e Q q => h as σ H G e _ fun b ρ1 as1 H1 G1 hb e1 g1 => q _ _ _ _ _ hb e1 g1
theorem wt_yes (h : kb true ρ) : WpT K F tYes ρ kb := fun as σ H G e Q q => q _ _ _ _ _ h e .refl
/-! ### statements -/
theorem ws_seq (h : WpS K F t ρ { ks with nx := fun ρ1 => WpS K F u ρ1 ks }) : WpS K F (tSeq t u) ρ ks := fun as σ H G e D q =>
  h as σ H G e { D with nx := u D } ⟨fun ρ1 as1 σ1 H1 G1 k1 e1 g1 => k1 as1 σ1 H1 G1 e1 D (EndsOk.grow K F q g1), q.rt, q.bk, q.ct, q.fr⟩
theorem ws_next (h : ks.nx ρ) : WpS K F tNext ρ ks := fun as σ H G e D q => q.nx ρ as σ H G h e .refl
theorem ws_break (h : ks.bk ρ) : WpS K F tBreak ρ ks := fun as σ H G e D q => q.bk ρ as σ H G h e .refl
theorem ws_cont (h : ks.ct ρ) : WpS K F tCont ρ ks := fun as σ H G e D q => q.ct ρ as σ H G h e .refl
theorem ws_drop (h : WpE K F te ρ fun _ ρ1 => ks.nx ρ1) : WpS K F (tDrop te) ρ ks := fun as σ H G e D q => h as σ H G e _ fun x ρ1 vx as1 H1 G1 h1 e1 g1 r1 => q.nx ρ1 as1 σ H1 G1 h1 e1 g1
theorem ws_ret (h : WpE K F te ρ ks.rt) : WpS K F (tRet te) ρ ks := fun as σ H G e D q => h as σ H G e _ fun x ρ1 vx as1 H1 G1 h1 e1 g1 r1 => q.rt x ρ1 vx as1 σ H1 G1 h1 e1 g1 r1
theorem ws_retN (h : ks.rt (.dat .non) ρ) : WpS K F tRetN ρ ks := fun as σ H G e D q => q.rt _ ρ _ as σ H G h e .refl Rep.non
theorem ws_if (h : WpT K F tt ρ fun b ρ1 => if b = true then WpS K F t ρ1 ks else WpS K F u ρ1 ks) : WpS K F (tIfS tt t u) ρ ks := fun as σ H G e D q =>
  h as σ H G e _ fun b ρ1 as1 H1 G1 hb e1 g1 => by
    cases b with
    | true => exact (show WpS K F t ρ1 ks from hb) as1 σ H1 G1 e1 D (EndsOk.grow K F q g1)
    | false => exact (show WpS K F u ρ1 ks from hb) as1 σ H1 G1 e1 D (EndsOk.grow K F q g1)
theorem ws_asg {g : TG} (h : WpE K F te ρ fun x ρ1 => WpG K F g x ρ1 ks.nx) : WpS K F (tAsg te g) ρ ks := fun as σ H G e D q =>
  h as σ H G e _ fun x ρ1 vx as1 H1 G1 h1 e1 g1 r1 => h1 as1 σ H1 G1 vx e1 r1 _ fun ρ2 as2 σ2 H2 G2 h2 e2 g2 => q.nx ρ2 as2 σ2 H2 G2 h2 e2 (g1.trans g2)
def En.put (ρ : En) (i : Nat) (x : AV) : En := ⟨ρ.sl.set i (some x), ρ.ce⟩
theorem EnvOk.put {as : List Addr} {σ : L2.St} {H G : Hp} {i : Nat} {x : AV} {v : V} (e : EnvOk K F ρ as σ H G) (r : RepA K G as x v) : EnvOk K F (ρ.put i x) as (σ.set i (some v)) H G :=
  ⟨e.gh, e.fh, e.fg, e.g0, e.nd, e.pr, e.ln, e.ce, by rw [List.length_set, e.sn]; exact (List.length_set).symm, fun j av hj => by
    show ∃ v', (σ.set i (some v))[j]? = some (some v') ∧ _
    have hj' : (ρ.sl.set i (some x))[j]? = some (some av) := hj
    by_cases hij : i = j
    · subst hij
      rw [List.getElem?_set] at hj' ⊢
      have hl : i < ρ.sl.length := by
        rcases Nat.lt_or_ge i ρ.sl.length with z | z
        · exact z
        · simp at hj'
          exact hj'.1
      simp [hl] at hj'
      subst hj'
      have hl2 : i < σ.length := by rw [e.sn]; exact hl
      exact ⟨v, by simp [hl2], r⟩
    · rw [List.getElem?_set_ne hij] at hj' ⊢
      exact e.sl j av hj', e.rg⟩
theorem wg_name {i : Nat} {x : AV} {kn : En → Prop} (h : kn (ρ.put i x)) : WpG K F (gName i) x ρ kn := fun as σ H G v e r Q q => q _ as _ H G h (e.put r) .refl
theorem wgs_nil {kn : En → Prop} (h : kn ρ) : WpGs K F gNil [] ρ kn := fun as σ H G vs e r Q q => by cases r; exact ⟨rfl, q _ _ _ _ _ h e .refl⟩
theorem wgs_cons {g : TG} {gs : TGs} {x : AV} {xs : List AV} {kn : En → Prop} (h : WpG K F g x ρ fun ρ1 => WpGs K F gs xs ρ1 kn) : WpGs K F (gCons g gs) (x :: xs) ρ kn := fun as σ H G vs e r Q q => by
  cases r with
  | cons a b => exact ⟨_, _, rfl, h as σ H G _ e a _ fun ρ1 as1 σ1 H1 G1 h1 e1 g1 => h1 as1 σ1 H1 G1 _ e1 (b.mono g1) Q fun ρ2 as2 σ2 H2 G2 h2 e2 g2 => q _ _ _ _ _ h2 e2 (g1.trans g2)⟩
theorem Reps.as {G : Hp} {as : List Addr} : ∀ {ds : List D} {vs : List V}, Reps K G ds vs → RepAs K G as (ds.map .dat) vs
  | [], _, h => by cases h; exact .nil
  | _ :: _, _, h => by cases h with | cons a b => exact .cons a (Reps.as b)
theorem wg_tup {n : Nat} {gs : TGs} {ds : List D} {kn : En → Prop} (hn : ds.length = n) (h : WpGs K F gs (ds.map .dat) ρ kn) : WpG K F (gTup K n gs) (.dat (.tup ds)) ρ kn := fun as σ H G v e r Q q => by
  obtain ⟨a, vs, rfl, hs, hr⟩ := Rep.tupE r
  exact ⟨a, vs, rfl, Same.seqT e.gh hs, by rw [hr.length]; exact hn, h as σ H G vs e hr.as Q q⟩
theorem ws_par {i j : Nat} {ta : TA} (h : WpA K F ta ρ fun xs ρ1 => ∃ x y, xs = [x, y] ∧ ks.nx ((ρ1.put i x).put j y)) : WpS K F (tPar i j ta) ρ ks := fun as σ H G e D q =>
  h as σ H G e _ fun xs ρ1 vs as1 H1 G1 ⟨x, y, ex, h1⟩ e1 g1 r1 => by
    subst ex
    cases r1 with
    | cons a b => cases b with | cons b c => cases c; exact ⟨_, _, rfl, q.nx _ as1 _ H1 G1 h1 ((e1.put a).put b) g1⟩
/-! ### lists and tuples -/
/-- the items of a list: data, or a cell -/
inductive IsL (ρ : En) : AV → List D → Prop
  | dat (ds : List D) : IsL ρ (.dat (.lst ds)) ds
  | scr (ds : List D) : IsL ρ (.dat (.scr ds)) ds
  | cel {j : Nat} {ds : List D} : ρ.ce[j]? = some (.lst ds) → IsL ρ (.cel j) ds
  | tag {j : Nat} {c : Addr} {ds : List D} : ρ.ce[j]? = some (.oth (lstX c ds)) → IsL ρ (.dat (.cls c)) ds
theorem IsL.rep {as : List Addr} {σ : L2.St} {H G : Hp} {x : AV} {ds : List D} {v : V} (e : EnvOk K F ρ as σ H G) (h : IsL ρ x ds) (r : RepA K G as x v) : ∃ a vs, v = .ref a ∧ SqL K H a vs ∧ Reps K G ds vs := by
  cases h with
  | dat => obtain ⟨a, vs, rfl, hs, hr⟩ := Rep.lstE r; exact ⟨a, vs, rfl, SqL.of (e.gh _ _ hs), hr⟩
  | scr => obtain ⟨a, vs, rfl, hs, hr⟩ := Rep.scrE r; exact ⟨a, vs, rfl, Same.seq e.gh hs, hr⟩
  | cel hc =>
    obtain ⟨a, ha, rfl⟩ := r
    obtain ⟨_, _, _, vs, hv, hr⟩ := e.ce _ _ a hc ha
    exact ⟨a, vs, rfl, SqL.of hv, hr⟩
  | @tag j c _ hc =>
    cases (show Rep K G (.cls c) v from r)
    obtain ⟨a, ha⟩ : ∃ a, as[j]? = some a := ⟨_, List.getElem?_eq_getElem (by rw [e.ln]; exact (List.getElem?_eq_some_iff.mp hc).1)⟩
    obtain ⟨_, _, _, o, ho, rfl, vs, rfl, hr⟩ := e.ce _ _ a hc ha
    exact ⟨a, vs, rfl, SqL.of ho, hr K G⟩
theorem atI_reps {G : Hp} {ds : List D} {vs : List V} {i : Int} {d : D} (h : Reps K G ds vs) (e : atI ds i = some d) : ∃ v, atI vs i = some v ∧ Rep K G d v := by
  unfold atI at *
  rw [h.length]
  cases q : ixN ds.length i with
  | none => rw [q] at e; cases e
  | some j =>
    rw [q] at e
    exact h.get e
theorem wr_ixL {x : AV} {ds : List D} {i : Int} {d : D} (hx : IsL ρ x ds) (hi : atI ds i = some d) (hk : k (.dat d) ρ) : WpR K F (rIxL K) x (.dat (.int i)) ρ k := fun as σ H G vx vy e r1 r2 Q q => by
  obtain ⟨a, vs, rfl, hs, hr⟩ := hx.rep e r1
  obtain ⟨v, hv, r⟩ := atI_reps hr hi
  exact ⟨a, vs, i, v, rfl, Rep.intE r2, hs, hv, q _ ρ _ as H G hk e .refl r⟩
theorem wr_ixT {ds : List D} {i : Int} {d : D} (hi : atI ds i = some d) (hk : k (.dat d) ρ) : WpR K F (rIxT K) (.dat (.tup ds)) (.dat (.int i)) ρ k := fun as σ H G vx vy e r1 r2 Q q => by
  obtain ⟨a, vs, rfl, hs, hr⟩ := Rep.tupE r1
  obtain ⟨v, hv, r⟩ := atI_reps hr hi
  exact ⟨a, vs, i, v, rfl, Rep.intE r2, Same.seqT e.gh hs, hv, q _ ρ _ as H G hk e .refl r⟩
theorem wc_lenL {x : AV} {ds : List D} (hx : IsL ρ x ds) (hk : k (.dat (.int ds.length)) ρ) : WpC K F (fun xs H Q => ∃ p ys, xs = [.ref p] ∧ (SqL K H p ys ∨ SqT K H p ys) ∧ Q (.int ys.length) H) [x] ρ k := fun as σ H G vs e r Q q => by
  cases r with
  | cons r c =>
    cases c
    obtain ⟨a, vs, rfl, hs, hr⟩ := hx.rep e r
    refine ⟨a, vs, rfl, .inl hs, ?_⟩
    rw [hr.length]
    exact q _ ρ _ as H G hk e .refl (Rep.int _)
theorem wc_lenT {ds : List D} (hk : k (.dat (.int ds.length)) ρ) : WpC K F (fun xs H Q => ∃ p ys, xs = [.ref p] ∧ (SqL K H p ys ∨ SqT K H p ys) ∧ Q (.int ys.length) H) [.dat (.tup ds)] ρ k := fun as σ H G vs e r Q q => by
  cases r with
  | cons r c =>
    cases c
    obtain ⟨a, vs, rfl, hs, hr⟩ := Rep.tupE r
    refine ⟨a, vs, rfl, .inr (Same.seqT e.gh hs), ?_⟩
    rw [hr.length]
    exact q _ ρ _ as H G hk e .refl (Rep.int _)
/-! new things -/
/-- a new frozen object -/
theorem EnvOk.newG {as : List Addr} {σ : L2.St} {H G : Hp} {p : Addr} {o : HO} (e : EnvOk K F ρ as σ H G) (hp : H p = none) : EnvOk K F ρ as σ (upd H p o) (upd G p o) ∧ Gr G as (upd G p o) as := by
  have gp : G p = none := Same.none e.gh hp
  have fp : F.Fr p = none := Same.none e.fh hp
  have sg : Same G (upd G p o) := Same.new (Same.refl _) gp
  refine ⟨⟨fun a u h => ?_, Same.new e.fh hp, fun a u h => ?_, Same.trans e.g0 sg, e.nd, e.pr, e.ln, fun j c a hc ha => ?_, e.sn, fun i av hi => ?_, ?_⟩, ⟨sg, [], by simp⟩⟩
  · by_cases q : a = p
    · subst q; rw [upd_same] at h ⊢; exact h
    · rw [upd_ne q] at h ⊢; exact e.gh _ _ h
  · by_cases q : a = p
    · subst q; exact .inr fp
    · rw [upd_ne q] at h; exact e.fg _ _ h
  · obtain ⟨f, ⟨u, hu⟩, ok⟩ := e.ce j c a hc ha
    have na : a ≠ p := ne_of_none hu hp
    refine ⟨f, ⟨u, upd_old hp hu⟩, ?_⟩
    cases c with
    | gone => trivial
    | lst ds => obtain ⟨g, vs, h, r⟩ := ok; exact ⟨by rw [upd_ne na]; exact g, vs, upd_old hp h, Reps.mono sg _ _ r⟩
    | ins C9 ns9 ds => obtain ⟨g, dx9, vs, h, ln9, r⟩ := ok; exact ⟨by rw [upd_ne na]; exact g, dx9, vs, upd_old hp h, ln9, Reps.mono sg _ _ r⟩
    | drw => obtain ⟨g, vs, h, r⟩ := ok; exact ⟨by rw [upd_ne na]; exact g, vs, upd_old hp h, r⟩
    | reg t X => show upd G p o a = none; rw [upd_ne na]; exact ok
    | oth X => obtain ⟨g, o9, h, r⟩ := ok; exact ⟨by rw [upd_ne na]; exact g, o9, upd_old hp h, X.mono (fun _ _ z => .inl (sg _ _ z)) r⟩
  · obtain ⟨v, hv, r⟩ := e.sl i av hi
    exact ⟨v, hv, r.mono ⟨sg, [], by simp⟩⟩
  · obtain ⟨Ts, r⟩ := e.rg
    exact ⟨Ts, r.same (fun _ _ _ _ h => upd_old hp h) (fun b u h g => by rw [upd_ne (ne_of_none h hp)]; exact g) (fun _ z => z) fun _ _ z => .inl (sg _ _ z)⟩
/-- a new cell -/
theorem EnvOk.newO {as : List Addr} {σ : L2.St} {H G : Hp} {p : Addr} {o : HO} {c0 : Cell} (e : EnvOk K F ρ as σ H G) (hp : H p = none) (ok0 : G p = none → CellOk K G (upd H p o) p c0) (nr : ∀ t X, c0 ≠ Cell.reg t X := by intro t X z; cases z) : EnvOk K F ⟨ρ.sl, ρ.ce ++ [c0]⟩ (as ++ [p]) σ (upd H p o) G ∧ Gr G as G (as ++ [p]) := by
  have gp : G p = none := Same.none e.gh hp
  have fp : F.Fr p = none := Same.none e.fh hp
  have gr : Gr G as G (as ++ [p]) := ⟨Same.refl _, [p], rfl⟩
  refine ⟨⟨fun a u h => upd_old hp (e.gh _ _ h), Same.new e.fh hp, e.fg, e.g0, ?_, e.pr.trans (List.prefix_append _ _), by rw [List.length_append, List.length_append, e.ln]; rfl, fun j c a hc ha => ?_, e.sn, fun i av hi => ?_, ?_⟩, gr⟩
  · rw [List.nodup_append]
    refine ⟨e.nd, by simp, fun a ha b hb => ?_⟩
    rw [List.mem_singleton] at hb
    subst hb
    obtain ⟨j, hj⟩ := List.getElem?_of_mem ha
    have hl : j < ρ.ce.length := by rw [← e.ln]; exact (List.getElem?_eq_some_iff.mp hj).1
    obtain ⟨_, ⟨u, hu⟩, _⟩ := e.ce j _ a (List.getElem?_eq_getElem hl) hj
    exact ne_of_none hu hp
  · by_cases hj : j < ρ.ce.length
    · rw [List.getElem?_append_left hj] at hc
      rw [List.getElem?_append_left (by rw [e.ln]; exact hj)] at ha
      obtain ⟨f, ⟨u, hu⟩, ok⟩ := e.ce j c a hc ha
      refine ⟨f, ⟨u, upd_old hp hu⟩, ?_⟩
      cases c with
      | gone => trivial
      | lst ds => obtain ⟨g, vs, h, r⟩ := ok; exact ⟨g, vs, upd_old hp h, r⟩
      | ins C9 ns9 ds => obtain ⟨g, dx9, vs, h, ln9, r⟩ := ok; exact ⟨g, dx9, vs, upd_old hp h, ln9, r⟩
      | drw => obtain ⟨g, vs, h, r⟩ := ok; exact ⟨g, vs, upd_old hp h, r⟩
      | reg t X => exact ok
      | oth X => obtain ⟨g, o9, h, r⟩ := ok; exact ⟨g, o9, upd_old hp h, r⟩
    · have hj2 : ρ.ce.length ≤ j := by omega
      rw [List.getElem?_append_right hj2] at hc
      rw [List.getElem?_append_right (by rw [e.ln]; exact hj2), e.ln] at ha
      cases z : j - ρ.ce.length with
      | zero =>
        rw [z] at hc ha
        cases hc
        cases ha
        exact ⟨fp, ⟨_, upd_same⟩, ok0 gp⟩
      | succ m => rw [z] at hc; simp at hc
  · obtain ⟨v, hv, r⟩ := e.sl i av hi
    exact ⟨v, hv, r.mono gr⟩
  · obtain ⟨Ts, r⟩ := e.rg
    exact r.addC e.ln nr (fun i u h => by have := (r.pl i p u h).1; rw [hp] at this; cases this) fun b u _ h => upd_old hp h
theorem EnvOk.newC {as : List Addr} {σ : L2.St} {H G : Hp} {p : Addr} {vs : List V} {ds : List D} (e : EnvOk K F ρ as σ H G) (hp : H p = none) (hr : Reps K G ds vs) : EnvOk K F ⟨ρ.sl, ρ.ce ++ [.lst ds]⟩ (as ++ [p]) σ (upd H p (.lst vs)) G ∧ Gr G as G (as ++ [p]) := e.newO hp fun gp => ⟨gp, vs, upd_same, hr⟩
/-- a cell is written -/
theorem EnvOk.setO {as : List Addr} {σ : L2.St} {H G : Hp} {j : Nat} {a : Addr} {c c' : Cell} {o : HO} (e : EnvOk K F ρ as σ H G) (hj : ρ.ce[j]? = some c) (ha : as[j]? = some a) (g : G a = none) (ok : CellOk K G (upd H a o) a c') (nr : ∀ t X, c' ≠ Cell.reg t X := by intro t X z; cases z) : EnvOk K F ⟨ρ.sl, ρ.ce.set j c'⟩ as σ (upd H a o) G := by
  obtain ⟨fa, ⟨u, hu⟩, _⟩ := e.ce j c a hj ha
  have hl : j < ρ.ce.length := (List.getElem?_eq_some_iff.mp hj).1
  refine ⟨fun b u h => upd_oth (ne_of_none h g) (e.gh _ _ h), fun b u h => upd_oth (ne_of_none h fa) (e.fh _ _ h), e.fg, e.g0, e.nd, e.pr, by rw [e.ln]; exact (List.length_set).symm, fun i c2 b hc hb => ?_, e.sn, e.sl, by obtain ⟨Ts, r⟩ := e.rg; exact r.setC ha nr (fun b u n h => upd_oth n h) (fun _ _ _ _ z => z) (Same.refl _)⟩
  have hc' : (ρ.ce.set j c')[i]? = some c2 := hc
  by_cases hij : j = i
  · subst hij
    rw [List.getElem?_set_self hl] at hc'
    cases hc'
    rw [ha] at hb
    cases hb
    exact ⟨fa, ⟨_, upd_same⟩, ok⟩
  · rw [List.getElem?_set_ne hij] at hc'
    obtain ⟨f, ⟨u2, hu2⟩, ok2⟩ := e.ce i c2 b hc' hb
    have nb : b ≠ a := fun z => by
      subst z
      exact hij ((List.getElem?_inj (List.getElem?_eq_some_iff.mp ha).1 e.nd).mp (ha.trans hb.symm))
    refine ⟨f, ⟨u2, upd_oth nb hu2⟩, ?_⟩
    cases c2 with
    | gone => trivial
    | lst ds => obtain ⟨g, vs, h, r⟩ := ok2; exact ⟨g, vs, upd_oth nb h, r⟩
    | ins C9 ns9 ds => obtain ⟨g, dx9, vs, h, ln9, r⟩ := ok2; exact ⟨g, dx9, vs, upd_oth nb h, ln9, r⟩
    | drw => obtain ⟨g, vs, h, r⟩ := ok2; exact ⟨g, vs, upd_oth nb h, r⟩
    | reg t X => exact ok2
    | oth X => obtain ⟨g, o9, h, r⟩ := ok2; exact ⟨g, o9, upd_oth nb h, r⟩
theorem EnvOk.setC {as : List Addr} {σ : L2.St} {H G : Hp} {j : Nat} {a : Addr} {c c' : Cell} {xs : List V} (e : EnvOk K F ρ as σ H G) (hj : ρ.ce[j]? = some c) (ha : as[j]? = some a) (g : G a = none) (ok : CellOk K G (upd H a (.lst xs)) a c') (nr : ∀ t X, c' ≠ Cell.reg t X := by intro t X z; cases z) : EnvOk K F ⟨ρ.sl, ρ.ce.set j c'⟩ as σ (upd H a (.lst xs)) G := e.setO hj ha g ok nr
mutual
/-- a cell is frozen -/
def frzT (j : Nat) (d : D) : TN → TN
  | .dat e => .dat e
  | .cel i => if i = j then .dat d else .cel i
  | .tup xs => .tup (frzTs j d xs)
def frzTs (j : Nat) (d : D) : List TN → List TN
  | [] => []
  | x :: xs => frzT j d x :: frzTs j d xs
end
def frzA (j : Nat) (d : D) : AV → AV
  | .dat e => .dat e
  | .cel i => if i = j then .dat d else .cel i
  | .tup xs => .tup (frzTs j d xs)
section
variable {G G' : Hp} {as : List Addr} {j : Nat} {a : Addr} {d : D}
mutual
theorem TNr.frz (sg : Same G G') (ha : as[j]? = some a) (ra : Rep K G' d (.ref a)) : ∀ (x : TN) (v : V), TNr K G as x v → TNr K G' as (frzT j d x) v
  | .dat e, v, h => by cases h with | dat r => rw [frzT]; exact .dat (Rep.mono sg _ _ r)
  | .cel i, v, h => by
    cases h with
    | @cel _ b e =>
      rw [frzT]
      by_cases q : i = j
      · subst q
        rw [if_pos rfl]
        rw [ha] at e
        cases e
        exact .dat ra
      · rw [if_neg q]
        exact .cel e
  | .tup xs, v, h => by cases h with | tup s r => rw [frzT]; exact .tup (Same.seqT sg s) (TNs.frz sg ha ra xs _ r)
theorem TNs.frz (sg : Same G G') (ha : as[j]? = some a) (ra : Rep K G' d (.ref a)) : ∀ (xs : List TN) (vs : List V), TNs K G as xs vs → TNs K G' as (frzTs j d xs) vs
  | [], _, h => by cases h; rw [frzTs]; exact .nil
  | x :: xs, _, h => by cases h with | cons a b => rw [frzTs]; exact .cons (TNr.frz sg ha ra x _ a) (TNs.frz sg ha ra xs _ b)
end
end
def En.frzD (ρ : En) (j : Nat) (d : D) : En := ⟨ρ.sl.map (fun o => o.map (frzA j d)), ρ.ce.set j .gone⟩
abbrev En.frz (ρ : En) (j : Nat) (ds : List D) : En := ρ.frzD j (.lst ds)
/-- the data that a cell holds -/
def celD : Cell → Option D
  | .lst ds => some (.lst ds)
  | .ins C ns ds => some (.obj C ns ds)
  | _ => none
theorem EnvOk.frzD {as : List Addr} {σ : L2.St} {H G : Hp} {j : Nat} {a : Addr} {c0 : Cell} {d : D} (e : EnvOk K F ρ as σ H G) (hj : ρ.ce[j]? = some c0) (ha : as[j]? = some a) (hd : celD c0 = some d) : ∃ o, EnvOk K F (ρ.frzD j d) as σ H (upd G a o) ∧ Gr G as (upd G a o) as ∧ Rep K (upd G a o) d (.ref a) := by
  obtain ⟨fa, ⟨u, hu⟩, ok⟩ := e.ce j _ a hj ha
  obtain ⟨g, ra⟩ : G a = none ∧ Rep K (upd G a u) d (.ref a) := by
    cases c0 with
    | gone => cases hd
    | drw => cases hd
    | oth _ => cases hd
    | reg _ _ => cases hd
    | lst ds =>
      cases hd
      obtain ⟨g, vs, hv, hr⟩ := ok
      rw [hu] at hv
      cases hv
      exact ⟨g, .lst upd_same (Reps.mono (Same.new (Same.refl _) g) _ _ hr)⟩
    | ins C ns ds =>
      cases hd
      obtain ⟨g, dx, vs, hv, hl, hr⟩ := ok
      rw [hu] at hv
      cases hv
      exact ⟨g, .obj upd_same hl (Reps.mono (Same.new (Same.refl _) g) _ _ hr)⟩
  have sg : Same G (upd G a u) := Same.new (Same.refl _) g
  have hl : j < ρ.ce.length := (List.getElem?_eq_some_iff.mp hj).1
  refine ⟨u, ⟨fun b o h => ?_, e.fh, fun b o h => ?_, Same.trans e.g0 sg, e.nd, e.pr, by rw [e.ln]; exact (List.length_set).symm, fun i c b hc hb => ?_, by rw [e.sn]; exact (List.length_map _).symm, fun i av hi => ?_, by obtain ⟨Ts, r⟩ := e.rg; exact r.setC ha (fun _ _ z => by cases z) (fun b u _ h => h) (fun b _ n _ z => by rw [upd_ne n]; exact z) sg⟩, ⟨sg, [], by simp⟩, ra⟩
  · by_cases q : b = a
    · subst q; rw [upd_same] at h; cases h; exact hu
    · rw [upd_ne q] at h; exact e.gh _ _ h
  · by_cases q : b = a
    · subst q; exact .inr fa
    · rw [upd_ne q] at h; exact e.fg _ _ h
  · have hc' : (ρ.ce.set j .gone)[i]? = some c := hc
    by_cases hij : j = i
    · subst hij
      rw [List.getElem?_set_self hl] at hc'
      cases hc'
      rw [ha] at hb
      cases hb
      exact ⟨fa, ⟨_, hu⟩, trivial⟩
    · rw [List.getElem?_set_ne hij] at hc'
      obtain ⟨f, hu2, ok2⟩ := e.ce i c b hc' hb
      have nb : b ≠ a := fun z => by
        subst z
        exact hij ((List.getElem?_inj (List.getElem?_eq_some_iff.mp ha).1 e.nd).mp (ha.trans hb.symm))
      refine ⟨f, hu2, ?_⟩
      cases c with
      | gone => trivial
      | lst ds => obtain ⟨g, vs, h, r⟩ := ok2; exact ⟨by rw [upd_ne nb]; exact g, vs, h, Reps.mono sg _ _ r⟩
      | ins C9 ns9 ds => obtain ⟨g, dx9, vs, h, ln9, r⟩ := ok2; exact ⟨by rw [upd_ne nb]; exact g, dx9, vs, h, ln9, Reps.mono sg _ _ r⟩
      | drw => obtain ⟨g, vs, h, r⟩ := ok2; exact ⟨by rw [upd_ne nb]; exact g, vs, h, r⟩
      | reg t X => show upd G a u b = none; rw [upd_ne nb]; exact ok2
      | oth X => obtain ⟨g, o9, h, r⟩ := ok2; exact ⟨by rw [upd_ne nb]; exact g, o9, h, X.mono (fun _ _ z => .inl (sg _ _ z)) r⟩
  · have hi' : (ρ.sl.map (fun o => o.map (frzA j d)))[i]? = some (some av) := hi
    rw [List.getElem?_map] at hi'
    obtain ⟨o, ho, eo⟩ := Option.map_eq_some_iff.mp hi'
    obtain ⟨x, rfl, rfl⟩ := Option.map_eq_some_iff.mp eo
    obtain ⟨v, hv2, r⟩ := e.sl i x ho
    refine ⟨v, hv2, ?_⟩
    cases x with
    | dat d => exact Rep.mono sg _ _ r
    | tup xs =>
      obtain ⟨p, vs, rfl, s, rs⟩ := r
      exact ⟨p, vs, rfl, Same.seqT sg s, TNs.frz sg ha ra _ _ rs⟩
    | cel m =>
      obtain ⟨b, hb, rfl⟩ := r
      show RepA K _ as (if m = j then .dat d else .cel m) _
      by_cases q : m = j
      · subst q
        rw [if_pos rfl]
        rw [ha] at hb
        cases hb
        exact ra
      · rw [if_neg q]
        exact ⟨b, hb, rfl⟩
theorem EnvOk.frz {as : List Addr} {σ : L2.St} {H G : Hp} {j : Nat} {a : Addr} {ds : List D} (e : EnvOk K F ρ as σ H G) (hj : ρ.ce[j]? = some (.lst ds)) (ha : as[j]? = some a) : ∃ o, EnvOk K F (ρ.frz j ds) as σ H (upd G a o) ∧ Gr G as (upd G a o) as ∧ Rep K (upd G a o) (.lst ds) (.ref a) := e.frzD hj ha rfl
/-- values that become data -/
inductive Frz : List AV → En → List D → En → Prop
  | nil {ρ : En} : Frz [] ρ [] ρ
  | dat {d : D} {xs : List AV} {ρ ρ' : En} {ds : List D} : Frz xs ρ ds ρ' → Frz (.dat d :: xs) ρ (d :: ds) ρ'
  | cel {j : Nat} {es : List D} {xs : List AV} {ρ ρ' : En} {ds : List D} : ρ.ce[j]? = some (.lst es) → Frz xs (ρ.frz j es) ds ρ' → Frz (.cel j :: xs) ρ (.lst es :: ds) ρ'
  | ins {j : Nat} {C : Addr} {ns : List Str} {es : List D} {xs : List AV} {ρ ρ' : En} {ds : List D} : ρ.ce[j]? = some (.ins C ns es) → Frz xs (ρ.frzD j (.obj C ns es)) ds ρ' → Frz (.cel j :: xs) ρ (.obj C ns es :: ds) ρ'
theorem Frz.run {xs : List AV} {ρ' : En} {ds : List D} (f : Frz xs ρ ds ρ') : ∀ {as : List Addr} {σ : L2.St} {H G : Hp} {vs : List V}, EnvOk K F ρ as σ H G → RepAs K G as xs vs → ∃ G', EnvOk K F ρ' as σ H G' ∧ Gr G as G' as ∧ Reps K G' ds vs := by
  induction f with
  | nil => intro as σ H G vs e r; cases r; exact ⟨G, e, .refl, .nil⟩
  | dat _ ih =>
    intro as σ H G vs e r
    cases r with
    | cons a b =>
      obtain ⟨G', e', g, r'⟩ := ih e b
      exact ⟨G', e', g, .cons (Rep.mono g.g _ _ a) r'⟩
  | cel hc _ ih =>
    intro as σ H G vs e r
    cases r with
    | cons a b =>
      obtain ⟨p, hp, rfl⟩ := a
      obtain ⟨ws, e1, g1, r1⟩ := e.frz hc hp
      obtain ⟨G', e', g, r'⟩ := ih e1 (b.mono g1)
      exact ⟨G', e', g1.trans g, .cons (Rep.mono g.g _ _ r1) r'⟩
  | ins hc _ ih =>
    intro as σ H G vs e r
    cases r with
    | cons a b =>
      obtain ⟨p, hp, rfl⟩ := a
      obtain ⟨ws, e1, g1, r1⟩ := e.frzD hc hp rfl
      obtain ⟨G', e', g, r'⟩ := ih e1 (b.mono g1)
      exact ⟨G', e', g1.trans g, .cons (Rep.mono g.g _ _ r1) r'⟩
theorem we_tup {t : TA} (h : WpA K F t ρ fun xs ρ1 => ∃ ds ρ2, Frz xs ρ1 ds ρ2 ∧ Nat.ble ds.length 1000 = true ∧ k (.dat (.tup ds)) ρ2) : WpE K F (tTup t) ρ k := fun as σ H G e Q q =>
  h as σ H G e _ fun xs ρ1 vs as1 H1 G1 ⟨ds, ρ2, fz, hl, hk⟩ e1 g1 r1 => by
    obtain ⟨G2, e2, g2, r2⟩ := fz.run e1 r1
    refine ⟨sz (by rw [r2.length]; exact hl), fun p hp => ?_⟩
    obtain ⟨e3, g3⟩ := e2.newG (o := .tup vs) hp
    exact q _ _ _ _ _ _ hk e3 (g1.trans (g2.trans g3)) (Rep.tup (SqT.of upd_same) (Reps.mono g3.g _ _ r2))
def En.add (ρ : En) (ds : List D) : En := ⟨ρ.sl, ρ.ce ++ [.lst ds]⟩
theorem RepA.last {as : List Addr} {G : Hp} {p : Addr} {n : Nat} (h : as.length = n) : RepA K G (as ++ [p]) (.cel n) (.ref p) := ⟨p, by rw [List.getElem?_append_right (by omega), h]; simp, rfl⟩
theorem we_lst {t : TA} (h : WpA K F t ρ fun xs ρ1 => ∃ ds ρ2, Frz xs ρ1 ds ρ2 ∧ Nat.ble ds.length 1000 = true ∧ k (.cel ρ2.ce.length) (ρ2.add ds)) : WpE K F (tLst t) ρ k := fun as σ H G e Q q =>
  h as σ H G e _ fun xs ρ1 vs as1 H1 G1 ⟨ds, ρ2, fz, hl, hk⟩ e1 g1 r1 => by
    obtain ⟨G2, e2, g2, r2⟩ := fz.run e1 r1
    refine ⟨sz (by rw [r2.length]; exact hl), fun p hp => ?_⟩
    obtain ⟨e3, g3⟩ := e2.newC hp r2
    exact q _ _ _ _ _ _ hk e3 (g1.trans (g2.trans g3)) (RepA.last e2.ln)
end
/-! ### rules of the data layer: lists that are written to, loops, comprehensions -/
section
variable {K : PySem.W.Frag} {F : Fx} {ρ : En} {k : AV → En → Prop} {kb : Bool → En → Prop} {ks : KS} {t u : TS} {ta tb te : TE} {tt tu : TT}
def lstC : Cell → Bool
  | .lst _ => true
  | .drw => true
  | _ => false
def En.cell (ρ : En) (j : Nat) (c : Cell) : En := ⟨ρ.sl, ρ.ce.set j c⟩
theorem we_bm {r : V → List V → Hp → VK → Prop} {t : TA} (h : WpE K F ta ρ fun x ρ1 => (∃ j c, x = .cel j ∧ ρ1.ce[j]? = some c ∧ lstC c = true) ∧ WpA K F t ρ1 fun xs ρ2 => WpM K F r x xs ρ2 k) : WpE K F (tBM K "list" r ta t) ρ k := fun as σ H G e Q q =>
  h as σ H G e _ fun x ρ1 vx as1 H1 G1 ⟨⟨j, c, ex, hc, hg⟩, h1⟩ e1 g1 r1 => by
    subst ex
    obtain ⟨a, ha, rfl⟩ := id r1
    refine ⟨.inl ⟨rfl, ?_⟩, h1 as1 σ H1 G1 e1 _ fun xs ρ2 vs as2 H2 G2 h2 e2 g2 r2 => h2 as2 σ H2 G2 _ vs e2 (r1.mono g2) r2 Q (q.imp (g1.trans g2) fun _ _ z => z)⟩
    obtain ⟨_, _, ok⟩ := e1.ce j c a hc ha
    cases c with
    | gone => cases hg
    | oth _ => cases hg
    | reg _ _ => cases hg
    | ins _ _ _ => cases hg
    | lst ds => obtain ⟨_, vs, h, _⟩ := ok; exact ⟨vs, SqL.of h⟩
    | drw => obtain ⟨_, vs, h, _⟩ := ok; exact ⟨vs, SqL.of h⟩
theorem we_bm0 {r : V → List V → Hp → VK → Prop} (h : WpE K F ta ρ fun x ρ1 => (∃ j c, x = .cel j ∧ ρ1.ce[j]? = some c ∧ lstC c = true) ∧ WpM K F r x [] ρ1 k) : WpE K F (tBM0 K "list" r ta) ρ k := fun as σ H G e Q q =>
  h as σ H G e _ fun x ρ1 vx as1 H1 G1 ⟨⟨j, c, ex, hc, hg⟩, h1⟩ e1 g1 r1 => by
    subst ex
    obtain ⟨a, ha, rfl⟩ := id r1
    refine ⟨.inl ⟨rfl, ?_⟩, h1 as1 σ H1 G1 _ [] e1 r1 .nil Q (q.imp g1 fun _ _ z => z)⟩
    obtain ⟨_, _, ok⟩ := e1.ce j c a hc ha
    cases c with
    | gone => cases hg
    | oth _ => cases hg
    | reg _ _ => cases hg
    | ins _ _ _ => cases hg
    | lst ds => obtain ⟨_, vs, h, _⟩ := ok; exact ⟨vs, SqL.of h⟩
    | drw => obtain ⟨_, vs, h, _⟩ := ok; exact ⟨vs, SqL.of h⟩
theorem wm_append {j : Nat} {x : AV} {ds : List D} {d : D} {ρ2 : En} (fz : Frz [x] ρ [d] ρ2) (hc : ρ2.ce[j]? = some (.lst ds)) (hl : ds.length < 16000000) (hk : k (.dat .non) (ρ2.cell j (.lst (ds ++ [d])))) : WpM K F rAppend (.cel j) [x] ρ k := fun as σ H G v vs e r1 r2 Q q => by
  obtain ⟨G2, e2, g2, r3⟩ := fz.run e r2
  obtain ⟨a, ha, rfl⟩ := r1
  cases r3 with
  | cons y z =>
    cases z
    obtain ⟨_, _, g, ws, hw, hr⟩ := e2.ce j _ a hc ha
    refine ⟨a, ws, _, rfl, rfl, hw, szbl (by rw [hr.length]; omega), q _ _ _ as _ G2 hk (e2.setC hc ha g ⟨g, _, upd_same, hr.append (.cons y .nil)⟩) g2 Rep.non⟩
theorem wm_clear {j : Nat} {ds : List D} (hc : ρ.ce[j]? = some (.lst ds)) (hk : k (.dat .non) (ρ.cell j (.lst []))) : WpM K F rClear (.cel j) [] ρ k := fun as σ H G v vs e r1 r2 Q q => by
  obtain ⟨a, ha, rfl⟩ := r1
  cases r2
  obtain ⟨_, _, g, ws, hw, hr⟩ := e.ce j _ a hc ha
  exact ⟨a, ws, rfl, rfl, hw, q _ _ _ as _ G hk (e.setC hc ha g ⟨g, _, upd_same, .nil⟩) .refl Rep.non⟩
/-- the answer is a new list -/
theorem new_list {as : List Addr} {σ : L2.St} {H G : Hp} {p : Addr} {vs : List V} {ds : List D} {Q : VK} (e : EnvOk K F ρ as σ H G) (q : Got K F ρ as σ G k Q) (hr : Reps K G ds vs) (hk : k (.cel ρ.ce.length) (ρ.add ds)) (hp : H p = none) : Q (.ref p) (upd H p (.lst vs)) := by
  obtain ⟨e3, g3⟩ := e.newC hp hr
  exact q _ _ _ _ _ _ hk e3 g3 (RepA.last e.ln)
theorem wc_list {x : AV} {ds : List D} (hx : IsL ρ x ds) (hk : k (.cel ρ.ce.length) (ρ.add ds)) : WpC K F (fun xs H Q => ∃ p ys, xs = [.ref p] ∧ (SqL K H p ys ∨ SqT K H p ys) ∧ ∀ l, H l = none → Q (.ref l) (upd H l (.lst ys))) [x] ρ k := fun as σ H G vs e r Q q => by
  cases r with
  | cons r c =>
    cases c
    obtain ⟨a, vs, rfl, hs, hr⟩ := hx.rep e r
    exact ⟨a, vs, rfl, .inl hs, fun p hp => new_list e q hr hk hp⟩
theorem wc_listT {ds : List D} (hk : k (.cel ρ.ce.length) (ρ.add ds)) : WpC K F (fun xs H Q => ∃ p ys, xs = [.ref p] ∧ (SqL K H p ys ∨ SqT K H p ys) ∧ ∀ l, H l = none → Q (.ref l) (upd H l (.lst ys))) [.dat (.tup ds)] ρ k := fun as σ H G vs e r Q q => by
  cases r with
  | cons r c =>
    cases c
    obtain ⟨a, vs, rfl, hs, hr⟩ := Rep.tupE r
    exact ⟨a, vs, rfl, .inr (Same.seqT e.gh hs), fun p hp => new_list e q hr hk hp⟩
theorem wc_tuple {x : AV} {ds : List D} (hx : IsL ρ x ds) (hk : k (.dat (.tup ds)) ρ) : WpC K F (fun xs H Q => ∃ p ys, xs = [.ref p] ∧ ((SqL K H p ys ∧ ∀ l, H l = none → Q (.ref l) (upd H l (.tup ys))) ∨ (SqT K H p ys ∧ Q (.ref p) H))) [x] ρ k := fun as σ H G vs e r Q q => by
  cases r with
  | cons r c =>
    cases c
    obtain ⟨a, vs, rfl, hs, hr⟩ := hx.rep e r
    refine ⟨a, vs, rfl, .inl ⟨hs, fun p hp => ?_⟩⟩
    obtain ⟨e3, g3⟩ := e.newG (o := .tup vs) hp
    exact q _ _ _ _ _ _ hk e3 g3 (Rep.tup (SqT.of upd_same) (Reps.mono g3.g _ _ hr))
theorem wr_cat {x y : AV} {ds es : List D} (hx : IsL ρ x ds) (hy : IsL ρ y es) (hl : ds.length + es.length ≤ 16000000) (hk : k (.cel ρ.ce.length) (ρ.add (ds ++ es))) : WpR K F (rCatF K) x y ρ k := fun as σ H G vx vy e r1 r2 Q q => by
  obtain ⟨a, vs, rfl, hs, hr⟩ := hx.rep e r1
  obtain ⟨b, ws, rfl, hs2, hr2⟩ := hy.rep e r2
  exact ⟨a, b, vs, ws, rfl, rfl, hs, hs2, szb (by rw [hr.length, hr2.length]; exact hl), fun p hp => new_list e q (hr.append hr2) hk hp⟩
/-- a list that may be copied whole: data, or a cell -/
inductive IsP (ρ : En) : AV → List D → Prop
  | dat (ds : List D) : IsP ρ (.dat (.lst ds)) ds
  | cel {j : Nat} {ds : List D} : ρ.ce[j]? = some (.lst ds) → IsP ρ (.cel j) ds
theorem IsP.rep {as : List Addr} {σ : L2.St} {H G : Hp} {x : AV} {ds : List D} {v : V} (e : EnvOk K F ρ as σ H G) (h : IsP ρ x ds) (r : RepA K G as x v) : ∃ a vs, v = .ref a ∧ H a = some (.lst vs) ∧ Reps K G ds vs := by
  cases h with
  | dat => obtain ⟨a, vs, rfl, hs, hr⟩ := Rep.lstE r; exact ⟨a, vs, rfl, e.gh _ _ hs, hr⟩
  | cel hc =>
    obtain ⟨a, ha, rfl⟩ := r
    obtain ⟨_, _, _, vs, hv, hr⟩ := e.ce _ _ a hc ha
    exact ⟨a, vs, rfl, hv, hr⟩
theorem wr_rep {x : AV} {ds : List D} {n : Int} (hx : IsP ρ x ds) (h0 : 0 ≤ n) (h1 : n < 1000000) (hl : ds.length * n.toNat ≤ 16000000) (hk : k (.cel ρ.ce.length) (ρ.add (List.replicate n.toNat ds).flatten)) : WpR K F rRep x (.dat (.int n)) ρ k := fun as σ H G vx vy e r1 r2 Q q => by
  obtain ⟨a, vs, rfl, hs, hr⟩ := hx.rep e r1
  exact ⟨a, n, vs, rfl, Rep.intE r2, hs, by omega, by omega, szb (by rw [hr.length]; exact hl), fun p hp => new_list e q (hr.rep n.toNat) hk hp⟩
theorem wm_extend {j : Nat} {x : AV} {ds es : List D} (hx : IsP ρ x es) (hc : ρ.ce[j]? = some (.lst ds)) (hl : ds.length + es.length ≤ 16000000) (hk : k (.dat .non) (ρ.cell j (.lst (ds ++ es)))) : WpM K F rExtend (.cel j) [x] ρ k := fun as σ H G v vs e r1 r2 Q q => by
  obtain ⟨a, ha, rfl⟩ := r1
  cases r2 with
  | cons r2 r3 =>
    cases r3
    obtain ⟨b, ws, rfl, hw, hr⟩ := hx.rep e r2
    obtain ⟨_, _, g, us, hu, hr2⟩ := e.ce j _ a hc ha
    exact ⟨a, b, us, ws, rfl, rfl, hu, hw, szb (by rw [hr.length, hr2.length]; omega), q _ _ _ as _ G hk (e.setC hc ha g ⟨g, _, upd_same, hr2.append hr⟩) .refl Rep.non⟩
def cutD (xs : List D) (lo hi : Option Int) : List D := (xs.drop (HT.sIx xs.length 0 lo)).take (HT.sIx xs.length xs.length hi - HT.sIx xs.length 0 lo)
theorem Reps.cut {G : Hp} {ds : List D} {vs : List V} (h : Reps K G ds vs) (lo hi : Option Int) : Reps K G (cutD ds lo hi) (cutV vs lo hi) := by
  unfold cutD cutV
  rw [h.length]
  exact (h.drop _).take _
def WpO (K : PySem.W.Frag) (F : Fx) (t : TO) (ρ : En) (k : Option Int → En → Prop) : Prop := ∀ as σ H G, EnvOk K F ρ as σ H G → ∀ Q : Option Int → Hp → Prop, (∀ b ρ' as' H' G', k b ρ' → EnvOk K F ρ' as' σ H' G' → Gr G as G' as' → Q b H') → t σ H Q
theorem wo_none {ko : Option Int → En → Prop} (h : ko none ρ) : WpO K F tNoPart ρ ko := fun as σ H G e Q q => q _ _ _ _ _ h e .refl
theorem wo_some {ko : Option Int → En → Prop} (h : WpE K F te ρ fun x ρ1 => ∃ i, x = .dat (.int i) ∧ ko (some i) ρ1) : WpO K F (tPart te) ρ ko := fun as σ H G e Q q =>
  h as σ H G e _ fun x ρ1 vx as1 H1 G1 ⟨c, ex, hc⟩ e1 g1 r1 => by
    subst ex
    exact ⟨c, Rep.intE r1, q _ _ _ _ _ hc e1 g1⟩
theorem we_slL {tl th : TO} (h : WpE K F te ρ fun x ρ1 => WpO K F tl ρ1 fun lo ρ2 => WpO K F th ρ2 fun hi ρ3 => ∃ ds, IsL ρ3 x ds ∧ k (.cel ρ3.ce.length) (ρ3.add (cutD ds lo hi))) : WpE K F (tSl (rSlL K) te tl th) ρ k := fun as σ H G e Q q =>
  h as σ H G e _ fun x ρ1 vx as1 H1 G1 h1 e1 g1 r1 => h1 as1 σ H1 G1 e1 _ fun lo ρ2 as2 H2 G2 h2 e2 g2 => h2 as2 σ H2 G2 e2 _ fun hi ρ3 as3 H3 G3 ⟨ds, hd, h3⟩ e3 g3 => by
    obtain ⟨a, vs, rfl, hs, hr⟩ := hd.rep e3 (r1.mono (g2.trans g3))
    exact ⟨a, vs, rfl, hs, fun p hp => new_list e3 (q.imp (g1.trans (g2.trans g3)) fun _ _ z => z) (hr.cut lo hi) h3 hp⟩
/-! what is walked -/
def ItS (K : PySem.W.Frag) (F : Fx) (J : It) (ds : List D) (gd : En → Prop) (as0 : List Addr) (G0 : Hp) : Prop := ∀ ρ as σ H G, EnvOk K F ρ as σ H G → Gr G0 as0 G as → gd ρ →
  (∀ i, i < ds.length → J.go i H) ∧ J.stop ds.length H ∧ ∀ i x H', i < ds.length → J.yld i H x H' → ∃ d G', ds[i]? = some d ∧ (∀ σ', EnvOk K F ρ as σ' H G → EnvOk K F ρ as σ' H' G') ∧ Gr G as G' as ∧ Rep K G' d x
def WpI (K : PySem.W.Frag) (F : Fx) (wi : TI) (ρ : En) (k : List D → (En → Prop) → En → Prop) : Prop := ∀ as σ H G, EnvOk K F ρ as σ H G → ∀ R : It → Hp → Prop, (∀ ds gd J ρ' as' H' G', k ds gd ρ' → EnvOk K F ρ' as' σ H' G' → Gr G as G' as' → ItS K F J ds gd as' G' → R J H') → wi σ H R
theorem wi_list {ki : List D → (En → Prop) → En → Prop} {tl : TE} (h : WpE K F tl ρ fun x ρ1 => ∃ ds, IsL ρ1 x ds ∧ ki ds (fun ρ2 => IsL ρ2 x ds) ρ1) : WpI K F (iList K tl) ρ ki := fun as σ H G e R q =>
  h as σ H G e _ fun x ρ1 vx as1 H1 G1 ⟨ds, hx, h1⟩ e1 g1 r1 => by
    obtain ⟨a, vs, rfl, hs, hr⟩ := hx.rep e1 r1
    refine ⟨a, rfl, ⟨vs, hs⟩, q _ _ _ _ _ _ _ h1 e1 g1 fun ρ2 as2 σ2 H2 G2 e2 g2 hx2 => ?_⟩
    obtain ⟨a2, ws, ea, hs2, hr2⟩ := hx2.rep e2 (r1.mono g2)
    cases ea
    have w := walk_list (K := K) (a := a) (xs := ws)
    rw [hr2.length] at w
    refine ⟨fun i hi => w.goes i H2 hi hs2, w.stops H2 hs2, fun i x H' hi y => ?_⟩
    obtain ⟨rfl, hx⟩ := w.yields i H2 x H' hi hs2 y
    obtain ⟨d, hd⟩ : ∃ d, ds[i]? = some d := ⟨_, List.getElem?_eq_getElem hi⟩
    obtain ⟨v, hv, rv⟩ := hr2.get hd
    rw [hx] at hv
    cases hv
    exact ⟨d, G2, hd, fun _ z => z, .refl, rv⟩
theorem wi_tup {ki : List D → (En → Prop) → En → Prop} {tl : TE} (h : WpE K F tl ρ fun x ρ1 => ∃ ds, x = .dat (.tup ds) ∧ ki ds (fun _ => True) ρ1) : WpI K F (iTup K tl) ρ ki := fun as σ H G e R q =>
  h as σ H G e _ fun x ρ1 vx as1 H1 G1 ⟨ds, ex, h1⟩ e1 g1 r1 => by
    subst ex
    obtain ⟨a, vs, rfl, hs, hr⟩ := Rep.tupE r1
    refine ⟨a, rfl, ⟨vs, Same.seqT e1.gh hs⟩, q _ _ _ _ _ _ _ h1 e1 g1 fun ρ2 as2 σ2 H2 G2 e2 g2 _ => ?_⟩
    have hs2 := Same.seqT (Same.trans g2.g e2.gh) hs
    have w := walk_tup (K := K) (a := a) (xs := vs)
    rw [hr.length] at w
    refine ⟨fun i hi => w.goes i H2 hi hs2, w.stops H2 hs2, fun i x H' hi y => ?_⟩
    obtain ⟨rfl, hx⟩ := w.yields i H2 x H' hi hs2 y
    obtain ⟨d, hd⟩ : ∃ d, ds[i]? = some d := ⟨_, List.getElem?_eq_getElem hi⟩
    obtain ⟨v, hv, rv⟩ := hr.get hd
    rw [hx] at hv
    cases hv
    exact ⟨d, G2, hd, fun _ z => z, .refl, Rep.mono g2.g _ _ rv⟩
def rngD (lo : Int) (n : Nat) : List D := (List.range n).map fun (i : Nat) => D.int (lo + i)
theorem its_range {lo : Int} {n : Nat} {as : List Addr} {G : Hp} : ItS K F (Itr lo n) (rngD lo n) (fun _ => True) as G := fun ρ2 as2 σ2 H2 G2 e2 g2 _ => by
  have w := walk_range (lo := lo) (n := n)
  have ln : (rngD lo n).length = n := by unfold rngD; rw [List.length_map, List.length_range]
  refine ⟨fun i hi => w.goes i H2 (ln ▸ hi) trivial, by rw [ln]; exact w.stops H2 trivial, fun i x H' hi y => ?_⟩
  obtain ⟨rfl, rfl⟩ := w.yields i H2 x H' (ln ▸ hi) trivial y
  exact ⟨.int (lo + i), G2, by unfold rngD; rw [List.getElem?_map, List.getElem?_range (ln ▸ hi)]; rfl, fun _ z => z, .refl, Rep.int _⟩
theorem wi_rng1 {ki : List D → (En → Prop) → En → Prop} {t : TA} (h : WpA K F t ρ fun xs ρ1 => ∃ j : Int, xs = [.dat (.int j)] ∧ (-(2 ^ 62) ≤ j ∧ j < 2 ^ 62) ∧ ki (rngD 0 j.toNat) (fun _ => True) ρ1) : WpI K F (iRng1 t) ρ ki := fun as σ H G e R q =>
  h as σ H G e _ fun xs ρ1 vs as1 H1 G1 ⟨j, ex, hj, h1⟩ e1 g1 r1 => by
    subst ex
    cases r1 with
    | cons a b => cases b; exact ⟨j, by rw [Rep.intE a], hj.1, hj.2, q _ _ _ _ _ _ _ h1 e1 g1 its_range⟩
theorem wi_rng2 {ki : List D → (En → Prop) → En → Prop} {t : TA} (h : WpA K F t ρ fun xs ρ1 => ∃ i j : Int, xs = [.dat (.int i), .dat (.int j)] ∧ (-(2 ^ 62) ≤ i ∧ i < 2 ^ 62 ∧ -(2 ^ 62) ≤ j ∧ j < 2 ^ 62) ∧ ki (rngD i (j - i).toNat) (fun _ => True) ρ1) : WpI K F (iRng2 t) ρ ki := fun as σ H G e R q =>
  h as σ H G e _ fun xs ρ1 vs as1 H1 G1 ⟨i, j, ex, hj, h1⟩ e1 g1 r1 => by
    subst ex
    cases r1 with
    | cons a b => cases b with | cons b c => cases c; exact ⟨i, j, by rw [Rep.intE a, Rep.intE b], hj, q _ _ _ _ _ _ _ h1 e1 g1 its_range⟩
/-! for -/
/-- cells that a turn made are forgotten -/
def truA (n : Nat) : AV → Option AV
  | .cel j => if j < n then some (.cel j) else none
  | .dat d => some (.dat d)
  | .tup _ => none
theorem pre_take {α : Type} {xs ys : List α} {n : Nat} (h : xs <+: ys) (hn : xs.length ≤ n) : xs <+: ys.take n := by
  obtain ⟨r, rfl⟩ := h
  rw [List.take_append, List.take_of_length_le hn]
  exact List.prefix_append _ _
def En.trunc (ρ : En) (n : Nat) : En := ⟨ρ.sl.map (fun o => o.bind (truA n)), ρ.ce.take n⟩
theorem EnvOk.trunc {as : List Addr} {σ : L2.St} {H G : Hp} (e : EnvOk K F ρ as σ H G) (n : Nat) (hn : F.as0.length ≤ n) : EnvOk K F (ρ.trunc n) (as.take n) σ H G := by
  refine ⟨e.gh, e.fh, e.fg, e.g0, List.Nodup.sublist (List.take_sublist n as) e.nd, pre_take e.pr hn, ?_, fun j c a hc ha => ?_, ?_, fun i av hi => ?_, ?_⟩
  · show (as.take n).length = (ρ.ce.take n).length
    rw [List.length_take, List.length_take, e.ln]
  · have hc : (ρ.ce.take n)[j]? = some c := hc
    rw [List.getElem?_take] at hc ha
    split at hc
    · rename_i h
      rw [if_pos h] at ha
      exact e.ce j c a hc ha
    · cases hc
  · show σ.length = (ρ.sl.map _).length
    rw [List.length_map]
    exact e.sn
  · have hi : (ρ.sl.map (fun o => o.bind (truA n)))[i]? = some (some av) := hi
    rw [List.getElem?_map] at hi
    obtain ⟨o, ho, eo⟩ := Option.map_eq_some_iff.mp hi
    obtain ⟨x, rfl, ex⟩ := Option.bind_eq_some_iff.mp eo
    obtain ⟨v, hv, r⟩ := e.sl i x ho
    refine ⟨v, hv, ?_⟩
    cases x with
    | dat d => cases ex; exact r
    | tup xs => cases ex
    | cel j =>
      have ex : (if j < n then some (AV.cel j) else none) = some av := ex
      split at ex
      · rename_i h
        cases ex
        obtain ⟨a, ha, rfl⟩ := r
        exact ⟨a, by rw [List.getElem?_take, if_pos h]; exact ha, rfl⟩
      · cases ex
  · obtain ⟨Ts, r⟩ := e.rg
    refine r.sub (fun i t X h => ?_) (fun i b h => ?_) (fun i t X b o _ hb => ⟨(r.pl i b o hb).1, (r.pl i b o hb).2.1, (r.pl i b o hb).2.2.1⟩) (fun _ _ z => .inl z)
    · have h : (ρ.ce.take n)[i]? = some (Cell.reg t X) := h
      rw [List.getElem?_take] at h
      split at h
      · rename_i hi
        exact ⟨h, by rw [List.getElem?_take, if_pos hi]⟩
      · cases h
    · rw [List.getElem?_take] at h
      split at h
      · exact .inr h
      · cases h
theorem Gr.trunc {G0 G : Hp} {as0 as : List Addr} {n : Nat} (g : Gr G0 as0 G as) (h : as0.length ≤ n) : Gr G0 as0 G (as.take n) := by
  obtain ⟨g, r, rfl⟩ := g
  exact ⟨g, r.take (n - as0.length), by rw [List.take_append, List.take_of_length_le h]⟩
/-- .. all but one, which is then the next -/
def kepA (n j : Nat) : AV → Option AV
  | .cel i => if i = j then some (.cel n) else if i < n then some (.cel i) else none
  | .dat d => some (.dat d)
  | .tup _ => none
def En.keep (ρ : En) (n j : Nat) : En := ⟨ρ.sl.map (fun o => o.bind (kepA n j)), ρ.ce.take n ++ (ρ.ce[j]?).toList⟩
theorem EnvOk.keep {as : List Addr} {σ : L2.St} {H G : Hp} (e : EnvOk K F ρ as σ H G) {n j : Nat} (hn : F.as0.length ≤ n) (h1 : n ≤ j) (h2 : j < ρ.ce.length) : EnvOk K F (ρ.keep n j) (as.take n ++ (as[j]?).toList) σ H G := by
  have ja : j < as.length := by rw [e.ln]; exact h2
  have ea : as[j]? = some as[j] := List.getElem?_eq_getElem ja
  have ec : ρ.ce[j]? = some ρ.ce[j] := List.getElem?_eq_getElem h2
  have la : (as.take n).length = n := by rw [List.length_take]; omega
  have lc : (ρ.ce.take n).length = n := by rw [List.length_take]; omega
  have at_a : ∀ i, (as.take n ++ (as[j]?).toList)[i]? = if i < n then as[i]? else if i = n then some as[j] else none := fun i => by
    rw [ea]
    by_cases c : i < n
    · rw [if_pos c, List.getElem?_append_left (by rw [la]; exact c), List.getElem?_take, if_pos c]
    · rw [if_neg c, List.getElem?_append_right (by rw [la]; omega), la]
      by_cases c2 : i = n
      · rw [if_pos c2, c2, Nat.sub_self]; rfl
      · rw [if_neg c2]
        exact List.getElem?_eq_none (by show 1 ≤ i - n; omega)
  have at_c : ∀ i, (ρ.ce.take n ++ (ρ.ce[j]?).toList)[i]? = if i < n then ρ.ce[i]? else if i = n then some ρ.ce[j] else none := fun i => by
    rw [ec]
    by_cases c : i < n
    · rw [if_pos c, List.getElem?_append_left (by rw [lc]; exact c), List.getElem?_take, if_pos c]
    · rw [if_neg c, List.getElem?_append_right (by rw [lc]; omega), lc]
      by_cases c2 : i = n
      · rw [if_pos c2, c2, Nat.sub_self]; rfl
      · rw [if_neg c2]
        exact List.getElem?_eq_none (by show 1 ≤ i - n; omega)
  have sub : (as.take n ++ (as[j]?).toList).Sublist as := by
    rw [ea]
    conv => rhs; rw [← List.take_append_drop n as]
    refine List.Sublist.append (List.Sublist.refl _) (List.singleton_sublist.mpr ?_)
    refine List.mem_of_getElem? (i := j - n) ?_
    rw [List.getElem?_drop, show n + (j - n) = j by omega]
    exact ea
  refine ⟨e.gh, e.fh, e.fg, e.g0, List.Nodup.sublist sub e.nd, (pre_take e.pr hn).trans (List.prefix_append _ _), ?_, fun i c a hc ha => ?_, ?_, fun i av hi => ?_, ?_⟩
  · show (as.take n ++ _).length = (ρ.ce.take n ++ _).length
    rw [List.length_append, List.length_append, la, lc, ea, ec]; rfl
  · have hc : (ρ.ce.take n ++ (ρ.ce[j]?).toList)[i]? = some c := hc
    rw [at_c] at hc
    rw [at_a] at ha
    split at hc
    · rename_i h
      rw [if_pos h] at ha
      exact e.ce i c a hc ha
    · rename_i h
      rw [if_neg h] at ha
      split at hc
      · rename_i h3
        rw [if_pos h3] at ha
        exact e.ce j c a (ec.trans hc) (ea.trans ha)
      · cases hc
  · show σ.length = (ρ.sl.map _).length
    rw [List.length_map]
    exact e.sn
  · have hi : (ρ.sl.map (fun o => o.bind (kepA n j)))[i]? = some (some av) := hi
    rw [List.getElem?_map] at hi
    obtain ⟨o, ho, eo⟩ := Option.map_eq_some_iff.mp hi
    obtain ⟨x, rfl, ex⟩ := Option.bind_eq_some_iff.mp eo
    obtain ⟨v, hv, r⟩ := e.sl i x ho
    refine ⟨v, hv, ?_⟩
    cases x with
    | dat d => cases ex; exact r
    | tup xs => cases ex
    | cel k =>
      have ex : (if k = j then some (AV.cel n) else if k < n then some (AV.cel k) else none) = some av := ex
      obtain ⟨a, ha, rfl⟩ := r
      split at ex
      · rename_i h
        cases ex
        subst h
        exact ⟨a, by rw [at_a, if_neg (Nat.lt_irrefl _), if_pos rfl]; exact ea.symm.trans ha, rfl⟩
      · split at ex
        · rename_i h
          cases ex
          exact ⟨a, by rw [at_a, if_pos h]; exact ha, rfl⟩
        · cases ex
  · obtain ⟨Ts, r⟩ := e.rg
    have at_g : ∀ i t X, (ρ.keep n j).ce[i]? = some (Cell.reg t X) → (i < n ∧ ρ.ce[i]? = some (Cell.reg t X)) ∨ (i = n ∧ ρ.ce[j]? = some (Cell.reg t X)) := fun i t X h => by
      have h : (ρ.ce.take n ++ (ρ.ce[j]?).toList)[i]? = some (Cell.reg t X) := h
      rw [at_c] at h
      split at h
      · rename_i q; exact .inl ⟨q, h⟩
      · split at h
        · rename_i q; exact .inr ⟨q, by rw [ec]; exact h⟩
        · cases h
    refine ⟨_, r.map (fun i => match (ρ.keep n j).ce[i]? with | some (.reg _ _) => (if i < n then some i else some j) | _ => none) (fun i t X h => ?_) (fun i i0 h => ?_) (fun i k l h1 h2 => ?_) (fun i b h => ?_) (fun i i0 b o h hb => ⟨(r.pl i0 b o hb).1, (r.pl i0 b o hb).2.1, (r.pl i0 b o hb).2.2.1⟩) (fun _ _ z => .inl z)⟩
    · rcases at_g i t X h with ⟨q, z⟩ | ⟨q, z⟩
      · exact ⟨i, by simp only [h, if_pos q], z, by rw [at_a, if_pos q]⟩
      · subst q
        exact ⟨j, by simp only [h, if_neg (Nat.lt_irrefl _)], z, by rw [at_a, if_neg (Nat.lt_irrefl _), if_pos rfl, ea]⟩
    · split at h
      · rename_i t X z; exact ⟨t, X, z⟩
      · cases h
    · have lt : ∀ {i l}, (match (ρ.keep n j).ce[i]? with | some (.reg _ _) => (if i < n then some i else some j) | _ => none) = some l → (i < n ∧ l = i) ∨ (i = n ∧ l = j) := fun {i l} h => by
        split at h
        · rename_i t X z
          rcases at_g i t X z with ⟨q, _⟩ | ⟨q, _⟩
          · rw [if_pos q] at h; cases h; exact .inl ⟨q, rfl⟩
          · rw [if_neg (by omega)] at h; cases h; exact .inr ⟨q, rfl⟩
        · cases h
      rcases lt h1 with ⟨a1, a2⟩ | ⟨a1, a2⟩ <;> rcases lt h2 with ⟨b1, b2⟩ | ⟨b1, b2⟩ <;> omega
    · refine .inr ?_
      rw [at_a] at h
      split at h
      · rename_i q
        refine ⟨i, h, fun k hk => ?_⟩
        split at hk
        · split at hk
          · cases hk; rfl
          · cases hk; omega
        · cases hk
      · split at h
        · rename_i q
          refine ⟨j, by rw [ea]; exact h, fun k hk => ?_⟩
          split at hk
          · rename_i t X z
            rcases at_g k t X z with ⟨q2, _⟩ | ⟨q2, _⟩
            · rw [if_pos q2] at hk; cases hk; omega
            · omega
          · cases hk
        · cases h
theorem Gr.keep {G0 G : Hp} {as0 as r : List Addr} {n : Nat} (g : Gr G0 as0 G as) (h : as0.length ≤ n) : Gr G0 as0 G (as.take n ++ r) := by
  obtain ⟨g, s, rfl⟩ := g
  exact ⟨g, s.take (n - as0.length) ++ r, by rw [List.take_append, List.take_of_length_le h, List.append_assoc]⟩
/-- .. the cells from n to j are forgotten, what stands behind them moves up -/
def drpA (n j : Nat) : AV → Option AV
  | .cel i => if i < n then some (.cel i) else if i < j then none else some (.cel (i - (j - n)))
  | .dat d => some (.dat d)
  | .tup _ => none
def En.drp (ρ : En) (n j : Nat) : En := ⟨ρ.sl.map (fun o => o.bind (drpA n j)), ρ.ce.take n ++ ρ.ce.drop j⟩
theorem EnvOk.drp {as : List Addr} {σ : L2.St} {H G : Hp} (e : EnvOk K F ρ as σ H G) {n j : Nat} (hn : F.as0.length ≤ n) (h1 : n ≤ j) (h2 : j ≤ ρ.ce.length) : EnvOk K F (ρ.drp n j) (as.take n ++ as.drop j) σ H G := by
  have gen : ∀ {α : Type} (l : List α) (i : Nat), j ≤ l.length → (l.take n ++ l.drop j)[i]? = if i < n then l[i]? else l[i + (j - n)]? := fun l i hl => by
    have lt : (l.take n).length = n := by rw [List.length_take]; omega
    by_cases c : i < n
    · rw [if_pos c, List.getElem?_append_left (by rw [lt]; exact c), List.getElem?_take, if_pos c]
    · rw [if_neg c, List.getElem?_append_right (by rw [lt]; omega), lt, List.getElem?_drop]
      congr 1
      omega
  have ja : j ≤ as.length := by rw [e.ln]; exact h2
  have at_a := fun i => gen as i ja
  have at_c := fun i => gen ρ.ce i h2
  have sub : (as.take n ++ as.drop j).Sublist as := by
    conv => rhs; rw [← List.take_append_drop n as]
    refine List.Sublist.append (List.Sublist.refl _) ?_
    rw [show j = n + (j - n) by omega, ← List.drop_drop]
    exact List.drop_sublist _ _
  refine ⟨e.gh, e.fh, e.fg, e.g0, List.Nodup.sublist sub e.nd, (pre_take e.pr hn).trans (List.prefix_append _ _), ?_, fun i c a hc ha => ?_, ?_, fun i av hi => ?_, ?_⟩
  · show (as.take n ++ as.drop j).length = (ρ.ce.take n ++ ρ.ce.drop j).length
    rw [List.length_append, List.length_append, List.length_take, List.length_take, List.length_drop, List.length_drop, e.ln]
  · have hc : (ρ.ce.take n ++ ρ.ce.drop j)[i]? = some c := hc
    rw [at_c] at hc
    rw [at_a] at ha
    split at hc
    · rename_i q; rw [if_pos q] at ha; exact e.ce i c a hc ha
    · rename_i q; rw [if_neg q] at ha; exact e.ce _ c a hc ha
  · show σ.length = (ρ.sl.map _).length
    rw [List.length_map]
    exact e.sn
  · have hi : (ρ.sl.map (fun o => o.bind (drpA n j)))[i]? = some (some av) := hi
    rw [List.getElem?_map] at hi
    obtain ⟨o, ho, eo⟩ := Option.map_eq_some_iff.mp hi
    obtain ⟨x, rfl, ex⟩ := Option.bind_eq_some_iff.mp eo
    obtain ⟨v, hv, r⟩ := e.sl i x ho
    refine ⟨v, hv, ?_⟩
    cases x with
    | dat d => cases ex; exact r
    | tup xs => cases ex
    | cel k =>
      have ex : (if k < n then some (AV.cel k) else if k < j then none else some (AV.cel (k - (j - n)))) = some av := ex
      obtain ⟨a, ha, rfl⟩ := r
      split at ex
      · rename_i q
        cases ex
        exact ⟨a, by rw [at_a, if_pos q]; exact ha, rfl⟩
      · split at ex
        · cases ex
        · rename_i q1 q2
          cases ex
          exact ⟨a, by rw [at_a, if_neg (by omega), show k - (j - n) + (j - n) = k by omega]; exact ha, rfl⟩
  · obtain ⟨Ts, r⟩ := e.rg
    refine ⟨_, r.map (fun i => match (ρ.drp n j).ce[i]? with | some (.reg _ _) => (if i < n then some i else some (i + (j - n))) | _ => none) (fun i t X h => ?_) (fun i i0 h => ?_) (fun i k l h1 h2 => ?_) (fun i b h => ?_) (fun i i0 b o h hb => ⟨(r.pl i0 b o hb).1, (r.pl i0 b o hb).2.1, (r.pl i0 b o hb).2.2.1⟩) (fun _ _ z => .inl z)⟩
    · have hc : (ρ.ce.take n ++ ρ.ce.drop j)[i]? = some (Cell.reg t X) := h
      rw [at_c] at hc
      by_cases q : i < n
      · rw [if_pos q] at hc
        exact ⟨i, by simp only [h, if_pos q], hc, by rw [at_a, if_pos q]⟩
      · rw [if_neg q] at hc
        exact ⟨_, by simp only [h, if_neg q], hc, by rw [at_a, if_neg q]⟩
    · split at h
      · rename_i t X z; exact ⟨t, X, z⟩
      · cases h
    · have lt : ∀ {i l}, (match (ρ.drp n j).ce[i]? with | some (.reg _ _) => (if i < n then some i else some (i + (j - n))) | _ => none) = some l → (i < n ∧ l = i) ∨ (n ≤ i ∧ l = i + (j - n)) := fun {i l} h => by
        split at h
        · by_cases q : i < n
          · rw [if_pos q] at h; cases h; exact .inl ⟨q, rfl⟩
          · rw [if_neg q] at h; cases h; exact .inr ⟨by omega, rfl⟩
        · cases h
      rcases lt h1 with ⟨a1, a2⟩ | ⟨a1, a2⟩ <;> rcases lt h2 with ⟨b1, b2⟩ | ⟨b1, b2⟩ <;> omega
    · refine .inr ?_
      rw [at_a] at h
      split at h
      · rename_i q
        refine ⟨i, h, fun k hk => ?_⟩
        split at hk
        · split at hk
          · cases hk; rfl
          · cases hk; omega
        · cases hk
      · rename_i q
        refine ⟨_, h, fun k hk => ?_⟩
        split at hk
        · split at hk
          · have := Option.some.inj hk; omega
          · have := Option.some.inj hk; omega
        · cases hk
/-- a turn's end: as it is, or without the turn's own cells -/
inductive Tr (n : Nat) (ρ : En) : En → Prop
  | all : Tr n ρ ρ
  | cut : Tr n ρ (ρ.trunc n)
  | keep (j : Nat) (h1 : n ≤ j) (h2 : j < ρ.ce.length) : Tr n ρ (ρ.keep n j)
  | drop (j : Nat) (h1 : n ≤ j) (h2 : j ≤ ρ.ce.length) : Tr n ρ (ρ.drp n j)
theorem Tr.run {n : Nat} {ρ' : En} {as as0 : List Addr} {σ : L2.St} {H G G0 : Hp} (t : Tr n ρ ρ') (e : EnvOk K F ρ as σ H G) (g : Gr G0 as0 G as) (h : as0.length ≤ n) (h0 : F.as0.length ≤ n) : ∃ as', EnvOk K F ρ' as' σ H G ∧ Gr G0 as0 G as' := by
  cases t with
  | all => exact ⟨as, e, g⟩
  | cut => exact ⟨_, e.trunc n h0, g.trunc h⟩
  | keep j h1 h2 => exact ⟨_, e.keep h0 h1 h2, g.keep h⟩
  | drop j h1 h2 => exact ⟨_, e.drp h0 h1 h2, g.keep h⟩
def Loop (K : PySem.W.Frag) (F : Fx) (n : Nat) (gd : En → Prop) (g : TG) (tb : TS) (ks : KS) : List D → En → Prop
  | [], ρ => gd ρ ∧ ks.nx ρ
  | d :: ds, ρ => gd ρ ∧ WpG K F g (.dat d) ρ fun ρ1 => WpS K F tb ρ1 { nx := fun ρ2 => ∃ ρ3, Tr n ρ2 ρ3 ∧ Loop K F n gd g tb ks ds ρ3, rt := ks.rt, ct := fun ρ2 => ∃ ρ3, Tr n ρ2 ρ3 ∧ Loop K F n gd g tb ks ds ρ3, bk := ks.nx }
theorem Loop.gd {n : Nat} {gd : En → Prop} {g : TG} {tb : TS} : ∀ {ds : List D} {ρ : En}, Loop K F n gd g tb ks ds ρ → gd ρ
  | [], _, h => h.1
  | _ :: _, _, h => h.1
theorem ws_for {wi : TI} {g : TG} {tb : TS} (h : WpI K F wi ρ fun ds gd ρ1 => Loop K F ρ1.ce.length gd g tb ks ds ρ1) : WpS K F (tFor wi g tb) ρ ks := fun as σ H G e D q =>
  h as σ H G e _ fun ds gd J ρ1 as1 H1 G1 h1 e1 g1 its => by
    have ln1 : as1.length ≤ ρ1.ce.length := by rw [e1.ln]; exact Nat.le_refl _
    have ln0 : F.as0.length ≤ ρ1.ce.length := Nat.le_trans e1.pr.length_le ln1
    refine ⟨fun i m σ' H' => m = ds.length - i ∧ i ≤ ds.length ∧ ∃ ρ2 as2 G2, EnvOk K F ρ2 as2 σ' H' G2 ∧ Gr G1 as1 G2 as2 ∧ Loop K F ρ1.ce.length gd g tb ks (ds.drop i) ρ2, ⟨_, rfl, Nat.zero_le _, ρ1, as1, G1, e1, .refl, h1⟩, ?_⟩
    rintro i m σ' H' ⟨rfl, hi, ρ2, as2, G2, e2, g2, lp⟩
    obtain ⟨go, st, yl⟩ := its ρ2 as2 σ' H' G2 e2 g2 lp.gd
    by_cases hlt : i < ds.length
    · obtain ⟨d, hd⟩ : ∃ d, ds[i]? = some d := ⟨_, List.getElem?_eq_getElem hlt⟩
      have ed : ds.drop i = d :: ds.drop (i + 1) := by
        rw [List.drop_eq_getElem_cons hlt]
        rw [List.getElem?_eq_getElem hlt] at hd
        cases hd
        rfl
      rw [ed] at lp
      refine .inr ⟨go i hlt, fun σ3 H3 => ∃ ρ3 as3 G3, EnvOk K F ρ3 as3 σ3 H3 G3 ∧ Gr G1 as1 G3 as3 ∧ Loop K F ρ1.ce.length gd g tb ks (ds.drop (i + 1)) ρ3, fun σ3 H3 ⟨ρ3, as3, G3, e3, g3, l3⟩ => ⟨_, by omega, rfl, hlt, ρ3, as3, G3, e3, g3, l3⟩, fun x H3 y => ?_⟩
      obtain ⟨d', G3, hd', e3, g3, rx⟩ := yl i x H3 hlt y
      rw [hd] at hd'
      cases hd'
      refine lp.2 as2 σ' H3 G3 x (e3 _ e2) rx _ fun ρ4 as4 σ4 H4 G4 h4 e4 g4 => ?_
      refine h4 as4 σ4 H4 G4 e4 _ ⟨fun ρ5 as5 σ5 H5 G5 ⟨ρ6, tr, h5⟩ e5 g5 => ?_, fun av ρ5 v as5 σ5 H5 G5 h5 e5 g5 r5 => q.rt av ρ5 v as5 σ5 H5 G5 h5 e5 (g1.trans (g2.trans (g3.trans (g4.trans g5)))) r5, fun ρ5 as5 σ5 H5 G5 h5 e5 g5 => q.nx ρ5 as5 σ5 H5 G5 h5 e5 (g1.trans (g2.trans (g3.trans (g4.trans g5)))), fun ρ5 as5 σ5 H5 G5 ⟨ρ6, tr, h5⟩ e5 g5 => ?_, q.fr⟩
      · obtain ⟨as6, e6, g6⟩ := tr.run e5 (g2.trans (g3.trans (g4.trans g5))) ln1 ln0
        exact ⟨ρ6, as6, G5, e6, g6, h5⟩
      · obtain ⟨as6, e6, g6⟩ := tr.run e5 (g2.trans (g3.trans (g4.trans g5))) ln1 ln0
        exact ⟨ρ6, as6, G5, e6, g6, h5⟩
    · have ei : i = ds.length := by omega
      subst ei
      rw [List.drop_length] at lp
      exact .inl ⟨st, q.nx ρ2 as2 σ' H' G2 lp.2 e2 (g1.trans g2)⟩
/-! while -/
theorem ws_while {tc : TT} {tb : TS} (W : Nat → En → Prop) (m0 : Nat) (h0 : W m0 ρ) (hs : ∀ m ρ1, W m ρ1 → WpT K F tc ρ1 fun b ρ2 => if b = true then WpS K F tb ρ2 { nx := fun ρ3 => ∃ m', m' < m ∧ W m' ρ3, rt := ks.rt, ct := fun ρ3 => ∃ m', m' < m ∧ W m' ρ3, bk := ks.nx } else ks.nx ρ2) : WpS K F (tWhile tc tb) ρ ks := fun as σ H G e D q => by
  refine ⟨fun m σ' H' => ∃ ρ2 as2 G2, EnvOk K F ρ2 as2 σ' H' G2 ∧ Gr G as G2 as2 ∧ W m ρ2, ⟨m0, ρ, as, G, e, .refl, h0⟩, ?_⟩
  rintro m σ' H' ⟨ρ2, as2, G2, e2, g2, hw⟩
  refine hs m ρ2 hw as2 σ' H' G2 e2 _ fun b ρ3 as3 H3 G3 h3 e3 g3 => ?_
  cases b with
  | true =>
    refine ⟨fun σ4 H4 => ∃ m', m' < m ∧ ∃ ρ4 as4 G4, EnvOk K F ρ4 as4 σ4 H4 G4 ∧ Gr G as G4 as4 ∧ W m' ρ4, fun σ4 H4 z => z, ?_⟩
    refine (show WpS K F tb ρ3 _ from h3) as3 σ' H3 G3 e3 _ ⟨fun ρ4 as4 σ4 H4 G4 ⟨m', hm, w4⟩ e4 g4 => ⟨m', hm, ρ4, as4, G4, e4, g2.trans (g3.trans g4), w4⟩, fun av ρ4 v as4 σ4 H4 G4 h4 e4 g4 r4 => q.rt av ρ4 v as4 σ4 H4 G4 h4 e4 (g2.trans (g3.trans g4)) r4, fun ρ4 as4 σ4 H4 G4 h4 e4 g4 => q.nx ρ4 as4 σ4 H4 G4 h4 e4 (g2.trans (g3.trans g4)), fun ρ4 as4 σ4 H4 G4 ⟨m', hm, w4⟩ e4 g4 => ⟨m', hm, ρ4, as4, G4, e4, g2.trans (g3.trans g4), w4⟩, q.fr⟩
  | false => exact q.nx ρ3 as3 σ' H3 G3 h3 e3 (g2.trans g3)
end
/-! ### rules of the data layer: promises and calls -/
inductive RV where
  | dat (d : D)
  | new (ds : List D)
  | prt (xs ds ys : List D)
  | reg (X : RegX)
  | ext (d : D) (X : CellX)
def FrX (as : List Addr) (Ts : Nat → Hp) (H H' : Hp) : Prop := ∀ a o, a ∉ as → (∀ i, Ts i a = none) → H a = some o → H' a = some o
def NewA (H : Hp) (as : List Addr) (Ts : Nat → Hp) (a : Addr) : Prop := (H a = none ∨ ∃ i, Ts i a ≠ none) ∧ a ∉ as
def NewG (H G G' : Hp) (Ts : Nat → Hp) : Prop := ∀ a o, G' a = some o → G a = some o ∨ H a = none ∨ ∃ i, Ts i a ≠ none
def noGone : List Cell → Bool
  | [] => true
  | .gone :: _ => false
  | .lst _ :: r => noGone r
  | .drw :: r => noGone r
  | .oth _ :: r => noGone r
  | .reg _ _ :: r => noGone r
  | .ins _ _ _ :: r => noGone r
structure CellsOk (K : PySem.W.Frag) (G H : Hp) (as : List Addr) (cs : List Cell) : Prop where
  ln : as.length = cs.length
  nd : as.Nodup
  ok : ∀ (j : Nat) (c : Cell) (a : Addr), cs[j]? = some c → as[j]? = some a → (∃ o, H a = some o) ∧ CellOk K G H a c
def RepR (K : PySem.W.Frag) (H G' H' : Hp) (as : List Addr) (Ts Ts' : Nat → Hp) : RV → V → Prop
  | .dat d, v => Rep K G' d v
  | .new ds, v => ∃ a vs, v = .ref a ∧ NewA H as Ts a ∧ (∀ i, Ts' i a = none) ∧ G' a = none ∧ H' a = some (.lst vs) ∧ Reps K G' ds vs
  | .prt xs ds ys, v => ∃ p a ws us vs, v = .ref p ∧ SqT K G' p (ws ++ .ref a :: us) ∧ Reps K G' xs ws ∧ Reps K G' ys us ∧ NewA H as Ts a ∧ (∀ i, Ts' i a = none) ∧ G' a = none ∧ H' a = some (.lst vs) ∧ Reps K G' ds vs
  | .reg X, v => ∃ a T, v = .ref a ∧ NewA H as Ts a ∧ (∀ i, Ts' i a = none) ∧ G' a = none ∧ (∃ o, H' a = some o) ∧ X.ok T G' a ∧ ∀ b o, T b = some o → H' b = some o ∧ G' b = none ∧ NewA H as Ts b ∧ ∀ i, Ts' i b = none
  | .ext d X, v => Rep K G' d v ∧ ∃ a o, NewA H as Ts a ∧ (∀ i, Ts' i a = none) ∧ G' a = none ∧ H' a = some o ∧ X.ok G' a o
abbrev PW0 := List AV → List Cell → (RV → List Cell → Prop) → (Addr → Prop) → Prop
/-- a def's promise by data: W tells what is asked of the arguments and what comes -/
def spG (K : PySem.W.Frag) (W : PW0) : Sp := fun vs H Q E => ∃ G as Ts xs cs post exc, Same G H ∧ CellsOk K G H as cs ∧ RegsAt Ts (fun _ => none) G H as cs ∧ RepAs K G as xs vs ∧ W xs cs post exc ∧
  (∀ r cs' v H' G' Ts', post r cs' → FrX as Ts H H' → Same G G' → Same G' H' → NewG H G G' Ts → CellsOk K G' H' as cs' → RegsAt Ts' (fun _ => none) G' H' as cs' → (∀ i b o, Ts' i b = some o → H b = none ∨ b ∈ as ∨ ∃ j, Ts j b ≠ none) → RepR K H G' H' as Ts Ts' r v → Q v H') ∧ (∀ C H', exc C → FrX as Ts H H' → E (.ref C) none H')
theorem RegsAt.noreg {Ts : Nat → Hp} {Fr G H : Hp} {as : List Addr} {cs cs' : List Cell} (r : RegsAt Ts Fr G H as cs) (h : ∀ (j : Nat) t X, cs[j]? ≠ some (Cell.reg t X)) (h' : ∀ (j : Nat) t X, cs'[j]? ≠ some (Cell.reg t X)) : RegsAt Ts Fr G H as cs' := ⟨fun j _ b => r.em j (h j) b, r.dj, r.pl, fun j t X a hc => absurd hc (h' j t X)⟩
theorem RegsAt.no {Fr G H : Hp} {as : List Addr} {cs : List Cell} (h : ∀ (j : Nat) t X, cs[j]? ≠ some (Cell.reg t X)) : RegsAt (fun _ _ => none) Fr G H as cs := ⟨fun _ _ _ => rfl, (fun i j b o u h => nomatch h), (fun i b o h => nomatch h), fun j t X a hc => absurd hc (h j t X)⟩
section
variable {K : PySem.W.Frag} {F : Fx} {ρ : En} {k : AV → En → Prop} {kb : Bool → En → Prop} {ks : KS} {t u : TS} {ta tb te : TE} {tt tu : TT}
/-- what a def hands back: data, or a list that it made -/
inductive FinR (n : Nat) (ρ : En) : AV → RV → Prop
  | dat (d : D) : FinR n ρ (.dat d) (.dat d)
  | cel {j : Nat} {ds : List D} : n ≤ j → ρ.ce[j]? = some (.lst ds) → FinR n ρ (.cel j) (.new ds)
  | prt {j : Nat} {xs ds ys : List D} : n ≤ j → ρ.ce[j]? = some (.lst ds) → FinR n ρ (.tup (xs.map .dat ++ .cel j :: ys.map .dat)) (.prt xs ds ys)
  | ext {j : Nat} {d : D} {X : CellX} : n ≤ j → ρ.ce[j]? = some (.oth X) → FinR n ρ (.dat d) (.ext d X)
  | reg {j : Nat} {t : Option Addr} {X : RegX} : n ≤ j → ρ.ce[j]? = some (Cell.reg t X) → FinR n ρ (.cel j) (.reg X)
def KS.fin (n : Nat) (post : RV → List Cell → Prop) : KS where
  nx := fun ρ => noGone (ρ.ce.take n) = true ∧ post (.dat .non) (ρ.ce.take n)
  rt := fun x ρ => ∃ r, FinR n ρ x r ∧ noGone (ρ.ce.take n) = true ∧ post r (ρ.ce.take n)
theorem noGone_at {cs : List Cell} (h : noGone cs = true) : ∀ {j : Nat}, cs[j]? ≠ some .gone := by
  induction cs with
  | nil => intro j e; simp at e
  | cons c cs ih =>
    intro j e
    cases j with
    | zero => simp at e; subst e; rw [noGone] at h; cases h
    | succ j =>
      have h' : noGone cs = true := by
        cases c <;> first | (rw [noGone] at h; exact h) | (rw [noGone] at h; cases h)
      exact ih h' (by simpa using e)
theorem CellOk.none {G H : Hp} {a : Addr} {c : Cell} (h : CellOk K G H a c) (n : c ≠ .gone) : G a = none := by
  cases c with
  | gone => exact absurd rfl n
  | reg t X => exact h
  | lst ds => exact h.1
  | drw => exact h.1
  | oth X => exact h.1
  | ins C ns ds => exact h.1
theorem RepAs.get {G : Hp} {as : List Addr} {xs : List AV} {vs : List V} (h : RepAs K G as xs vs) : ∀ {i : Nat} {x : AV}, xs[i]? = some x → ∃ v, vs[i]? = some v ∧ RepA K G as x v := by
  induction h with
  | nil => intro i x e; simp at e
  | cons a _ ih =>
    intro i x e
    cases i with
    | zero => simp at e; subst e; exact ⟨_, rfl, a⟩
    | succ i => obtain ⟨v, q, r⟩ := ih (i := i) (by simpa using e); exact ⟨v, by simpa using q, r⟩
theorem TNs.append {G : Hp} {as : List Addr} {xs ys : List TN} {vs ws : List V} (h : TNs K G as xs vs) (k : TNs K G as ys ws) : TNs K G as (xs ++ ys) (vs ++ ws) := by
  induction xs generalizing vs with
  | nil => cases h; exact k
  | cons x xs ih => cases h with | cons a b => exact .cons a (ih b)
theorem TNs.split {G : Hp} {as : List Addr} {xs ys : List TN} {vs : List V} (h : TNs K G as (xs ++ ys) vs) : ∃ ws us, vs = ws ++ us ∧ TNs K G as xs ws ∧ TNs K G as ys us := by
  induction xs generalizing vs with
  | nil => exact ⟨[], vs, rfl, .nil, h⟩
  | cons x xs ih =>
    cases h with
    | cons a b =>
      obtain ⟨ws, us, rfl, h1, h2⟩ := ih b
      exact ⟨_ :: ws, us, rfl, .cons a h1, h2⟩
theorem TNs.of {G : Hp} {as : List Addr} {ds : List D} {vs : List V} (h : Reps K G ds vs) : TNs K G as (ds.map .dat) vs := by
  induction ds generalizing vs with
  | nil => cases h; exact .nil
  | cons d ds ih => cases h with | cons a b => exact .cons (.dat a) (ih b)
theorem TNs.dats {G : Hp} {as : List Addr} {ds : List D} {vs : List V} (h : TNs K G as (ds.map .dat) vs) : Reps K G ds vs := by
  induction ds generalizing vs with
  | nil => cases h; exact .nil
  | cons d ds ih =>
    cases h with
    | cons a b =>
      cases a with
      | dat r => exact .cons r (ih b)
/-- the slots at a def's begin -/
def En.start (n : Nat) (xs : List AV) (cs : List Cell) : En := ⟨xs.map some ++ List.replicate (n - xs.length) none, cs⟩
open Classical in
/-- a def's body by data -/
theorem enterG {N : List Str} {W : PW0} {vs : List V} {H : Hp} {Q : VK} {E : XK} {t : TS} (frv : V → Prop) (hfr : ∀ v H', frv v → Q v H') (h : spG K W vs H Q E) (body : ∀ F xs cs post, F.fr = frv → F.E = E → RepAs K F.G0 F.as0 xs vs → W xs cs post F.ex → WpS K F t (En.start N.length xs cs) (KS.fin cs.length post)) : t { nx := fun _ H' => Q .non H', rt := Q } (L2.start N vs) H := by
  obtain ⟨G, as, Ts, xs, cs, post, exc, gh, ok, rg, rx, hw, hq, he⟩ := h
  let Own : Addr → Prop := fun a => a ∈ as ∨ ∃ i, Ts i a ≠ none
  have fr : ∀ H', Same (fun a => if Own a then none else H a) H' → FrX as Ts H H' := fun H' s a o na nt ha => s a o (by
    show (if Own a then none else H a) = some o
    rw [if_neg (fun z => z.elim na fun ⟨i, z⟩ => z (nt i))]
    exact ha)
  let F : Fx := ⟨fun a => if Own a then none else H a, G, E, exc, fun C H' hc s => he C H' hc (fr H' s), frv, as⟩
  have frN : ∀ {a : Addr}, F.Fr a = none → H a = none ∨ Own a := fun {a} z => by
    have z' : (if Own a then none else H a) = none := z
    by_cases q : Own a
    · exact .inr q
    · rw [if_neg q] at z'; exact .inl z'
  have ln := rx.length
  have e0 : EnvOk K F (En.start N.length xs cs) as (L2.start N vs) H G := by
    refine ⟨gh, fun a o h => ?_, fun a o h => .inl h, Same.refl _, ok.nd, List.prefix_refl _, ok.ln, fun j c a hc ha => ?_, ?_, fun i av hi => ?_, ⟨Ts, rg.em, rg.dj, fun i b o h => ?_, rg.ok⟩⟩
    · have h' : (if Own a then none else H a) = some o := h
      by_cases q : Own a
      · rw [if_pos q] at h'; cases h'
      · rw [if_neg q] at h'; exact h'
    · refine ⟨?_, ok.ok j c a hc ha⟩
      show (if Own a then none else H a) = none
      rw [if_pos (.inl (List.mem_of_getElem? ha))]
    · show (vs.map some ++ List.replicate (N.length - vs.length) none).length = (xs.map some ++ List.replicate (N.length - xs.length) none).length
      simp only [List.length_append, List.length_map, List.length_replicate]
      omega
    · have hi' : (xs.map some ++ List.replicate (N.length - xs.length) none)[i]? = some (some av) := hi
      by_cases q : i < xs.length
      · rw [List.getElem?_append_left (by rw [List.length_map]; exact q), List.getElem?_map] at hi'
        obtain ⟨x, hx, ex⟩ := Option.map_eq_some_iff.mp hi'
        cases ex
        obtain ⟨v, hv, r⟩ := rx.get hx
        refine ⟨v, ?_, r⟩
        show (vs.map some ++ List.replicate (N.length - vs.length) none)[i]? = some (some v)
        rw [List.getElem?_append_left (by rw [List.length_map]; omega), List.getElem?_map, hv]
        rfl
      · rw [List.getElem?_append_right (by rw [List.length_map]; omega), List.getElem?_replicate] at hi'
        split at hi' <;> cases hi'
    · obtain ⟨x, y, _, w⟩ := rg.pl i b o h
      refine ⟨x, y, ?_, w⟩
      show (if Own b then none else H b) = none
      rw [if_pos (.inr ⟨i, by rw [h]; exact fun z => nomatch z⟩)]
  -- how it ends
  have fin : ∀ {ρ' : En} {as' : List Addr} {σ' : L2.St} {H' G' : Hp} {Ts1 : Nat → Hp} {r : RV} {v : V}, EnvOk K F ρ' as' σ' H' G' → RegsAt Ts1 F.Fr G' H' as' ρ'.ce → Gr G as G' as' → noGone (ρ'.ce.take cs.length) = true → post r (ρ'.ce.take cs.length) → (∀ Ts', (∀ i b, Ts1 i b = none → Ts' i b = none) → (∀ i b, cs.length ≤ i → Ts' i b = none) → RepR K H G' H' as Ts Ts' r v) → Q v H' := by
    intro ρ' as' σ' H' G' Ts1 r v e rg1 g ng hp rr
    obtain ⟨sg, rs, ea⟩ := g
    have lc : cs.length ≤ ρ'.ce.length := by rw [← e.ln, ea, List.length_append, ok.ln]; omega
    have lt : as.length = (ρ'.ce.take cs.length).length := by rw [List.length_take, ok.ln]; omega
    have ce : ∀ (j : Nat) (c : Cell) (a : Addr), (ρ'.ce.take cs.length)[j]? = some c → as[j]? = some a → ρ'.ce[j]? = some c ∧ as'[j]? = some a := fun j c a hc ha => by
      have hj : j < as.length := (List.getElem?_eq_some_iff.mp ha).1
      refine ⟨?_, by rw [ea, List.getElem?_append_left hj]; exact ha⟩
      rw [List.getElem?_take] at hc
      rw [if_pos (by rw [← ok.ln]; exact hj)] at hc
      exact hc
    obtain ⟨Ts', rg2, sub⟩ := rg1.subS (Fr' := fun _ => none) (G' := G') (H' := H') (as' := as) (cs' := ρ'.ce.take cs.length) (fun i t X h => by
        rw [List.getElem?_take] at h
        split at h
        · rename_i q
          exact ⟨h, by rw [ea, List.getElem?_append_left (by rw [ok.ln]; exact q)]⟩
        · cases h) (fun i b h => .inr (by rw [ea, List.getElem?_append_left (List.getElem?_eq_some_iff.mp h).1]; exact h)) (fun i t X b o _ hb => ⟨(rg1.pl i b o hb).1, (rg1.pl i b o hb).2.1, rfl⟩) (fun _ _ z => .inl z)
    have sub2 : ∀ i b, Ts1 i b = none → Ts' i b = none := fun i b z => by
      cases q : Ts' i b with
      | none => rfl
      | some o => rw [sub i b o q] at z; cases z
    have sub3 : ∀ i b, cs.length ≤ i → Ts' i b = none := fun i b q => rg2.em i (fun t X z => by
      rw [List.getElem?_take] at z
      rw [if_neg (by omega)] at z
      cases z) b
    refine hq r _ v H' G' Ts' hp (fr H' e.fh) sg e.gh (fun a o ha => ?_) ⟨lt, ok.nd, fun j c a hc ha => ?_⟩ rg2 (fun i b o hb => ?_) (rr Ts' sub2 sub3)
    · rcases e.fg a o ha with z | z
      · exact .inl z
      · rcases frN z with z | q
        · exact .inr (.inl z)
        · rcases q with q | ⟨i, q⟩
          · exfalso
            obtain ⟨j, hj⟩ := List.getElem?_of_mem q
            have hl : j < (ρ'.ce.take cs.length).length := by rw [← lt]; exact (List.getElem?_eq_some_iff.mp hj).1
            have hc := List.getElem?_eq_getElem hl
            obtain ⟨h1, h2⟩ := ce j _ a hc hj
            obtain ⟨_, _, okc⟩ := e.ce j _ a h1 h2
            have gn := CellOk.none okc fun z => noGone_at ng (by rw [hc, z])
            rw [gn] at ha
            cases ha
          · exact .inr (.inr ⟨i, q⟩)
    · obtain ⟨h1, h2⟩ := ce j c a hc ha
      exact (e.ce j c a h1 h2).2
    · rcases frN (rg1.pl i b o (sub i b o hb)).2.2.1 with z | z | ⟨j, z⟩
      · exact .inl z
      · exact .inr (.inl z)
      · exact .inr (.inr ⟨j, z⟩)
  refine body F xs cs post rfl rfl rx hw as _ H G e0 _ ⟨fun ρ' as' σ' H' G' ⟨ng, hp⟩ e g => ?_, fun av ρ' v as' σ' H' G' ⟨r, fr', ng, hp⟩ e g ra => ?_, fun ρ' as' σ' H' G' h _ _ => h.elim, fun ρ' as' σ' H' G' h _ _ => h.elim, fun v H' z => hfr v H' z⟩
  · obtain ⟨Ts1, rg1⟩ := e.rg
    exact fin (r := .dat .non) e rg1 g ng hp fun _ _ _ => Rep.non
  obtain ⟨Ts1, rg1⟩ := e.rg
  have newA : ∀ {j : Nat} {b a : Addr}, cs.length ≤ j → as'[j]? = some a → (∀ k, as'[k]? = some b → k = j) → F.Fr b = none → NewA H as Ts b := fun {j b a} nj ha hb fb => by
    obtain ⟨_, rs, ea⟩ := g
    have nb : b ∉ as := fun q => by
      obtain ⟨i, hi⟩ := List.getElem?_of_mem q
      have hil : i < as.length := (List.getElem?_eq_some_iff.mp hi).1
      have := hb i (by rw [ea, List.getElem?_append_left hil]; exact hi)
      rw [ok.ln] at hil
      omega
    refine ⟨?_, nb⟩
    rcases frN fb with z | z | z
    · exact .inl z
    · exact absurd z nb
    · exact .inr z
  have inj : ∀ {j : Nat} {a : Addr}, as'[j]? = some a → ∀ k, as'[k]? = some a → k = j := fun {j a} ha k hk => (List.getElem?_inj (List.getElem?_eq_some_iff.mp hk).1 e.nd).mp (hk.trans ha.symm)
  have new : ∀ {j : Nat} {a : Addr} {ds : List D}, cs.length ≤ j → ρ'.ce[j]? = some (.lst ds) → as'[j]? = some a → NewA H as Ts a ∧ (∀ i, Ts1 i a = none) ∧ G' a = none ∧ ∃ ws, H' a = some (.lst ws) ∧ Reps K G' ds ws := by
    intro j a ds nj hc ha
    obtain ⟨fa, _, ga, ws, hw2, hr⟩ := e.ce j _ a hc ha
    refine ⟨newA nj ha (inj ha) fa, fun i => ?_, ga, ws, hw2, hr⟩
    cases q : Ts1 i a with
    | none => rfl
    | some o =>
      have := (rg1.pl i a o q).2.2.2 j ha
      subst this
      obtain ⟨t, X, z⟩ := rg1.is q
      rw [hc] at z
      cases z
  cases fr' with
  | dat d => exact fin (r := .dat d) e rg1 g ng hp fun _ _ _ => ra
  | @cel j ds nj hc =>
    obtain ⟨a, ha, rfl⟩ := ra
    obtain ⟨h1, h0, h2, ws, h3, h4⟩ := new nj hc ha
    exact fin (r := .new ds) e rg1 g ng hp fun Ts' s2 _ => ⟨a, ws, rfl, h1, fun i => s2 i a (h0 i), h2, h3, h4⟩
  | @prt j xs ds ys nj hc =>
    obtain ⟨p, us, rfl, sq, ti⟩ := ra
    obtain ⟨w1, w2, rfl, r1, r2⟩ := TNs.split ti
    cases r2 with
    | cons rc r3 =>
      cases rc with
      | @cel _ a ha =>
        obtain ⟨h1, h0, h2, ws, h3, h4⟩ := new nj hc ha
        exact fin (r := .prt xs ds ys) e rg1 g ng hp fun Ts' s2 _ => ⟨p, a, w1, _, ws, rfl, sq, TNs.dats r1, TNs.dats r3, h1, fun i => s2 i a (h0 i), h2, h3, h4⟩
  | @ext j d X nj hc =>
    obtain ⟨a, ha⟩ : ∃ a, as'[j]? = some a := ⟨_, List.getElem?_eq_getElem (by rw [e.ln]; exact (List.getElem?_eq_some_iff.mp hc).1)⟩
    obtain ⟨fa, _, ga, o, ho, ox⟩ := e.ce j _ a hc ha
    refine fin (r := .ext d X) e rg1 g ng hp fun Ts' s2 _ => ⟨ra, a, o, newA nj ha (inj ha) fa, fun i => s2 i a ?_, ga, ho, ox⟩
    cases q : Ts1 i a with
    | none => rfl
    | some o2 =>
      have := (rg1.pl i a o2 q).2.2.2 j ha
      subst this
      obtain ⟨t, Y, z⟩ := rg1.is q
      rw [hc] at z
      cases z
  | @reg j t X nj hc =>
    obtain ⟨a, ha, rfl⟩ := ra
    obtain ⟨fa, ho, ga⟩ := e.ce j _ a hc ha
    refine fin (r := .reg X) e rg1 g ng hp fun Ts' s2 s3 => ⟨a, Ts1 j, rfl, newA nj ha (inj ha) fa, fun i => ?_, ga, ho, (rg1.ok j t X a hc ha).2, fun b o hb => ?_⟩
    · by_cases q : cs.length ≤ i
      · exact s3 i a q
      · refine s2 i a ?_
        cases z : Ts1 i a with
        | none => rfl
        | some o => have := (rg1.pl i a o z).2.2.2 j ha; omega
    · obtain ⟨x, y, z, w⟩ := rg1.pl j b o hb
      refine ⟨x, y, newA nj ha w z, fun i => ?_⟩
      by_cases q : cs.length ≤ i
      · exact s3 i b q
      · refine s2 i b ?_
        cases u : Ts1 i b with
        | none => rfl
        | some o2 => have := rg1.dj i j b o2 o u hb; omega
theorem enterF {N : List Str} {W : PW0} {vs : List V} {H : Hp} {Q : VK} {E : XK} {t : TS} (frv : V → Prop) (hfr : ∀ v H', frv v → Q v H') (h : spG K W vs H Q E) (body : ∀ F xs cs post, F.fr = frv → F.E = E → W xs cs post F.ex → WpS K F t (En.start N.length xs cs) (KS.fin cs.length post)) : t { nx := fun _ H' => Q .non H', rt := Q } (L2.start N vs) H := enterG frv hfr h fun F xs cs post hf hE _ hw => body F xs cs post hf hE hw
/-- a def that ends without a return -/
theorem enterN {N : List Str} {W : PW0} {vs : List V} {H : Hp} {Q : VK} {E : XK} {t : TS} (h : spG K W vs H Q E) (body : ∀ F xs cs post, F.E = E → W xs cs post F.ex → WpS K F (tSeq t tRetN) (En.start N.length xs cs) (KS.fin cs.length post)) : t { nx := fun _ H' => Q .non H', rt := Q } (L2.start N vs) H := enterF (t := tSeq t tRetN) (fun _ => False) (fun _ _ z => z.elim) h fun F xs cs post _ hE hw => body F xs cs post hE hw
theorem enter {N : List Str} {W : PW0} {vs : List V} {H : Hp} {Q : VK} {E : XK} {t : TS} (h : spG K W vs H Q E) (body : ∀ F xs cs post, F.E = E → W xs cs post F.ex → WpS K F t (En.start N.length xs cs) (KS.fin cs.length post)) : t { nx := fun _ H' => Q .non H', rt := Q } (L2.start N vs) H := enterF (fun _ => False) (fun _ _ z => z.elim) h fun F xs cs post _ hE hw => body F xs cs post hE hw
/-! calls -/
theorem we_call {sp : Sp} {E : XK} {t : TA} (h : WpA K F t ρ fun xs ρ1 => WpSp K F sp (fun _ => E) xs ρ1 k) : WpE K F (tCall sp [] E t) ρ k := fun as σ H G e Q q =>
  h as σ H G e _ fun xs ρ1 vs as1 H1 G1 h1 e1 g1 r1 => by
    rw [List.append_nil]
    exact h1 as1 σ H1 G1 vs e1 r1 Q (q.imp g1 fun _ _ z => z)
theorem we_call1 {sp : Sp} {v : V} {x : AV} {E : XK} {t : TA} (hv : ∀ G as, RepA K G as x v) (h : WpA K F t ρ fun xs ρ1 => WpSp K F sp (fun _ => E) (xs ++ [x]) ρ1 k) : WpE K F (tCall sp [v] E t) ρ k := fun as σ H G e Q q =>
  h as σ H G e _ fun xs ρ1 vs as1 H1 G1 h1 e1 g1 r1 => h1 as1 σ H1 G1 _ e1 (r1.append (.cons (hv _ _) .nil)) Q (q.imp g1 fun _ _ z => z)
theorem we_callS {sp : Sp} {E : L2.St → XK} {t : TA} (h : WpA K F t ρ fun xs ρ1 => WpSp K F sp E xs ρ1 k) : WpE K F (tCallS sp E t) ρ k := fun as σ H G e Q q =>
  h as σ H G e _ fun xs ρ1 vs as1 H1 G1 h1 e1 g1 r1 => h1 as1 σ H1 G1 vs e1 r1 Q (q.imp g1 fun _ _ z => z)
theorem we_callK {sp : Sp} {gV : List V → List V → List V} {gA : List AV → List AV → List AV} {E : XK} {t tk : TA} (hg : ∀ G as xs ys vs ws, RepAs K G as xs vs → RepAs K G as ys ws → RepAs K G as (gA xs ys) (gV vs ws)) (h : WpA K F t ρ fun xs ρ1 => WpA K F tk ρ1 fun ys ρ2 => WpSp K F sp (fun _ => E) (gA xs ys) ρ2 k) : WpE K F (tCallK sp gV E t tk) ρ k := fun as σ H G e Q q =>
  h as σ H G e _ fun xs ρ1 vs as1 H1 G1 h1 e1 g1 r1 => h1 as1 σ H1 G1 e1 _ fun ys ρ2 ws as2 H2 G2 h2 e2 g2 r2 => h2 as2 σ H2 G2 _ e2 (hg _ _ _ _ _ _ (r1.mono g2) r2) Q (q.imp (g1.trans g2) fun _ _ z => z)
/-- a cell of a list that stands already -/
theorem EnvOk.ownC {as : List Addr} {σ : L2.St} {H G : Hp} {p : Addr} {vs : List V} {ds : List D} (e : EnvOk K F ρ as σ H G) (hp : H p = some (.lst vs)) (gp : G p = none) (fp : F.Fr p = none) (np : p ∉ as) (nt : ∃ Ts, RegsAt Ts F.Fr G H as ρ.ce ∧ ∀ i, Ts i p = none) (hr : Reps K G ds vs) : EnvOk K F (ρ.add ds) (as ++ [p]) σ H G := by
  have gr : Gr G as G (as ++ [p]) := ⟨Same.refl _, [p], rfl⟩
  refine ⟨e.gh, e.fh, e.fg, e.g0, ?_, e.pr.trans (List.prefix_append _ _), by show (as ++ [p]).length = (ρ.ce ++ [Cell.lst ds]).length; rw [List.length_append, List.length_append, e.ln]; rfl, fun j c a hc ha => ?_, e.sn, fun i av hi => ?_, by
    obtain ⟨Ts, r, n⟩ := nt
    exact r.addC e.ln (fun _ _ z => nomatch z) (fun i o z => by rw [n i] at z; cases z) fun _ _ _ h => h⟩
  · rw [List.nodup_append]
    refine ⟨e.nd, by simp, fun a ha b hb => ?_⟩
    rw [List.mem_singleton] at hb
    subst hb
    exact fun z => np (z ▸ ha)
  · have hc : (ρ.ce ++ [Cell.lst ds])[j]? = some c := hc
    by_cases hj : j < ρ.ce.length
    · rw [List.getElem?_append_left hj] at hc
      rw [List.getElem?_append_left (by rw [e.ln]; exact hj)] at ha
      exact e.ce j c a hc ha
    · have hj2 : ρ.ce.length ≤ j := by omega
      rw [List.getElem?_append_right hj2] at hc
      rw [List.getElem?_append_right (by rw [e.ln]; exact hj2), e.ln] at ha
      cases z : j - ρ.ce.length with
      | zero =>
        rw [z] at hc ha
        cases hc
        cases ha
        exact ⟨fp, ⟨_, hp⟩, gp, vs, hp, hr⟩
      | succ m => rw [z] at hc; simp at hc
  · obtain ⟨v, hv, r⟩ := e.sl i av hi
    exact ⟨v, hv, r.mono gr⟩
def En.addX (ρ : En) (X : RegX) : En := ⟨ρ.sl, ρ.ce ++ [.reg none X]⟩
def En.addT (ρ : En) (X : CellX) : En := ⟨ρ.sl, ρ.ce ++ [.oth X]⟩
/-- a cell of another thing that stands already -/
theorem EnvOk.ownT {as : List Addr} {σ : L2.St} {H G : Hp} {p : Addr} {o : HO} {X : CellX} (e : EnvOk K F ρ as σ H G) (hp : H p = some o) (gp : G p = none) (fp : F.Fr p = none) (np : p ∉ as) (nt : ∃ Ts, RegsAt Ts F.Fr G H as ρ.ce ∧ ∀ i, Ts i p = none) (ok : X.ok G p o) : EnvOk K F (ρ.addT X) (as ++ [p]) σ H G := by
  have gr : Gr G as G (as ++ [p]) := ⟨Same.refl _, [p], rfl⟩
  refine ⟨e.gh, e.fh, e.fg, e.g0, ?_, e.pr.trans (List.prefix_append _ _), by show (as ++ [p]).length = (ρ.ce ++ [Cell.oth X]).length; rw [List.length_append, List.length_append, e.ln]; rfl, fun j c a hc ha => ?_, e.sn, fun i av hi => ?_, by
    obtain ⟨Ts, r, n⟩ := nt
    exact r.addC e.ln (fun _ _ z => nomatch z) (fun i o z => by rw [n i] at z; cases z) fun _ _ _ h => h⟩
  · rw [List.nodup_append]
    refine ⟨e.nd, by simp, fun a ha b hb => ?_⟩
    rw [List.mem_singleton] at hb
    subst hb
    exact fun z => np (z ▸ ha)
  · have hc : (ρ.ce ++ [Cell.oth X])[j]? = some c := hc
    by_cases hj : j < ρ.ce.length
    · rw [List.getElem?_append_left hj] at hc
      rw [List.getElem?_append_left (by rw [e.ln]; exact hj)] at ha
      exact e.ce j c a hc ha
    · rw [List.getElem?_append_right (by omega)] at hc
      rw [List.getElem?_append_right (by rw [e.ln]; omega), e.ln] at ha
      cases z : j - ρ.ce.length with
      | zero =>
        rw [z] at hc ha
        cases hc
        cases ha
        exact ⟨fp, ⟨_, hp⟩, gp, o, hp, ok⟩
      | succ m => rw [z] at hc; simp at hc
  · obtain ⟨v, hv, r⟩ := e.sl i av hi
    exact ⟨v, hv, r.mono gr⟩
/-- a private part that stands already becomes a cell -/
theorem EnvOk.ownX {as : List Addr} {σ : L2.St} {H G : Hp} {p : Addr} {T : Hp} {X : RegX} {Ts : Nat → Hp} (e : EnvOk K F ρ as σ H G) (r : RegsAt Ts F.Fr G H as ρ.ce) (hp : ∃ o, H p = some o) (gp : G p = none) (fp : F.Fr p = none) (np : p ∉ as) (nt : ∀ i, Ts i p = none) (ok : X.ok T G p)
    (ht : ∀ b o, T b = some o → H b = some o ∧ G b = none ∧ F.Fr b = none ∧ b ∉ as ∧ ∀ i, Ts i b = none) : EnvOk K F (ρ.addX X) (as ++ [p]) σ H G := by
  have gr : Gr G as G (as ++ [p]) := ⟨Same.refl _, [p], rfl⟩
  have ats : ∀ j c a, (ρ.ce ++ [Cell.reg none X])[j]? = some c → (as ++ [p])[j]? = some a → (j < ρ.ce.length ∧ ρ.ce[j]? = some c ∧ as[j]? = some a) ∨ (j = ρ.ce.length ∧ c = .reg none X ∧ a = p) := fun j c a hc ha => by
    by_cases hj : j < ρ.ce.length
    · rw [List.getElem?_append_left hj] at hc
      rw [List.getElem?_append_left (by rw [e.ln]; exact hj)] at ha
      exact .inl ⟨hj, hc, ha⟩
    · rw [List.getElem?_append_right (by omega)] at hc
      rw [List.getElem?_append_right (by rw [e.ln]; omega), e.ln] at ha
      cases z : j - ρ.ce.length with
      | zero => rw [z] at hc ha; cases hc; cases ha; exact .inr ⟨by omega, rfl, rfl⟩
      | succ m => rw [z] at hc; simp at hc
  have le : ∀ i, ρ.ce.length ≤ i → ∀ b, Ts i b = none := fun i hi b => r.em i (fun t X z => by rw [List.getElem?_eq_none hi] at z; cases z) b
  refine ⟨e.gh, e.fh, e.fg, e.g0, ?_, e.pr.trans (List.prefix_append _ _), by show (as ++ [p]).length = (ρ.ce ++ [Cell.reg none X]).length; rw [List.length_append, List.length_append, e.ln]; rfl, fun j c a hc ha => ?_, e.sn, fun i av hi => ?_, fun i b => if i = ρ.ce.length then T b else Ts i b, fun j h b => ?_, fun i j b o u h1 h2 => ?_, fun i b o h => ?_, fun j t X2 a hc ha => ?_⟩
  · rw [List.nodup_append]
    refine ⟨e.nd, by simp, fun a ha b hb => ?_⟩
    rw [List.mem_singleton] at hb
    subst hb
    exact fun z => np (z ▸ ha)
  · rcases ats j c a hc ha with ⟨_, h1, h2⟩ | ⟨_, rfl, rfl⟩
    · exact e.ce j c a h1 h2
    · exact ⟨fp, hp, gp⟩
  · obtain ⟨v, hv, r⟩ := e.sl i av hi
    exact ⟨v, hv, r.mono gr⟩
  · show (if j = ρ.ce.length then T b else Ts j b) = none
    by_cases q : j = ρ.ce.length
    · exact absurd (show (ρ.ce ++ [Cell.reg none X])[j]? = some (.reg none X) by rw [q, List.getElem?_append_right (Nat.le_refl _), Nat.sub_self]; rfl) (h none X)
    · rw [if_neg q]
      refine r.em j (fun t X2 z => h t X2 ?_) b
      show (ρ.ce ++ [Cell.reg none X])[j]? = _
      rw [List.getElem?_append_left (List.getElem?_eq_some_iff.mp z).1]
      exact z
  · have h1 : (if i = ρ.ce.length then T b else Ts i b) = some o := h1
    have h2 : (if j = ρ.ce.length then T b else Ts j b) = some u := h2
    by_cases q1 : i = ρ.ce.length
    · by_cases q2 : j = ρ.ce.length
      · rw [q1, q2]
      · rw [if_pos q1] at h1
        rw [if_neg q2] at h2
        have := (ht b o h1).2.2.2.2 j
        rw [h2] at this
        cases this
    · rw [if_neg q1] at h1
      by_cases q2 : j = ρ.ce.length
      · rw [if_pos q2] at h2
        have := (ht b u h2).2.2.2.2 i
        rw [h1] at this
        cases this
      · rw [if_neg q2] at h2
        exact r.dj i j b o u h1 h2
  · have h : (if i = ρ.ce.length then T b else Ts i b) = some o := h
    by_cases q : i = ρ.ce.length
    · rw [if_pos q] at h
      obtain ⟨x, y, z, w, _⟩ := ht b o h
      refine ⟨x, y, z, fun j hj => ?_⟩
      by_cases l : j < as.length
      · rw [List.getElem?_append_left l] at hj
        exact absurd (List.mem_of_getElem? hj) w
      · have : j < (as ++ [p]).length := (List.getElem?_eq_some_iff.mp hj).1
        rw [List.length_append, e.ln] at this
        simp only [List.length] at this
        rw [e.ln] at l
        omega
    · rw [if_neg q] at h
      obtain ⟨x, y, z, w⟩ := r.pl i b o h
      refine ⟨x, y, z, fun j hj => ?_⟩
      by_cases l : j < as.length
      · rw [List.getElem?_append_left l] at hj
        exact w j hj
      · rw [List.getElem?_append_right (by omega)] at hj
        have := List.mem_singleton.mp (List.mem_of_getElem? hj)
        subst this
        rw [nt i] at h
        cases h
  · rcases ats j _ a hc ha with ⟨hj, h1, h2⟩ | ⟨hj, h1, rfl⟩
    · obtain ⟨x, y⟩ := r.ok j t X2 a h1 h2
      refine ⟨x, ?_⟩
      show X2.ok (fun b => if j = ρ.ce.length then T b else Ts j b) G a
      simp only [if_neg (Nat.ne_of_lt hj)]
      exact y
    · cases h1
      refine ⟨(fun g z => nomatch z), ?_⟩
      show X.ok (fun b => if j = ρ.ce.length then T b else Ts j b) G a
      simp only [if_pos hj]
      exact ok
mutual
/-- the cells that an item holds -/
def TN.cels : TN → List Nat
  | .dat _ => []
  | .cel j => [j]
  | .tup xs => TN.celss xs
def TN.celss : List TN → List Nat
  | [] => []
  | x :: xs => TN.cels x ++ TN.celss xs
end
def AV.cels : AV → List Nat
  | .dat _ => []
  | .cel j => [j]
  | .tup xs => TN.celss xs
mutual
inductive OfT (ρ : En) : TN → D → Prop
  | dat (d : D) : OfT ρ (.dat d) d
  | cel {j : Nat} {ds : List D} : ρ.ce[j]? = some (.lst ds) → OfT ρ (.cel j) (.lst ds)
  | tup {xs : List TN} {ds : List D} : OfTs ρ xs ds → OfT ρ (.tup xs) (.tup ds)
inductive OfTs (ρ : En) : List TN → List D → Prop
  | nil : OfTs ρ [] []
  | cons {x : TN} {d : D} {xs : List TN} {ds : List D} : OfT ρ x d → OfTs ρ xs ds → OfTs ρ (x :: xs) (d :: ds)
end
mutual
theorem OfT.mem {j : Nat} : ∀ (x : TN) (d : D), OfT ρ x d → j ∈ x.cels → ∃ es, ρ.ce[j]? = some (.lst es)
  | .dat e, d, h, m => by rw [TN.cels] at m; cases m
  | .cel i, d, h, m => by
    rw [TN.cels, List.mem_singleton] at m
    subst m
    cases h with | cel hc => exact ⟨_, hc⟩
  | .tup xs, d, h, m => by
    rw [TN.cels] at m
    cases h with | tup h2 => exact OfTs.mem xs _ h2 m
theorem OfTs.mem {j : Nat} : ∀ (xs : List TN) (ds : List D), OfTs ρ xs ds → j ∈ TN.celss xs → ∃ es, ρ.ce[j]? = some (.lst es)
  | [], _, h, m => by rw [TN.celss] at m; cases m
  | x :: xs, _, h, m => by
    rw [TN.celss] at m
    cases h with
    | cons h1 h2 =>
      rcases List.mem_append.mp m with m | m
      · exact OfT.mem x _ h1 m
      · exact OfTs.mem xs _ h2 m
end
/-- arguments as data: cells are lent to be read -/
inductive AsD (ρ : En) : List AV → List D → Prop
  | nil : AsD ρ [] []
  | dat {d : D} {xs : List AV} {ds : List D} : AsD ρ xs ds → AsD ρ (.dat d :: xs) (d :: ds)
  | cel {j : Nat} {es : List D} {xs : List AV} {ds : List D} : ρ.ce[j]? = some (.lst es) → AsD ρ xs ds → AsD ρ (.cel j :: xs) (.lst es :: ds)
  | tup {ts : List TN} {es : List D} {xs : List AV} {ds : List D} : OfTs ρ ts es → AsD ρ xs ds → AsD ρ (.tup ts :: xs) (.tup es :: ds)
def nocel : List AV → Bool
  | [] => true
  | .cel _ :: _ => false
  | .tup _ :: _ => false
  | .dat _ :: r => nocel r
theorem nocel_mem {xs : List AV} (h : nocel xs = true) {j : Nat} : ∀ x ∈ xs, j ∉ x.cels := by
  induction xs with
  | nil => intro x m; cases m
  | cons x xs ih =>
    cases x with
    | cel i => rw [nocel] at h; cases h
    | tup xs => rw [nocel] at h; cases h
    | dat d =>
      rw [nocel] at h
      intro y m
      rcases List.mem_cons.mp m with rfl | m
      · exact fun z => nomatch (show j ∈ ([] : List Nat) from z)
      · exact ih h y m
theorem AsD.mem {xs : List AV} {ds : List D} (h : AsD ρ xs ds) {j : Nat} {x : AV} (m : x ∈ xs) (mj : j ∈ x.cels) : ∃ es, ρ.ce[j]? = some (.lst es) := by
  induction h with
  | nil => cases m
  | dat _ ih =>
    rcases List.mem_cons.mp m with rfl | m
    · exact nomatch (show j ∈ ([] : List Nat) from mj)
    · exact ih m
  | cel hc _ ih =>
    rcases List.mem_cons.mp m with rfl | m
    · have := List.mem_singleton.mp (show j ∈ [_] from mj)
      subst this
      exact ⟨_, hc⟩
    · exact ih m
  | tup ht _ ih =>
    rcases List.mem_cons.mp m with rfl | m
    · exact OfTs.mem _ _ ht mj
    · exact ih m
/-- what follows a call by data -/
def aft (ρ : En) (xs : List AV) (k : AV → En → Prop) : RV → Prop
  | .dat d => (nocel xs || hard d) = true ∧ k (.dat d) ρ
  | .new es => (nocel xs || hards es) = true ∧ k (.cel ρ.ce.length) (ρ.add es)
  | .prt as es bs => (nocel xs || (hards as && hards es && hards bs)) = true ∧ k (.tup (as.map .dat ++ .cel ρ.ce.length :: bs.map .dat)) (ρ.add es)
  | .reg X => k (.cel ρ.ce.length) (ρ.addX X)
  | .ext d X => (nocel xs || hard d) = true ∧ k (.dat d) (ρ.addT X)
mutual
theorem OfT.repG {as : List Addr} {G G1 : Hp} (s1 : Same G G1) : ∀ (x : TN) (d : D) (v : V), (∀ (j : Nat) (p : Addr) (es : List D), j ∈ x.cels → ρ.ce[j]? = some (.lst es) → as[j]? = some p → Rep K G1 (.lst es) (.ref p)) → OfT ρ x d → TNr K G as x v → Rep K G1 d v
  | .dat e, d, v, c, h, r => by cases h; cases r with | dat r => exact Rep.mono s1 _ _ r
  | .cel j, d, v, c, h, r => by
    cases h with
    | cel hc =>
      cases r with
      | cel ha => exact c j _ _ (by rw [TN.cels]; exact List.mem_singleton.mpr rfl) hc ha
  | .tup xs, d, v, c, h, r => by
    cases h with
    | tup h2 =>
      cases r with
      | tup sq r2 => exact .tup (Same.seqT s1 sq) (OfTs.repG0 s1 xs _ _ (fun j p es m => c j p es (by rw [TN.cels]; exact m)) h2 r2)
theorem OfTs.repG0 {as : List Addr} {G G1 : Hp} (s1 : Same G G1) : ∀ (xs : List TN) (ds : List D) (vs : List V), (∀ (j : Nat) (p : Addr) (es : List D), j ∈ TN.celss xs → ρ.ce[j]? = some (.lst es) → as[j]? = some p → Rep K G1 (.lst es) (.ref p)) → OfTs ρ xs ds → TNs K G as xs vs → Reps K G1 ds vs
  | [], _, _, c, h, r => by cases h; cases r; exact .nil
  | x :: xs, _, _, c, h, r => by
    cases h with
    | cons h1 h2 =>
      cases r with
      | cons r1 r2 => exact .cons (OfT.repG s1 x _ _ (fun j p es m => c j p es (by rw [TN.celss]; exact List.mem_append_left _ m)) h1 r1) (OfTs.repG0 s1 xs _ _ (fun j p es m => c j p es (by rw [TN.celss]; exact List.mem_append_right _ m)) h2 r2)
end
open Classical in
theorem wsp0 {W : PW0} {E : L2.St → XK} {xs : List AV} {ds : List D} {exc : Addr → Prop} (ha : AsD ρ xs ds) (hE : ∀ C as σ H G, exc C → EnvOk K F ρ as σ H G → E σ (.ref C) none H) (hw : W (ds.map .dat) [] (fun r _ => aft ρ xs k r) exc) : WpSp K F (spG K W) E xs ρ k := by
  intro as σ H G vs e rx Q q
  let B : Addr → Prop := fun b => ∃ (j : Nat) (x : AV), x ∈ xs ∧ j ∈ x.cels ∧ as[j]? = some b
  have bcell : ∀ b, B b → G b = none ∧ ∃ ws, H b = some (.lst ws) := fun b ⟨j, x, m, mj, hj⟩ => by
    obtain ⟨es, hc⟩ := ha.mem m mj
    obtain ⟨_, _, g, ws, hw, _⟩ := e.ce j _ b hc hj
    exact ⟨g, ws, hw⟩
  have bas : ∀ b, B b → b ∈ as := fun b ⟨_, _, _, _, hj⟩ => List.mem_of_getElem? hj
  let G1 : Hp := fun b => if B b then H b else G b
  have g1 : ∀ b, B b → G1 b = H b := fun b h => if_pos h
  have g2 : ∀ b, ¬ B b → G1 b = G b := fun b h => if_neg h
  have s1 : Same G G1 := fun b o h => by
    rw [g2 b fun z => by rw [(bcell b z).1] at h; cases h]; exact h
  have h1 : Same G1 H := fun b o h => by
    by_cases z : B b
    · rw [g1 b z] at h; exact h
    · rw [g2 b z] at h; exact e.gh _ _ h
  have rd : RepAs K G1 [] (ds.map .dat) vs := by
    have cell : ∀ {j : Nat} {p : Addr} {es : List D}, B p → ρ.ce[j]? = some (.lst es) → as[j]? = some p → Rep K G1 (.lst es) (.ref p) := fun {j p es} hb hc hp => by
      obtain ⟨_, _, g, us, hu, hr⟩ := e.ce j _ p hc hp
      exact Rep.lst (by rw [g1 p hb]; exact hu) (Reps.mono s1 _ _ hr)
    have main : ∀ (ys : List AV) (es : List D) (ws : List V), (∀ y ∈ ys, y ∈ xs) → AsD ρ ys es → RepAs K G as ys ws → RepAs K G1 [] (es.map .dat) ws := by
      intro ys es ws sub hd
      induction hd generalizing ws with
      | nil => intro r; cases r; exact .nil
      | dat _ ih =>
        intro r
        cases r with
        | cons a b => exact .cons (Rep.mono s1 _ _ a) (ih _ (fun y m => sub y (List.mem_cons_of_mem _ m)) b)
      | @cel j es2 ys2 ds2 hc _ ih =>
        intro r
        cases r with
        | cons a b =>
          obtain ⟨p, hp, rfl⟩ := a
          exact .cons (cell ⟨j, _, sub _ List.mem_cons_self, List.mem_singleton.mpr rfl, hp⟩ hc hp) (ih _ (fun y m => sub y (List.mem_cons_of_mem _ m)) b)
      | @tup ts es2 ys2 ds2 ht _ ih =>
        intro r
        cases r with
        | cons a b =>
          obtain ⟨p, us, rfl, sq, rs⟩ := a
          refine .cons (Rep.tup (Same.seqT s1 sq) ?_) (ih _ (fun y m => sub y (List.mem_cons_of_mem _ m)) b)
          exact OfTs.repG0 s1 ts _ _ (fun j p es mj hc hp => cell ⟨j, _, sub _ List.mem_cons_self, mj, hp⟩ hc hp) ht rs
    exact main xs ds vs (fun _ m => m) ha rx
  obtain ⟨Ts0, r0⟩ := e.rg
  refine ⟨G1, [], fun _ _ => none, ds.map .dat, [], _, exc, h1, ⟨rfl, List.nodup_nil, fun j c a hc => by simp at hc⟩, RegsAt.no (fun j t X z => by simp at z), rd, hw, ?_, ?_⟩
  · intro r cs' v H' G1' Ts' hp fr sg gh' nw _ _ _ rr
    have hh : Same H H' := fun a o h => fr a o (by simp) (fun _ => rfl) h
    let G' : Hp := fun b => if B b then none else G1' b
    have k1 : ∀ b, B b → G' b = none := fun b h => if_pos h
    have k2 : ∀ b, ¬ B b → G' b = G1' b := fun b h => if_neg h
    have sG : Same G G' := fun b o h => by
      have nb : ¬ B b := fun z => by rw [(bcell b z).1] at h; cases h
      rw [k2 b nb]; exact sg _ _ (s1 _ _ h)
    have keep : ∀ a o, G' a = some o → G a = some o ∨ H a = none := fun a o h => by
      by_cases z : B a
      · rw [k1 a z] at h; cases h
      · rw [k2 a z] at h
        rcases nw a o h with y | y | ⟨_, y⟩
        · rw [g2 a z] at y; exact .inl y
        · exact .inr y
        · exact absurd rfl y
    have gn : ∀ {a : Addr} {o : HO}, H a = some o → G a = none → G' a = none := fun {a o} ho g => by
      cases z : G' a with
      | none => rfl
      | some o2 =>
        rcases keep a o2 z with y | y
        · rw [g] at y; cases y
        · rw [ho] at y; cases y
    have r1 : RegsAt Ts0 F.Fr G' H' as ρ.ce := r0.same (fun _ _ _ _ h => hh _ _ h) (fun b o ho g => gn ho g) (fun _ z => z) fun _ _ z => .inl (sG _ _ z)
    have e' : EnvOk K F ρ as σ H' G' := by
      refine ⟨fun a o h => ?_, Same.trans e.fh hh, fun a o h => ?_, Same.trans e.g0 sG, e.nd, e.pr, e.ln, fun j c a hc hj => ?_, e.sn, fun i av hi => ?_, ⟨Ts0, r1⟩⟩
      · by_cases z : B a
        · rw [k1 a z] at h; cases h
        · rw [k2 a z] at h; exact gh' _ _ h
      · rcases keep a o h with y | y
        · exact e.fg _ _ y
        · exact .inr (Same.none e.fh y)
      · obtain ⟨fa, ⟨o, ho⟩, ok⟩ := e.ce j c a hc hj
        refine ⟨fa, ⟨o, hh _ _ ho⟩, ?_⟩
        cases c with
        | gone => trivial
        | reg t X => exact gn ho ok
        | lst es => obtain ⟨g, ws, hw, r⟩ := ok; exact ⟨gn ho g, ws, hh _ _ hw, Reps.mono sG _ _ r⟩
        | ins C9 ns9 es => obtain ⟨g, dx9, ws, hw, ln9, r⟩ := ok; exact ⟨gn ho g, dx9, ws, hh _ _ hw, ln9, Reps.mono sG _ _ r⟩
        | drw => obtain ⟨g, ws, hw, r⟩ := ok; exact ⟨gn ho g, ws, hh _ _ hw, r⟩
        | oth X => obtain ⟨g, o9, hw, r⟩ := ok; exact ⟨gn ho g, o9, hh _ _ hw, X.mono (fun _ _ z => .inl (sG _ _ z)) r⟩
      · obtain ⟨v, hv, r⟩ := e.sl i av hi
        exact ⟨v, hv, r.mono ⟨sG, [], by simp⟩⟩
    have back : ∀ a o, G1' a = some o → G' a = some o ∨ ∃ xs, o = HO.lst xs := fun a o h => by
      by_cases z : B a
      · obtain ⟨_, ws, hw⟩ := bcell a z
        rw [sg a _ (by rw [g1 a z]; exact hw)] at h
        cases h
        exact .inr ⟨_, rfl⟩
      · exact .inl (by rw [k2 a z]; exact h)
    have all : nocel xs = true → Same G1' G' := fun nc a o h => by
      rw [k2 a fun ⟨j, x, m, mj, _⟩ => nocel_mem nc x m mj]; exact h
    have noT : ∀ {p : Addr}, H p = none → ∀ i, Ts0 i p = none := fun {p} hp0 i => by
      cases z : Ts0 i p with
      | none => rfl
      | some o => rw [(r0.pl i p o z).1] at hp0; cases hp0
    have noAs : ∀ {p : Addr}, H p = none → p ∉ as := fun {p} hp0 m => by
      obtain ⟨j, hj⟩ := List.getElem?_of_mem m
      have hl : j < ρ.ce.length := by rw [← e.ln]; exact (List.getElem?_eq_some_iff.mp hj).1
      obtain ⟨_, ⟨o, ho⟩, _⟩ := e.ce j _ p (List.getElem?_eq_getElem hl) hj
      rw [ho] at hp0
      cases hp0
    have noB : ∀ {p : Addr}, H p = none → ¬ B p := fun {p} hp0 z => by
      obtain ⟨_, ws, hw⟩ := bcell p z
      rw [hw] at hp0
      cases hp0
    cases r with
    | ext d X =>
      obtain ⟨rd2, p, o, ⟨hp0, _⟩, _, gp, ho, okX⟩ := rr
      have hp0 : H p = none := hp0.elim id fun ⟨_, z⟩ => absurd rfl z
      refine q _ _ _ _ H' G' hp.2 (e'.ownT ho (by rw [k2 p (noB hp0)]; exact gp) (Same.none e.fh hp0) (noAs hp0) ⟨Ts0, r1, noT hp0⟩ (X.mono back okX)) ⟨sG, [p], rfl⟩ ?_
      rcases Bool.or_eq_true_iff.mp hp.1 with z | z
      · exact Rep.mono (all z) _ _ rd2
      · exact Rep.hard back _ _ z rd2
    | reg X =>
      obtain ⟨p, T, rfl, ⟨hp0, _⟩, _, gp, ho, okX, ht⟩ := rr
      have hp0 : H p = none := hp0.elim id fun ⟨_, z⟩ => absurd rfl z
      refine q _ _ _ _ H' G' hp (e'.ownX r1 ho (by rw [k2 p (noB hp0)]; exact gp) (Same.none e.fh hp0) (noAs hp0) (noT hp0) (X.mono back okX) fun b o hb => ?_) ⟨sG, [p], rfl⟩ (RepA.last e.ln)
      obtain ⟨h1, h2, ⟨h3, _⟩, _⟩ := ht b o hb
      have h3 : H b = none := h3.elim id fun ⟨_, z⟩ => absurd rfl z
      exact ⟨h1, by rw [k2 b (noB h3)]; exact h2, Same.none e.fh h3, noAs h3, noT h3⟩
    | dat d =>
      obtain ⟨hc, hk⟩ := hp
      refine q _ ρ v as H' G' hk e' ⟨sG, [], by simp⟩ ?_
      rcases Bool.or_eq_true_iff.mp hc with z | z
      · exact Rep.mono (all z) _ _ rr
      · exact Rep.hard back _ _ z rr
    | new es =>
      obtain ⟨hc, hk⟩ := hp
      obtain ⟨p, ws, rfl, ⟨hp0, _⟩, _, gp, hp1, hr⟩ := rr
      have hp0 : H p = none := hp0.elim id fun ⟨_, z⟩ => absurd rfl z
      have np : p ∉ as := fun m => by
        obtain ⟨j, hj⟩ := List.getElem?_of_mem m
        have hl : j < ρ.ce.length := by rw [← e.ln]; exact (List.getElem?_eq_some_iff.mp hj).1
        obtain ⟨_, ⟨o, ho⟩, _⟩ := e.ce j _ p (List.getElem?_eq_getElem hl) hj
        rw [ho] at hp0
        cases hp0
      have nb : ¬ B p := fun z => np (bas p z)
      have hr' : Reps K G' es ws := by
        rcases Bool.or_eq_true_iff.mp hc with z | z
        · exact Reps.mono (all z) _ _ hr
        · exact Reps.hard back _ _ z hr
      exact q _ _ _ _ H' G' hk (e'.ownC hp1 (by rw [k2 p nb]; exact gp) (Same.none e.fh hp0) np ⟨Ts0, r1, fun i => noT hp0 i⟩ hr') ⟨sG, [p], rfl⟩ (RepA.last e.ln)
    | prt as1 es bs1 =>
      obtain ⟨hc, hk⟩ := hp
      obtain ⟨t, p, w1, w2, ws, rfl, sq, ra1, ra2, ⟨hp0, _⟩, _, gp, hp1, hr⟩ := rr
      have hp0 : H p = none := hp0.elim id fun ⟨_, z⟩ => absurd rfl z
      have np : p ∉ as := fun m => by
        obtain ⟨j, hj⟩ := List.getElem?_of_mem m
        have hl : j < ρ.ce.length := by rw [← e.ln]; exact (List.getElem?_eq_some_iff.mp hj).1
        obtain ⟨_, ⟨o, ho⟩, _⟩ := e.ce j _ p (List.getElem?_eq_getElem hl) hj
        rw [ho] at hp0
        cases hp0
      have nb : ¬ B p := fun z => np (bas p z)
      obtain ⟨sq', ra1', ra2', hr'⟩ : SqT K G' t (w1 ++ .ref p :: w2) ∧ Reps K G' as1 w1 ∧ Reps K G' bs1 w2 ∧ Reps K G' es ws := by
        rcases Bool.or_eq_true_iff.mp hc with z | z
        · exact ⟨Same.seqT (all z) sq, Reps.mono (all z) _ _ ra1, Reps.mono (all z) _ _ ra2, Reps.mono (all z) _ _ hr⟩
        · rw [Bool.and_eq_true, Bool.and_eq_true] at z
          exact ⟨SqT.hard back sq, Reps.hard back _ _ z.1.1 ra1, Reps.hard back _ _ z.2 ra2, Reps.hard back _ _ z.1.2 hr⟩
      refine q _ _ _ _ H' G' hk (e'.ownC hp1 (by rw [k2 p nb]; exact gp) (Same.none e.fh hp0) np ⟨Ts0, r1, fun i => noT hp0 i⟩ hr') ⟨sG, [p], rfl⟩ ⟨t, _, rfl, sq', ?_⟩
      exact TNs.append (TNs.of ra1') (.cons (.cel (by rw [List.getElem?_append_right (by rw [e.ln]; exact Nat.le_refl _), e.ln, Nat.sub_self]; rfl)) (TNs.of ra2'))
  · intro C H' hc fr
    have hh : Same H H' := fun a o h => fr a o (by simp) (fun _ => rfl) h
    refine hE C as σ H' G hc ⟨Same.trans e.gh hh, Same.trans e.fh hh, e.fg, e.g0, e.nd, e.pr, e.ln, fun j c a hc hj => ?_, e.sn, e.sl, ⟨Ts0, r0.same (fun _ _ _ _ h => hh _ _ h) (fun _ _ _ g => g) (fun _ z => z) fun _ _ z => .inl z⟩⟩
    obtain ⟨fa, ⟨o, ho⟩, ok⟩ := e.ce j c a hc hj
    refine ⟨fa, ⟨o, hh _ _ ho⟩, ?_⟩
    cases c with
    | gone => trivial
    | reg t X => exact ok
    | lst es => obtain ⟨g, ws, hw, r⟩ := ok; exact ⟨g, ws, hh _ _ hw, r⟩
    | ins C9 ns9 es => obtain ⟨g, dx9, ws, hw, ln9, r⟩ := ok; exact ⟨g, dx9, ws, hh _ _ hw, ln9, r⟩
    | drw => obtain ⟨g, ws, hw, r⟩ := ok; exact ⟨g, ws, hh _ _ hw, r⟩
    | oth X => obtain ⟨g, o9, hw, r⟩ := ok; exact ⟨g, o9, hh _ _ hw, r⟩
/-- the same where the caller lets nothing out -/
theorem wspE {W : PW0} {E : L2.St → XK} {xs : List AV} {ds : List D} (ha : AsD ρ xs ds) (hw : W (ds.map .dat) [] (fun r _ => aft ρ xs k r) (fun _ => False)) : WpSp K F (spG K W) E xs ρ k := wsp0 ha (fun _ _ _ _ _ z => z.elim) hw
/-- and where it lets the callee's errors out -/
theorem wspX {W : PW0} {xs : List AV} {ds : List D} (ha : AsD ρ xs ds) (hw : W (ds.map .dat) [] (fun r _ => aft ρ xs k r) F.ex) : WpSp K F (spG K W) (fun _ => F.E) xs ρ k := wsp0 ha (fun C as σ H G h e => F.hE C H h e.fh) hw
/-- a cell is lent to be written -/
def lend : AV → AV
  | .cel _ => .cel 0
  | x => x
def onlyC (j : Nat) : List AV → Bool
  | [] => true
  | .cel i :: r => decide (i = j) && onlyC j r
  | .tup _ :: _ => false
  | .dat _ :: r => onlyC j r
def aft1 (ρ : En) (j : Nat) (k : AV → En → Prop) (r : RV) (cs : List Cell) : Prop := ∃ c, cs = [c] ∧ noGone cs = true ∧ match r with
  | .dat d => k (.dat d) (ρ.cell j c)
  | .new es => k (.cel ρ.ce.length) ((ρ.cell j c).add es)
  | .prt as1 es bs1 => k (.tup (as1.map .dat ++ .cel ρ.ce.length :: bs1.map .dat)) ((ρ.cell j c).add es)
  | .reg X => k (.cel ρ.ce.length) ((ρ.cell j c).addX X)
  | .ext d X => k (.dat d) ((ρ.cell j c).addT X)
theorem wsp1Q {W : PW0} {E : L2.St → XK} {xs : List AV} {j : Nat} {c : Cell} {post : RV → List Cell → Prop} {exc : Addr → Prop} (hX : ∀ C σ H, exc C → Same F.Fr H → E σ (.ref C) none H) (hj : ρ.ce[j]? = some c) (hn : noGone [c] = true) (ho : onlyC j xs = true) (hw : W (xs.map lend) [c] post exc) (hpo : ∀ r cs, post r cs → aft1 ρ j k r cs) : WpSp K F (spG K W) E xs ρ k := by
  intro as σ H G vs e rx Q q
  have hl : j < as.length := by rw [e.ln]; exact (List.getElem?_eq_some_iff.mp hj).1
  obtain ⟨a, ha⟩ : ∃ a, as[j]? = some a := ⟨_, List.getElem?_eq_getElem hl⟩
  obtain ⟨fa, hx, ok⟩ := e.ce j c a hj ha
  have rl : RepAs K G [a] (xs.map lend) vs := by
    have main : ∀ (ys : List AV) (ws : List V), onlyC j ys = true → RepAs K G as ys ws → RepAs K G [a] (ys.map lend) ws := by
      intro ys
      induction ys with
      | nil => intro ws _ r; cases r; exact .nil
      | cons y ys ih =>
        intro ws ho r
        cases r with
        | cons r1 r2 =>
          cases y with
          | tup xs => rw [onlyC] at ho; cases ho
          | dat d => exact .cons (Rep.mono (Same.refl _) _ _ r1) (ih _ ho r2)
          | cel i =>
            rw [onlyC, Bool.and_eq_true] at ho
            have ei := of_decide_eq_true ho.1
            subst ei
            obtain ⟨p, hp, rfl⟩ := r1
            rw [ha] at hp
            cases hp
            exact .cons ⟨a, rfl, rfl⟩ (ih _ ho.2 r2)
    exact main xs vs ho rx
  obtain ⟨TsE, rE⟩ := e.rg
  let Ts : Nat → Hp := fun i b => if i = 0 then TsE j b else none
  have tz : ∀ {i b}, Ts i b ≠ none → TsE j b ≠ none := fun {i b} h => by
    have h : (if i = 0 then TsE j b else none) ≠ none := h
    by_cases q : i = 0
    · rw [if_pos q] at h; exact h
    · rw [if_neg q] at h; exact absurd rfl h
  have tn : ∀ {b}, TsE j b = none → ∀ i, Ts i b = none := fun {b} h i => by
    show (if i = 0 then TsE j b else none) = none
    split
    · exact h
    · rfl
  have tp : ∀ {b}, TsE j b ≠ none → H b ≠ none ∧ G b = none ∧ F.Fr b = none ∧ ∀ k, as[k]? = some b → k = j := fun {b} h => by
    cases q : TsE j b with
    | none => exact absurd q h
    | some o =>
      obtain ⟨x, y, z, w⟩ := rE.pl j b o q
      exact ⟨by rw [x]; exact fun z => (nomatch z), y, z, w⟩
  have rL : RegsAt Ts (fun _ => none) G H [a] [c] := by
    refine ⟨fun i h b => ?_, fun i k b o u h1 h2 => ?_, fun i b o h => ?_, fun k t X p hc hp => ?_⟩
    · show (if i = 0 then TsE j b else none) = none
      by_cases q : i = 0
      · rw [if_pos q]
        refine rE.em j (fun t X z => h t X ?_) b
        rw [hj] at z
        cases z
        rw [q]
        rfl
      · rw [if_neg q]
    · have h1 : (if i = 0 then TsE j b else none) = some o := h1
      have h2 : (if k = 0 then TsE j b else none) = some u := h2
      split at h1
      · split at h2
        · omega
        · cases h2
      · cases h1
    · have h : (if i = 0 then TsE j b else none) = some o := h
      split at h
      · rename_i q
        obtain ⟨x, y, z, w⟩ := rE.pl j b o h
        refine ⟨x, y, rfl, fun k hk => ?_⟩
        cases k with
        | zero => exact q.symm
        | succ k => simp at hk
      · cases h
    · cases k with
      | zero =>
        simp at hc hp
        subst hc hp
        exact rE.ok j t X a hj ha
      | succ k => simp at hc
  refine ⟨G, [a], Ts, xs.map lend, [c], _, _, e.gh, ⟨rfl, by simp, fun i c2 b hc hb => ?_⟩, rL, rl, hw, ?_, fun C H' hc fr => hX C σ H' hc fun b o h => fr b o (by simpa using ne_of_none h fa) (tn (by
    cases q : TsE j b with
    | none => rfl
    | some u => have := (tp (b := b) (by rw [q]; exact fun z => (nomatch z))).2.2.1; rw [h] at this; cases this)) (e.fh _ _ h)⟩
  · cases i with
    | zero => simp at hc hb; subst hc hb; exact ⟨hx, ok⟩
    | succ i => simp at hc
  · rintro r cs' v H' G' Ts' hp0 fr sG gh' nw ck rg' nwT rr
    obtain ⟨c', rfl, ng, hp⟩ := hpo r cs' hp0
    have fr' : ∀ b o, b ≠ a → TsE j b = none → H b = some o → H' b = some o := fun b o n n2 h => fr b o (by simpa using n) (tn n2) h
    obtain ⟨hx', ok'⟩ := ck.ok 0 c' a rfl rfl
    have frT : ∀ {b : Addr} {o : HO}, F.Fr b = some o → TsE j b = none := fun {b o} h => by
      cases q : TsE j b with
      | none => rfl
      | some u => have := (tp (b := b) (by rw [q]; exact fun z => (nomatch z))).2.2.1; rw [h] at this; cases this
    have asT : ∀ {i : Nat} {b : Addr}, i ≠ j → as[i]? = some b → TsE j b = none := fun {i b} ne hb => by
      cases q : TsE j b with
      | none => rfl
      | some u => exact absurd ((tp (b := b) (by rw [q]; exact fun z => (nomatch z))).2.2.2 i hb) ne
    have gn : ∀ {b : Addr} {o : HO}, TsE j b = none → H b = some o → G b = none → G' b = none := fun {b o} n ho g => by
      cases z : G' b with
      | none => rfl
      | some o2 =>
        rcases nw b o2 z with y | y | ⟨i, y⟩
        · rw [g] at y; cases y
        · rw [ho] at y; cases y
        · exact absurd n (tz y)
    have alo : ∀ {i : Nat} {b : Addr}, as[i]? = some b → ∃ o, H b = some o := fun {i b} hb => by
      have hil : i < ρ.ce.length := by rw [← e.ln]; exact (List.getElem?_eq_some_iff.mp hb).1
      exact (e.ce i _ b (List.getElem?_eq_getElem hil) hb).2.1
    have injA : ∀ {i : Nat} {b : Addr}, as[i]? = some b → b = a → i = j := fun {i b} hb z => by
      subst z
      exact (List.getElem?_inj (List.getElem?_eq_some_iff.mp hb).1 e.nd).mp (hb.trans ha.symm)
    have rN : RegsAt (fun i b => if i = j then Ts' 0 b else TsE i b) F.Fr G' H' as (ρ.ce.set j c') := by
      refine ⟨fun i h b => ?_, fun i k b o u h1 h2 => ?_, fun i b o h => ?_, fun k t X p hc hp => ?_⟩
      · show (if i = j then Ts' 0 b else TsE i b) = none
        by_cases q : i = j
        · rw [if_pos q]
          refine rg'.em 0 (fun t X z => h t X ?_) b
          simp at z
          rw [q, List.getElem?_set_self (by rw [← e.ln]; exact hl), z]
        · rw [if_neg q]
          refine rE.em i (fun t X z => h t X ?_) b
          rw [List.getElem?_set_ne (fun z => q z.symm)]
          exact z
      · have h1 : (if i = j then Ts' 0 b else TsE i b) = some o := h1
        have h2 : (if k = j then Ts' 0 b else TsE k b) = some u := h2
        have mix : ∀ {k : Nat} {o u : HO}, k ≠ j → Ts' 0 b = some o → TsE k b = some u → False := fun {k o u} ne x y => by
          obtain ⟨y1, _, _, y4⟩ := rE.pl k b u y
          rcases nwT 0 b o x with z | z | ⟨m, z⟩
          · rw [y1] at z; cases z
          · rw [List.mem_singleton] at z
            subst z
            exact ne (y4 j ha).symm
          · have z := tz z
            cases q : TsE j b with
            | none => exact z q
            | some w => exact ne (rE.dj k j b u w y q)
        by_cases q1 : i = j
        · by_cases q2 : k = j
          · rw [q1, q2]
          · rw [if_pos q1] at h1
            rw [if_neg q2] at h2
            exact (mix q2 h1 h2).elim
        · rw [if_neg q1] at h1
          by_cases q2 : k = j
          · rw [if_pos q2] at h2
            exact (mix q1 h2 h1).elim
          · rw [if_neg q2] at h2
            exact rE.dj i k b o u h1 h2
      · have h : (if i = j then Ts' 0 b else TsE i b) = some o := h
        by_cases q : i = j
        · rw [if_pos q] at h
          obtain ⟨x, y, _, _⟩ := rg'.pl 0 b o h
          refine ⟨x, y, ?_, fun k hk => ?_⟩
          · rcases nwT 0 b o h with z | z | ⟨m, z⟩
            · exact Same.none e.fh z
            · rw [List.mem_singleton] at z; subst z; exact fa
            · exact (tp (tz z)).2.2.1
          · rw [q]
            rcases nwT 0 b o h with z | z | ⟨m, z⟩
            · obtain ⟨u, hu⟩ := alo hk
              rw [hu] at z; cases z
            · rw [List.mem_singleton] at z; exact injA hk z
            · exact (tp (tz z)).2.2.2 k hk
        · rw [if_neg q] at h
          obtain ⟨x, y, z, w⟩ := rE.pl i b o h
          have nb : b ≠ a := fun u => by subst u; exact q (w j ha).symm
          have nT : TsE j b = none := by
            cases u : TsE j b with
            | none => rfl
            | some o2 => exact absurd (rE.dj i j b o o2 h u) q
          exact ⟨fr' b o nb nT x, gn nT x y, z, w⟩
      · by_cases q : k = j
        · have hc : (ρ.ce.set j c')[k]? = some (Cell.reg t X) := hc
          rw [q, List.getElem?_set_self (by rw [← e.ln]; exact hl)] at hc
          rw [q, ha] at hp
          cases hp
          have := rg'.ok 0 t X a (by simpa using hc) rfl
          refine ⟨this.1, ?_⟩
          show X.ok (fun b => if k = j then Ts' 0 b else TsE k b) G' a
          simp only [if_pos q]
          exact this.2
        · rw [List.getElem?_set_ne (fun z => q z.symm)] at hc
          obtain ⟨x, y⟩ := rE.ok k t X p hc hp
          refine ⟨x, ?_⟩
          show X.ok (fun b => if k = j then Ts' 0 b else TsE k b) G' p
          simp only [if_neg q]
          exact X.mono (fun _ _ z => .inl (sG _ _ z)) y
    have e' : EnvOk K F (ρ.cell j c') as σ H' G' := by
      refine ⟨gh', fun b o h => fr' b o (ne_of_none h fa) (frT h) (e.fh _ _ h), fun b o h => ?_, Same.trans e.g0 sG, e.nd, e.pr, by rw [e.ln]; exact (List.length_set).symm, fun i c2 b hc hb => ?_, e.sn, fun i av hi => ?_, ⟨_, rN⟩⟩
      · rcases nw b o h with y | y | ⟨i, y⟩
        · exact e.fg _ _ y
        · exact .inr (Same.none e.fh y)
        · exact .inr (tp (tz y)).2.2.1
      · have hc' : (ρ.ce.set j c')[i]? = some c2 := hc
        by_cases hij : j = i
        · subst hij
          rw [List.getElem?_set_self (by rw [← e.ln]; exact hl)] at hc'
          cases hc'
          rw [ha] at hb
          cases hb
          exact ⟨fa, hx', ok'⟩
        · rw [List.getElem?_set_ne hij] at hc'
          obtain ⟨fb, ⟨o, ho⟩, okb⟩ := e.ce i c2 b hc' hb
          have nb : b ≠ a := fun z => hij (injA hb z).symm
          have nT := asT (fun z => hij z.symm) hb
          have fr2 : ∀ o, H b = some o → H' b = some o := fun o h => fr' b o nb nT h
          refine ⟨fb, ⟨o, fr2 _ ho⟩, ?_⟩
          cases c2 with
          | gone => trivial
          | reg t X => exact gn nT ho okb
          | lst es => obtain ⟨g, ws, hw, r⟩ := okb; exact ⟨gn nT ho g, ws, fr2 _ hw, Reps.mono sG _ _ r⟩
          | ins C9 ns9 es => obtain ⟨g, dx9, ws, hw, ln9, r⟩ := okb; exact ⟨gn nT ho g, dx9, ws, fr2 _ hw, ln9, Reps.mono sG _ _ r⟩
          | drw => obtain ⟨g, ws, hw, r⟩ := okb; exact ⟨gn nT ho g, ws, fr2 _ hw, r⟩
          | oth X => obtain ⟨g, o9, hw, r⟩ := okb; exact ⟨gn nT ho g, o9, fr2 _ hw, X.mono (fun _ _ z => .inl (sG _ _ z)) r⟩
      · obtain ⟨v, hv, r⟩ := e.sl i av hi
        exact ⟨v, hv, r.mono ⟨sG, [], by simp⟩⟩
    have eln : as.length = (ρ.cell j c').ce.length := e'.ln
    have newF : ∀ {p : Addr}, NewA H [a] Ts p → F.Fr p = none ∧ p ∉ as ∧ ∀ i, i ≠ j → TsE i p = none := fun {p} ⟨h1, h2⟩ => by
      have na : p ≠ a := by simpa using h2
      rcases h1 with h1 | ⟨i, h1⟩
      · refine ⟨Same.none e.fh h1, fun m => ?_, fun i _ => ?_⟩
        · obtain ⟨i, hi⟩ := List.getElem?_of_mem m
          obtain ⟨o, ho⟩ := alo hi
          rw [ho] at h1
          cases h1
        · cases z : TsE i p with
          | none => rfl
          | some o => rw [(rE.pl i p o z).1] at h1; cases h1
      · have h1 := tz h1
        obtain ⟨_, _, x, y⟩ := tp h1
        refine ⟨x, fun m => ?_, fun i ne => ?_⟩
        · obtain ⟨i, hi⟩ := List.getElem?_of_mem m
          have := y i hi
          subst this
          rw [ha] at hi
          exact na (Option.some.inj hi).symm
        · cases z : TsE i p with
          | none => rfl
          | some o =>
            cases u : TsE j p with
            | none => exact absurd u h1
            | some o2 => exact absurd (rE.dj i j p o o2 z u) ne
    have noT : ∀ {p : Addr}, NewA H [a] Ts p → (∀ i, Ts' i p = none) → ∀ i, (if i = j then Ts' 0 p else TsE i p) = none := fun {p} h1 h2 i => by
      by_cases q : i = j
      · rw [if_pos q]; exact h2 0
      · rw [if_neg q]; exact (newF h1).2.2 i q
    cases r with
    | dat d => exact q _ _ v as H' G' hp e' ⟨sG, [], by simp⟩ rr
    | ext d X =>
      obtain ⟨rd2, p, o, hp0, tz0, gp, ho, okX⟩ := rr
      obtain ⟨f1, f2, f3⟩ := newF hp0
      exact q _ _ _ _ H' G' hp (e'.ownT ho gp f1 f2 ⟨_, rN, noT hp0 tz0⟩ okX) ⟨sG, [p], rfl⟩ rd2
    | reg X =>
      obtain ⟨p, T, rfl, hp0, tz0, gp, ho, okX, ht⟩ := rr
      obtain ⟨f1, f2, f3⟩ := newF hp0
      exact q _ _ _ _ H' G' hp (e'.ownX rN ho gp f1 f2 (noT hp0 tz0) okX fun b o hb => by
        obtain ⟨h1, h2, h3, h4⟩ := ht b o hb
        obtain ⟨x1, x2, x3⟩ := newF h3
        exact ⟨h1, h2, x1, x2, noT h3 h4⟩) ⟨sG, [p], rfl⟩ (RepA.last e.ln)
    | prt as1 es bs1 =>
      obtain ⟨t, p, w1, w2, ws, rfl, sq, ra1, ra2, hp0, tz0, gp, hp1, hr⟩ := rr
      obtain ⟨f1, f2, f3⟩ := newF hp0
      refine q _ _ _ _ H' G' hp (e'.ownC hp1 gp f1 f2 ⟨_, rN, noT hp0 tz0⟩ hr) ⟨sG, [p], rfl⟩ ⟨t, _, rfl, sq, ?_⟩
      exact TNs.append (TNs.of ra1) (.cons (.cel (by rw [List.getElem?_append_right (by rw [e.ln]; exact Nat.le_refl _), e.ln, Nat.sub_self]; rfl)) (TNs.of ra2))
    | new es =>
      obtain ⟨p, ws, rfl, hp0, tz0, gp, hp1, hr⟩ := rr
      obtain ⟨f1, f2, f3⟩ := newF hp0
      exact q _ _ _ _ H' G' hp (e'.ownC hp1 gp f1 f2 ⟨_, rN, noT hp0 tz0⟩ hr) ⟨sG, [p], rfl⟩ (RepA.last e.ln)
theorem wsp1P {W : PW0} {E : L2.St → XK} {xs : List AV} {j : Nat} {c : Cell} {post : RV → List Cell → Prop} (hj : ρ.ce[j]? = some c) (hn : noGone [c] = true) (ho : onlyC j xs = true) (hw : W (xs.map lend) [c] post (fun _ => False)) (hpo : ∀ r cs, post r cs → aft1 ρ j k r cs) : WpSp K F (spG K W) E xs ρ k := wsp1Q (fun _ _ _ z _ => z.elim) hj hn ho hw hpo
/-- .. its errors are let out -/
theorem wsp1X {W : PW0} {xs : List AV} {j : Nat} {c : Cell} (hj : ρ.ce[j]? = some c) (hn : noGone [c] = true) (ho : onlyC j xs = true) (hw : W (xs.map lend) [c] (fun r cs => aft1 ρ j k r cs) F.ex) : WpSp K F (spG K W) (fun _ => F.E) xs ρ k := wsp1Q (fun C _ H hc s => F.hE C H hc s) hj hn ho hw fun _ _ z => z
theorem wsp1 {W : PW0} {E : L2.St → XK} {xs : List AV} {j : Nat} {c : Cell} (hj : ρ.ce[j]? = some c) (hn : noGone [c] = true) (ho : onlyC j xs = true) (hw : W (xs.map lend) [c] (fun r cs => aft1 ρ j k r cs) (fun _ => False)) : WpSp K F (spG K W) E xs ρ k := wsp1P hj hn ho hw fun _ _ z => z
/-- one cell lent to be written, others to be read -/
inductive AsL (ρ : En) (j : Nat) : List AV → List AV → Prop
  | nil : AsL ρ j [] []
  | dat {d : D} {xs ys : List AV} : AsL ρ j xs ys → AsL ρ j (.dat d :: xs) (.dat d :: ys)
  | own {xs ys : List AV} : AsL ρ j xs ys → AsL ρ j (.cel j :: xs) (.cel 0 :: ys)
  | cel {i : Nat} {es : List D} {xs ys : List AV} : i ≠ j → ρ.ce[i]? = some (.lst es) → AsL ρ j xs ys → AsL ρ j (.cel i :: xs) (.dat (.lst es) :: ys)
theorem AsL.mem {j : Nat} {xs ys : List AV} (h : AsL ρ j xs ys) {i : Nat} (m : .cel i ∈ xs) : i = j ∨ ∃ es, ρ.ce[i]? = some (.lst es) := by
  induction h with
  | nil => cases m
  | dat _ ih => rcases List.mem_cons.mp m with z | z; (cases z); exact ih z
  | own _ ih => rcases List.mem_cons.mp m with z | z; (cases z; exact .inl rfl); exact ih z
  | cel _ hc _ ih => rcases List.mem_cons.mp m with z | z; (cases z; exact .inr ⟨_, hc⟩); exact ih z
def aft2 (ρ : En) (j : Nat) (k : AV → En → Prop) (r : RV) (cs : List Cell) : Prop := cs = [.drw] ∧ match r with
  | .dat d => hard d = true ∧ k (.dat d) (ρ.cell j .drw)
  | .new es => hards es = true ∧ k (.cel ρ.ce.length) ((ρ.cell j .drw).add es)
  | .prt _ _ _ => False
  | .reg _ => False
  | .ext _ _ => False
open Classical in
theorem wsp2P {W : PW0} {E : L2.St → XK} {xs ys : List AV} {j : Nat} {c : Cell} {post : RV → List Cell → Prop} (hj : ρ.ce[j]? = some c) (hn : noGone [c] = true) (nr : ∀ t X, c ≠ Cell.reg t X) (ha : AsL ρ j xs ys) (hw : W ys [c] post (fun _ => False)) (hpo : ∀ r cs, post r cs → aft2 ρ j k r cs) : WpSp K F (spG K W) E xs ρ k := by
  intro as σ H G vs e rx Q q
  have hl : j < as.length := by rw [e.ln]; exact (List.getElem?_eq_some_iff.mp hj).1
  obtain ⟨a, haj⟩ : ∃ a, as[j]? = some a := ⟨_, List.getElem?_eq_getElem hl⟩
  obtain ⟨fa, hx, ok⟩ := e.ce j c a hj haj
  have cg : c ≠ .gone := fun z => by subst z; rw [noGone] at hn; cases hn
  have apart : ∀ {i : Nat} {b : Addr}, i ≠ j → as[i]? = some b → b ≠ a := fun ne hb z => by
    subst z
    exact ne ((List.getElem?_inj (List.getElem?_eq_some_iff.mp hb).1 e.nd).mp (hb.trans haj.symm))
  let B : Addr → Prop := fun b => ∃ i : Nat, i ≠ j ∧ .cel i ∈ xs ∧ as[i]? = some b
  have bcell : ∀ b, B b → G b = none ∧ ∃ ws, H b = some (.lst ws) := fun b ⟨i, ne, m, hi⟩ => by
    rcases ha.mem m with z | ⟨es, hc⟩
    · exact absurd z ne
    obtain ⟨_, _, g, ws, hw, _⟩ := e.ce i _ b hc hi
    exact ⟨g, ws, hw⟩
  have nBa : ¬ B a := fun ⟨i, ne, _, hi⟩ => apart ne hi rfl
  let G1 : Hp := fun b => if B b then H b else G b
  have g1 : ∀ b, B b → G1 b = H b := fun b h => if_pos h
  have g2 : ∀ b, ¬ B b → G1 b = G b := fun b h => if_neg h
  have s1 : Same G G1 := fun b o h => by
    rw [g2 b fun z => by rw [(bcell b z).1] at h; cases h]; exact h
  have h1 : Same G1 H := fun b o h => by
    by_cases z : B b
    · rw [g1 b z] at h; exact h
    · rw [g2 b z] at h; exact e.gh _ _ h
  have ok1 : CellOk K G1 H a c := by
    cases c with
    | gone => trivial
    | reg t X => exact absurd rfl (nr t X)
    | lst es => obtain ⟨g, ws, hw, r⟩ := ok; exact ⟨by rw [g2 a nBa]; exact g, ws, hw, Reps.mono s1 _ _ r⟩
    | ins C9 ns9 es => obtain ⟨g, dx9, ws, hw, ln9, r⟩ := ok; exact ⟨by rw [g2 a nBa]; exact g, dx9, ws, hw, ln9, Reps.mono s1 _ _ r⟩
    | drw => obtain ⟨g, ws, hw, r⟩ := ok; exact ⟨by rw [g2 a nBa]; exact g, ws, hw, r⟩
    | oth X => obtain ⟨g, o9, hw, r⟩ := ok; exact ⟨by rw [g2 a nBa]; exact g, o9, hw, X.mono (fun _ _ z => .inl (s1 _ _ z)) r⟩
  have rd : RepAs K G1 [a] ys vs := by
    have main : ∀ (zs es : List AV) (ws : List V), (∀ i, .cel i ∈ zs → .cel i ∈ xs) → AsL ρ j zs es → RepAs K G as zs ws → RepAs K G1 [a] es ws := by
      intro zs es ws sub hd
      induction hd generalizing ws with
      | nil => intro r; cases r; exact .nil
      | dat _ ih =>
        intro r
        cases r with
        | cons a b => exact .cons (Rep.mono s1 _ _ a) (ih _ (fun j m => sub j (List.mem_cons_of_mem _ m)) b)
      | own _ ih =>
        intro r
        cases r with
        | cons r1 b =>
          obtain ⟨p, hp, rfl⟩ := r1
          rw [haj] at hp
          cases hp
          exact .cons ⟨a, rfl, rfl⟩ (ih _ (fun j m => sub j (List.mem_cons_of_mem _ m)) b)
      | @cel i es2 ys2 ds2 ne hc _ ih =>
        intro r
        cases r with
        | cons r1 b =>
          obtain ⟨p, hp, rfl⟩ := r1
          obtain ⟨_, _, g, us, hu, hr⟩ := e.ce i _ p hc hp
          refine .cons ?_ (ih _ (fun j m => sub j (List.mem_cons_of_mem _ m)) b)
          exact Rep.lst (by rw [g1 p ⟨i, ne, sub i List.mem_cons_self, hp⟩]; exact hu) (Reps.mono s1 _ _ hr)
    exact main xs ys vs (fun _ m => m) ha rx
  obtain ⟨Ts0, r0⟩ := e.rg
  refine ⟨G1, [a], fun _ _ => none, ys, [c], _, _, h1, ⟨rfl, by simp, fun i c2 b hc hb => ?_⟩, RegsAt.no (fun k t X z => ?_), rd, hw, ?_, fun _ _ z => z.elim⟩
  · cases i with
    | zero => simp at hc hb; subst hc hb; exact ⟨hx, ok1⟩
    | succ i => simp at hc
  · cases k with
    | zero => simp at z; exact nr t X z
    | succ k => simp at z
  rintro r cs' v H' G1' Ts' hp0 fr sg gh' nw ck _ _ rr
  obtain ⟨rfl, hp⟩ := hpo r cs' hp0
  have fr' : ∀ b o, b ≠ a → H b = some o → H' b = some o := fun b o n h => fr b o (by simpa using n) (fun _ => rfl) h
  obtain ⟨hx', ok'⟩ := ck.ok 0 .drw a rfl rfl
  let G' : Hp := fun b => if B b then none else G1' b
  have k1 : ∀ b, B b → G' b = none := fun b h => if_pos h
  have k2 : ∀ b, ¬ B b → G' b = G1' b := fun b h => if_neg h
  have sG : Same G G' := fun b o h => by
    have nb : ¬ B b := fun z => by rw [(bcell b z).1] at h; cases h
    rw [k2 b nb]; exact sg _ _ (s1 _ _ h)
  have keep : ∀ a o, G' a = some o → G a = some o ∨ H a = none := fun a o h => by
    by_cases z : B a
    · rw [k1 a z] at h; cases h
    · rw [k2 a z] at h
      rcases nw a o h with y | y | ⟨_, y⟩
      · rw [g2 a z] at y; exact .inl y
      · exact .inr y
      · exact absurd rfl y
  have back : ∀ a o, G1' a = some o → G' a = some o ∨ ∃ xs, o = HO.lst xs := fun a o h => by
    by_cases z : B a
    · obtain ⟨_, ws, hw⟩ := bcell a z
      rw [sg a _ (by rw [g1 a z]; exact hw)] at h
      cases h
      exact .inr ⟨_, rfl⟩
    · exact .inl (by rw [k2 a z]; exact h)
  have gn : ∀ {b : Addr} {o : HO}, H b = some o → G b = none → G' b = none := fun {b o} ho g => by
    cases z : G' b with
    | none => rfl
    | some o2 =>
      rcases keep b o2 z with y | y
      · rw [g] at y; cases y
      · rw [ho] at y; cases y
  have rN : ∃ Ts', RegsAt Ts' F.Fr G' H' as (ρ.ce.set j .drw) ∧ ∀ i b o, Ts' i b = some o → Ts0 i b = some o := r0.setCS haj (fun _ _ z => nomatch z) fr' (fun b o _ ho g => gn ho g) sG
  have okc : CellOk K G' H' a .drw → EnvOk K F (ρ.cell j .drw) as σ H' G' := fun okk => by
    refine ⟨fun a o h => ?_, fun b o h => fr' b o (ne_of_none h fa) (e.fh _ _ h), fun b o h => ?_, Same.trans e.g0 sG, e.nd, e.pr, by rw [e.ln]; exact (List.length_set).symm, fun i c2 b hc hb => ?_, e.sn, fun i av hi => ?_, let ⟨T, h, _⟩ := rN; ⟨T, h⟩⟩
    · by_cases z : B a
      · rw [k1 a z] at h; cases h
      · rw [k2 a z] at h; exact gh' _ _ h
    · rcases keep b o h with y | y
      · exact e.fg _ _ y
      · exact .inr (Same.none e.fh y)
    · have hc' : (ρ.ce.set j .drw)[i]? = some c2 := hc
      by_cases hij : j = i
      · subst hij
        rw [List.getElem?_set_self (by rw [← e.ln]; exact hl)] at hc'
        cases hc'
        rw [haj] at hb
        cases hb
        exact ⟨fa, hx', okk⟩
      · rw [List.getElem?_set_ne hij] at hc'
        obtain ⟨fb, ⟨o, ho⟩, okb⟩ := e.ce i c2 b hc' hb
        have nb : b ≠ a := apart (fun z => hij z.symm) hb
        refine ⟨fb, ⟨o, fr' _ _ nb ho⟩, ?_⟩
        cases c2 with
        | gone => trivial
        | reg t X => exact gn ho okb
        | lst es => obtain ⟨g, ws, hw, r⟩ := okb; exact ⟨gn ho g, ws, fr' _ _ nb hw, Reps.mono sG _ _ r⟩
        | ins C9 ns9 es => obtain ⟨g, dx9, ws, hw, ln9, r⟩ := okb; exact ⟨gn ho g, dx9, ws, fr' _ _ nb hw, ln9, Reps.mono sG _ _ r⟩
        | drw => obtain ⟨g, ws, hw, r⟩ := okb; exact ⟨gn ho g, ws, fr' _ _ nb hw, r⟩
        | oth X => obtain ⟨g, o9, hw, r⟩ := okb; exact ⟨gn ho g, o9, fr' _ _ nb hw, X.mono (fun _ _ z => .inl (sG _ _ z)) r⟩
    · obtain ⟨v, hv, r⟩ := e.sl i av hi
      exact ⟨v, hv, r.mono ⟨sG, [], by simp⟩⟩
  have gA : G1' a = none → G' a = none := fun z => by rw [k2 a nBa]; exact z
  have finish : EnvOk K F (ρ.cell j .drw) as σ H' G' → Q v H' := fun e' => by
    cases r with
    | dat d => exact q _ _ v as H' G' hp.2 e' ⟨sG, [], by simp⟩ (Rep.hard back _ _ hp.1 rr)
    | prt _ _ _ => exact hp.elim
    | reg _ => exact hp.elim
    | ext _ _ => exact hp.elim
    | new es =>
      obtain ⟨p, ws, rfl, ⟨hp0, _⟩, _, gp, hp1, hr⟩ := rr
      have hp0 : H p = none := hp0.elim id fun ⟨_, z⟩ => absurd rfl z
      have np : p ∉ as := fun m => by
        obtain ⟨i, hi⟩ := List.getElem?_of_mem m
        have hil : i < ρ.ce.length := by rw [← e.ln]; exact (List.getElem?_eq_some_iff.mp hi).1
        obtain ⟨_, ⟨o, ho⟩, _⟩ := e.ce i _ p (List.getElem?_eq_getElem hil) hi
        rw [ho] at hp0
        cases hp0
      have nb : ¬ B p := fun ⟨i, _, _, hi⟩ => np (List.mem_of_getElem? hi)
      exact q _ _ _ _ H' G' hp.2 (e'.ownC hp1 (by rw [k2 p nb]; exact gp) (Same.none e.fh hp0) np (by
        obtain ⟨Ts1, r1, s1⟩ := rN
        exact ⟨Ts1, r1, fun i => by
          cases z : Ts1 i p with
          | none => rfl
          | some o => rw [(r0.pl i p o (s1 i p o z)).1] at hp0; cases hp0⟩) (Reps.hard back _ _ hp.1 hr)) ⟨sG, [p], rfl⟩ (RepA.last e.ln)
  obtain ⟨g, ws, hw, r⟩ := ok'
  exact finish (okc ⟨gA g, ws, hw, r⟩)
end
section
variable {K : PySem.W.Frag} {F : Fx} {ρ : En} {k : AV → En → Prop}
def aftD (ρ : En) (j : Nat) (xs : List AV) (k : AV → En → Prop) : RV → Prop
  | .dat d => (onlyC j xs || hard d) = true ∧ k (.dat d) ρ
  | .new es => (onlyC j xs || hards es) = true ∧ k (.cel ρ.ce.length) (ρ.add es)
  | .prt as1 es bs1 => onlyC j xs = true ∧ k (.tup (as1.map .dat ++ .cel ρ.ce.length :: bs1.map .dat)) (ρ.add es)
  | .reg X => onlyC j xs = true ∧ k (.cel ρ.ce.length) (ρ.addX X)
  | .ext _ _ => False
theorem AsL.lend {j : Nat} {xs ys : List AV} (h : AsL ρ j xs ys) (o : onlyC j xs = true) : ys = xs.map LK.lend := by
  induction h with
  | nil => rfl
  | dat _ ih => rw [ih o]; rfl
  | own _ ih => rw [onlyC, Bool.and_eq_true] at o; rw [ih o.2]; rfl
  | cel ne _ _ ih => rw [onlyC, Bool.and_eq_true] at o; exact absurd (of_decide_eq_true o.1) ne
/-- a call that draws from the state at j -/
theorem wspD {W : PW0} {E : L2.St → XK} {xs ys : List AV} {j : Nat} (hj : ρ.ce[j]? = some .drw) (ha : AsL ρ j xs ys) (hw : W ys [.drw] (fun r cs => cs = [.drw] ∧ aftD ρ j xs k r) (fun _ => False)) : WpSp K F (spG K W) E xs ρ k := by
  have es : ρ.cell j .drw = ρ := by
    obtain ⟨sl, ce⟩ := ρ
    show En.mk sl (ce.set j .drw) = ⟨sl, ce⟩
    have hl : j < ce.length := (List.getElem?_eq_some_iff.mp hj).1
    have he : ce[j] = .drw := (List.getElem?_eq_some_iff.mp hj).2
    rw [← he, List.set_getElem_self]
  cases o : onlyC j xs with
  | true =>
    refine wsp1P hj rfl o (by rw [← ha.lend o]; exact hw) ?_
    rintro r cs ⟨rfl, h⟩
    refine ⟨.drw, rfl, rfl, ?_⟩
    cases r with
    | dat d => rw [es]; exact h.2
    | prt _ _ _ => rw [es]; exact h.2
    | reg _ => rw [es]; exact h.2
    | ext _ _ => exact h.elim
    | new es2 => rw [es]; exact h.2
  | false =>
    refine wsp2P hj rfl (fun _ _ z => nomatch z) ha hw ?_
    rintro r cs ⟨rfl, h⟩
    refine ⟨rfl, ?_⟩
    cases r with
    | prt _ _ _ => exact absurd h.1 (by rw [o]; decide)
    | reg _ => exact absurd h.1 (by rw [o]; decide)
    | ext _ _ => exact h.elim
    | dat d =>
      obtain ⟨h1, h2⟩ := h
      rw [o, Bool.false_or] at h1
      rw [es]
      exact ⟨h1, h2⟩
    | new es2 =>
      obtain ⟨h1, h2⟩ := h
      rw [o, Bool.false_or] at h1
      rw [es]
      exact ⟨h1, h2⟩
end
theorem spG_len {K : PySem.W.Frag} {W : PW0} {vs : List V} {H : Hp} {Q : VK} {E : XK} {n : Nat} (h : spG K W vs H Q E) (hl : ∀ xs cs post exc, W xs cs post exc → xs.length = n) : vs.length = n := by
  obtain ⟨G, as, Ts, xs, cs, post, exc, _, _, _, rx, hw, _⟩ := h
  rw [rx.length]
  exact hl _ _ _ _ hw
/-! ### rules of the data layer: kinds, ==, comprehensions, errors -/
section
variable {K : PySem.W.Frag} {F : Fx} {ρ : En} {k : AV → En → Prop} {kb : Bool → En → Prop} {ks : KS} {t u : TS} {ta tb te : TE} {tt tu : TT}
/-- the built-in class of data -/
def tyD : D → Option String
  | .non => some "NoneType" | .bl _ => some "bool" | .int _ => some "int" | .str _ => some "str" | .tup _ => some "tuple" | .lst _ => some "list" | .scr _ => some "list" | .dic => some "dict" | _ => none
theorem SqL.ty {H : Hp} {a : Addr} {vs : List V} (h : SqL K H a vs) : TyX K H (.ref a) (.type "list") := by
  rcases h with (h | ⟨o, h⟩) | ⟨o, its, n, h1, h2, _⟩
  · exact .base (.lst h)
  · exact .base (.frz h)
  · exact .kList h1 h2
theorem SqT.ty {H : Hp} {a : Addr} {vs : List V} (h : SqT K H a vs) : TyX K H (.ref a) (.type "tuple") := by
  rcases h with (h | ⟨o, h⟩) | ⟨o, its, n, h1, h2, _⟩
  · exact .base (.tup h)
  · exact .fTuple h
  · exact .kTuple h1 h2
theorem tyD_rep {H G : Hp} {d : D} {v : V} {T : String} (gh : Same G H) (r : Rep K G d v) (h : tyD d = some T) : TyX K H v (.type T) := by
  cases d with
  | non => cases h; cases r; exact .base .non
  | bl b => cases h; cases r; exact .base (.bl b)
  | int i => cases h; cases r; exact .base (.int i)
  | str x => cases h; cases r; exact .base (.str x)
  | tup ds => cases h; obtain ⟨a, vs, rfl, hs, _⟩ := Rep.tupE r; exact SqT.ty (Same.seqT gh hs)
  | lst ds => cases h; obtain ⟨a, vs, rfl, hs, _⟩ := Rep.lstE r; exact SqL.ty (SqL.of (gh _ _ hs))
  | scr ds => cases h; obtain ⟨a, vs, rfl, hs, _⟩ := Rep.scrE r; exact SqL.ty (Same.seq gh hs)
  | obj C ns ds => cases h
  | dic => cases h; obtain ⟨a, kvs, rfl, hs⟩ := Rep.dicE r; exact .base (.dK (gh _ _ hs))
  | ty n => cases h
  | cls C => cases h
/-- isinstance by built-in classes -/
def isT (T : String) (d : D) : Bool := match tyD d with
  | some "int" => T == "int"
  | some "bool" => T == "int" || T == "bool"
  | some s => T == s
  | none => false
def isA (T : String) : AV → Bool
  | .dat d => isT T d
  | .cel _ => T == "list"
  | .tup _ => T == "tuple"
theorem wc_isiB {T s : String} {d : D} {b : Bool} (h1 : tyD d = some s) (h2 : kitB s T = some b) (hk : k (.dat (.bl b)) ρ) : WpC K F (rIsi K) [.dat d, .dat (.ty T)] ρ k := fun as σ H G vs e r Q q => by
  cases r with
  | cons r1 c =>
    cases c with
    | cons r2 c =>
      cases c
      cases (show Rep K G (.ty T) _ from r2)
      exact ⟨_, _, _, _, b, rfl, .ty _, tyD_rep e.gh r1 h1, kit_ty h2, q _ ρ _ as H G hk e .refl (Rep.bl _)⟩
theorem wc_isi {T : String} {d : D} (hT : T ∈ ["int", "bool", "str", "tuple", "list"]) (hd : (tyD d).isSome = true) (hk : k (.dat (.bl (isT T d))) ρ) : WpC K F (rIsi K) [.dat d, .dat (.ty T)] ρ k := by
  have go : ∀ s, tyD d = some s → kitB s T = some (isT T d) → WpC K F (rIsi K) [.dat d, .dat (.ty T)] ρ k := fun s h1 h2 => wc_isiB h1 h2 hk
  simp only [List.mem_cons, List.not_mem_nil, or_false] at hT
  cases d <;> first
    | (exact Bool.noConfusion (show false = true from hd))
    | (refine go _ rfl ?_; rcases hT with rfl | rfl | rfl | rfl | rfl <;> (simp only [isT, tyD]; decide +kernel))
theorem wc_isiC {T : String} {j : Nat} {ds : List D} (hT : T ∈ ["int", "bool", "str", "tuple", "list"]) (hc : ρ.ce[j]? = some (.lst ds)) (hk : k (.dat (.bl (T == "list"))) ρ) : WpC K F (rIsi K) [.cel j, .dat (.ty T)] ρ k := fun as σ H G vs e r Q q => by
  cases r with
  | cons r1 c =>
    cases c with
    | cons r2 c =>
      cases c
      cases (show Rep K G (.ty T) _ from r2)
      obtain ⟨a, ha, rfl⟩ := r1
      obtain ⟨_, _, _, ws, hw, _⟩ := e.ce j _ a hc ha
      have h2 : kitB "list" T = some (T == "list") := by
        simp only [List.mem_cons, List.not_mem_nil, or_false] at hT
        rcases hT with rfl | rfl | rfl | rfl | rfl <;> decide +kernel
      exact ⟨_, _, _, _, _, rfl, .ty _, .base (.lst hw), kit_ty h2, q _ ρ _ as H G hk e .refl (Rep.bl _)⟩
/-! == -/
mutual
def py : D → PyData
  | .non => .none
  | .bl b => .bool b
  | .int i => .int i
  | .str x => .str x
  | .tup ds => .tuple (pys ds)
  | .lst ds => .list (pys ds)
  | .scr ds => .list (pys ds)
  | .obj _ _ _ => .none
  | .dic => .none
  | .ty _ => .none
  | .cls _ => .none
def pys : List D → List PyData
  | [] => []
  | d :: ds => py d :: pys ds
end
mutual
/-- data of at most this depth that == may look at -/
def fine : Nat → D → Bool
  | _, .non => true
  | _, .bl _ => true
  | _, .int _ => true
  | _, .str x => PyData.strOk x
  | n + 1, .tup ds => fines n ds
  | n + 1, .lst ds => fines n ds
  | n + 1, .scr ds => fines n ds
  | _, _ => false
def fines : Nat → List D → Bool
  | _, [] => true
  | n, d :: ds => fine n d && fines n ds
end
mutual
theorem fine_dp {G : Hp} : ∀ (n : Nat) (d : D) (v : V), fine n d = true → Rep K G d v → Dp K G v (py d) ∧ PyData.canLay0 (py d) = true ∧ PyData.depth (py d) ≤ n
  | _, .non, _, _, r => by cases r; exact ⟨.non, rfl, by simp [py, PyData.depth]⟩
  | _, .bl _, _, _, r => by cases r; exact ⟨.bl _, rfl, by simp [py, PyData.depth]⟩
  | _, .int _, _, _, r => by cases r; exact ⟨.int _, rfl, by simp [py, PyData.depth]⟩
  | n, .str x, _, h, r => by
    cases r
    refine ⟨.str _, ?_, by simp [py, PyData.depth]⟩
    have h' : PyData.strOk x = true := by cases n <;> (rw [fine] at h; exact h)
    simp [py, PyData.canLay0, h']
  | n + 1, .tup ds, _, h, r => by
    cases r with
    | tup a b =>
      obtain ⟨x, y, z⟩ := fine_dps n ds _ (by rw [fine] at h; exact h) b
      exact ⟨.tup a x, by simp [py, PyData.canLay0, y], by simp [py, PyData.depth]; omega⟩
  | n + 1, .lst ds, _, h, r => by
    cases r with
    | lst a b =>
      obtain ⟨x, y, z⟩ := fine_dps n ds _ (by rw [fine] at h; exact h) b
      exact ⟨.lst (SqL.of a) x, by simp [py, PyData.canLay0, y], by simp [py, PyData.depth]; omega⟩
  | n + 1, .scr ds, _, h, r => by
    cases r with
    | scr a b =>
      obtain ⟨x, y, z⟩ := fine_dps n ds _ (by rw [fine] at h; exact h) b
      exact ⟨.lst a x, by simp [py, PyData.canLay0, y], by simp [py, PyData.depth]; omega⟩
  | 0, .tup ds, _, h, r => by simp [fine] at h
  | 0, .lst ds, _, h, r => by simp [fine] at h
  | 0, .scr ds, _, h, r => by simp [fine] at h
  | n, .obj _ _ _, _, h, r => by cases n <;> simp [fine] at h
  | n, .dic, _, h, r => by cases n <;> simp [fine] at h
  | n, .ty _, _, h, r => by cases n <;> simp [fine] at h
  | n, .cls _, _, h, r => by cases n <;> simp [fine] at h
theorem fine_dps {G : Hp} : ∀ (n : Nat) (ds : List D) (vs : List V), fines n ds = true → Reps K G ds vs → DpAll K G vs (pys ds) ∧ PyData.canLayAll0 (pys ds) = true ∧ PyData.depthAll (pys ds) ≤ n
  | _, [], _, _, r => by cases r; exact ⟨.nil, rfl, by simp [pys, PyData.depthAll]⟩
  | n, d :: ds, _, h, r => by
    cases r with
    | cons a b =>
      have h' : fine n d = true ∧ fines n ds = true := by cases n <;> (rw [fines, Bool.and_eq_true] at h; exact h)
      obtain ⟨x, y, z⟩ := fine_dp n d _ h'.1 a
      obtain ⟨x2, y2, z2⟩ := fine_dps n ds _ h'.2 b
      exact ⟨.cons x x2, by simp [pys, PyData.canLayAll0, y, y2], by simp [pys, PyData.depthAll]; omega⟩
end
def eqD (d e : D) : Bool := PyData.eqv (py d) (py e)
section
variable {as : List Addr} {σ : L2.St} {H G : Hp}
mutual
theorem OfT.rep (e : EnvOk K F ρ as σ H G) : ∀ (x : TN) (d : D) (v : V), OfT ρ x d → TNr K G as x v → Rep K H d v
  | .dat e0, d, v, h, r => by cases h; cases r with | dat r => exact Rep.mono e.gh _ _ r
  | .cel j, d, v, h, r => by
    cases h with
    | cel hc =>
      cases r with
      | cel ha =>
        obtain ⟨_, _, _, ws, hw, hr⟩ := e.ce _ _ _ hc ha
        exact .lst hw (Reps.mono e.gh _ _ hr)
  | .tup xs, d, v, h, r => by
    cases h with
    | tup h2 =>
      cases r with
      | tup s r2 => exact .tup (Same.seqT e.gh s) (OfTs.rep e xs _ _ h2 r2)
theorem OfTs.rep (e : EnvOk K F ρ as σ H G) : ∀ (xs : List TN) (ds : List D) (vs : List V), OfTs ρ xs ds → TNs K G as xs vs → Reps K H ds vs
  | [], _, _, h, r => by cases h; cases r; exact .nil
  | x :: xs, _, _, h, r => by
    cases h with
    | cons h1 h2 =>
      cases r with
      | cons r1 r2 => exact .cons (OfT.rep e x _ _ h1 r1) (OfTs.rep e xs _ _ h2 r2)
end
end
/-- data of a value: a cell is its list -/
inductive OfD (ρ : En) : AV → D → Prop
  | dat (d : D) : OfD ρ (.dat d) d
  | cel {j : Nat} {ds : List D} : ρ.ce[j]? = some (.lst ds) → OfD ρ (.cel j) (.lst ds)
theorem OfD.dp {as : List Addr} {σ : L2.St} {H G : Hp} {x : AV} {d : D} {v : V} {n : Nat} (e : EnvOk K F ρ as σ H G) (h : OfD ρ x d) (r : RepA K G as x v) (hf : fine n d = true) (hn : n ≤ 64) : Dp K H v (py d) ∧ SeqAt.shaped (py d) = true := by
  have rr : Rep K H d v := by
    cases h with
    | dat => exact Rep.mono e.gh _ _ r
    | cel hc =>
      obtain ⟨a, ha, rfl⟩ := r
      obtain ⟨_, _, _, ws, hw, hr⟩ := e.ce _ _ a hc ha
      exact .lst hw (Reps.mono e.gh _ _ hr)
  obtain ⟨x, y, z⟩ := fine_dp n d v hf rr
  refine ⟨x, ?_⟩
  unfold SeqAt.shaped
  rw [y, decide_eq_true (by omega : PyData.depth (py d) ≤ 64)]
  rfl
theorem wr_eqD {x y : AV} {d e : D} (n : Nat) (hx : OfD ρ x d) (hy : OfD ρ y e) (h1 : fine n d = true) (h2 : fine n e = true) (hn : n ≤ 64) (hk : k (.dat (.bl (eqD d e))) ρ) : WpR K F (rEqD K) x y ρ k := fun as σ H G vx vy en r1 r2 Q q => by
  obtain ⟨a, b⟩ := hx.dp en r1 h1 hn
  obtain ⟨a2, b2⟩ := hy.dp en r2 h2 hn
  exact ⟨_, _, a, a2, b, b2, q _ ρ _ as H G hk en .refl (Rep.bl _)⟩
theorem wr_neD {x y : AV} {d e : D} (n : Nat) (hx : OfD ρ x d) (hy : OfD ρ y e) (h1 : fine n d = true) (h2 : fine n e = true) (hn : n ≤ 64) (hk : k (.dat (.bl (!eqD d e))) ρ) : WpR K F (rNeD K) x y ρ k := fun as σ H G vx vy en r1 r2 Q q => by
  obtain ⟨a, b⟩ := hx.dp en r1 h1 hn
  obtain ⟨a2, b2⟩ := hy.dp en r2 h2 hn
  exact ⟨_, _, a, a2, b, b2, q _ ρ _ as H G hk en .refl (Rep.bl _)⟩
/-- .. also of a tuple that holds cells -/
inductive OfX (ρ : En) : AV → D → Prop
  | of {x : AV} {d : D} : OfD ρ x d → OfX ρ x d
  | tup {xs : List TN} {ds : List D} : OfTs ρ xs ds → OfX ρ (.tup xs) (.tup ds)
theorem OfX.dp {as : List Addr} {σ : L2.St} {H G : Hp} {x : AV} {d : D} {v : V} {n : Nat} (e : EnvOk K F ρ as σ H G) (h : OfX ρ x d) (r : RepA K G as x v) (hf : fine n d = true) (hn : n ≤ 64) : Dp K H v (py d) ∧ SeqAt.shaped (py d) = true := by
  cases h with
  | of h => exact h.dp e r hf hn
  | tup ht =>
    obtain ⟨a, ws, rfl, s, rs⟩ := r
    obtain ⟨x, y, z⟩ := fine_dp n _ _ hf (Rep.tup (Same.seqT e.gh s) (OfTs.rep e _ _ _ ht rs))
    refine ⟨x, ?_⟩
    unfold SeqAt.shaped
    rw [y, decide_eq_true (by omega)]
    rfl
theorem wr_eqX {x y : AV} {d e : D} (n : Nat) (hx : OfX ρ x d) (hy : OfX ρ y e) (h1 : fine n d = true) (h2 : fine n e = true) (hn : n ≤ 64) (hk : k (.dat (.bl (eqD d e))) ρ) : WpR K F (rEqD K) x y ρ k := fun as σ H G vx vy en r1 r2 Q q => by
  obtain ⟨a, b⟩ := hx.dp en r1 h1 hn
  obtain ⟨a2, b2⟩ := hy.dp en r2 h2 hn
  exact ⟨_, _, a, a2, b, b2, q _ ρ _ as H G hk en .refl (Rep.bl _)⟩
theorem wr_neX {x y : AV} {d e : D} (n : Nat) (hx : OfX ρ x d) (hy : OfX ρ y e) (h1 : fine n d = true) (h2 : fine n e = true) (hn : n ≤ 64) (hk : k (.dat (.bl (!eqD d e))) ρ) : WpR K F (rNeD K) x y ρ k := fun as σ H G vx vy en r1 r2 Q q => by
  obtain ⟨a, b⟩ := hx.dp en r1 h1 hn
  obtain ⟨a2, b2⟩ := hy.dp en r2 h2 hn
  exact ⟨_, _, a, a2, b, b2, q _ ρ _ as H G hk en .refl (Rep.bl _)⟩
/-! == without truths in it is being alike -/
mutual
def noB : D → Bool
  | .bl _ => false
  | .tup ds => noBs ds
  | .lst ds => noBs ds
  | .scr _ => false
  | .obj _ _ _ => false
  | .dic => false
  | .ty _ => false
  | .cls _ => false
  | _ => true
def noBs : List D → Bool
  | [] => true
  | d :: ds => noB d && noBs ds
end
mutual
theorem eqD_iff : ∀ (d e : D), noB d = true → noB e = true → (eqD d e = true ↔ d = e)
  | .non, e, _, h => by cases e <;> simp [eqD, py, PyData.eqv, noB] at h ⊢
  | .int i, e, _, h => by cases e <;> simp [eqD, py, PyData.eqv, noB] at h ⊢
  | .str i, e, _, h => by cases e <;> simp [eqD, py, PyData.eqv, noB] at h ⊢
  | .bl _, _, h, _ => by simp [noB] at h
  | .obj _ _ _, _, h, _ => by simp [noB] at h
  | .scr _, _, h, _ => by simp [noB] at h
  | .dic, _, h, _ => by simp [noB] at h
  | .ty _, _, h, _ => by simp [noB] at h
  | .cls _, _, h, _ => by simp [noB] at h
  | .tup ds, e, h, h2 => by
    cases e with
    | tup es =>
      have := eqDs_iff ds es (by rw [noB] at h; exact h) (by rw [noB] at h2; exact h2)
      simp only [eqD, py, PyData.eqv, D.tup.injEq]
      exact this
    | _ => simp [eqD, py, PyData.eqv, noB] at h2 ⊢
  | .lst ds, e, h, h2 => by
    cases e with
    | lst es =>
      have := eqDs_iff ds es (by rw [noB] at h; exact h) (by rw [noB] at h2; exact h2)
      simp only [eqD, py, PyData.eqv, D.lst.injEq]
      exact this
    | _ => simp [eqD, py, PyData.eqv, noB] at h2 ⊢
theorem eqDs_iff : ∀ (ds es : List D), noBs ds = true → noBs es = true → (PyData.eqvAll (pys ds) (pys es) = true ↔ ds = es)
  | [], es, _, _ => by cases es <;> simp [pys, PyData.eqvAll]
  | d :: ds, [], _, _ => by simp [pys, PyData.eqvAll]
  | d :: ds, e :: es, h, h2 => by
    rw [noBs, Bool.and_eq_true] at h h2
    have a := eqD_iff d e h.1 h2.1
    have b := eqDs_iff ds es h.2 h2.2
    simp only [pys, PyData.eqvAll, Bool.and_eq_true, List.cons.injEq]
    unfold eqD at a
    rw [a, b]
end
/-! comprehensions -/
def wipeA (sl : List (Option AV)) : List Nat → List (Option AV)
  | [] => sl
  | v :: vs => (wipeA sl vs).set v none
def En.wipe (ρ : En) (vs : List Nat) : En := ⟨wipeA ρ.sl vs, ρ.ce⟩
theorem wipeA_len (sl : List (Option AV)) : ∀ vs, (wipeA sl vs).length = sl.length
  | [] => rfl
  | v :: vs => by rw [wipeA, List.length_set, wipeA_len sl vs]
theorem wipeA_get (sl : List (Option AV)) {i : Nat} {x : AV} : ∀ vs, (wipeA sl vs)[i]? = some (some x) → i ∉ vs ∧ sl[i]? = some (some x)
  | [], h => ⟨by simp, h⟩
  | v :: vs, h => by
    rw [wipeA] at h
    by_cases q : v = i
    · subst q
      rw [List.getElem?_set] at h
      simp at h
    · rw [List.getElem?_set_ne q] at h
      obtain ⟨a, b⟩ := wipeA_get sl vs h
      exact ⟨by simp only [List.mem_cons, not_or]; exact ⟨fun z => q z.symm, a⟩, b⟩
theorem wipe_get (σ : L2.St) {i : Nat} : ∀ {vs : List Nat}, i ∉ vs → (wipe σ vs)[i]? = σ[i]?
  | [], _ => rfl
  | v :: vs, h => by
    simp only [List.mem_cons, not_or] at h
    show ((wipe σ vs).set v none)[i]? = σ[i]?
    rw [List.getElem?_set_ne (fun z => h.1 z.symm), wipe_get σ h.2]
theorem EnvOk.wipe {as : List Addr} {σ σ2 : L2.St} {H G : Hp} {vs : List Nat} (e : EnvOk K F ρ as σ H G) (h : L2.wipe σ2 vs = L2.wipe σ vs) : EnvOk K F (ρ.wipe vs) as σ2 H G := by
  refine ⟨e.gh, e.fh, e.fg, e.g0, e.nd, e.pr, e.ln, e.ce, ?_, fun i x hi => ?_, e.rg⟩
  · show σ2.length = (wipeA ρ.sl vs).length
    rw [wipeA_len, ← e.sn, ← wipe_length σ2 vs, h, wipe_length]
  · obtain ⟨a, b⟩ := wipeA_get ρ.sl vs hi
    obtain ⟨v, hv, r⟩ := e.sl i x b
    exact ⟨v, by rw [← wipe_get σ2 a, h, wipe_get σ a]; exact hv, r⟩
/-- a target that writes to these slots alone -/
def Only (g : TG) (vs : List Nat) : Prop := ∀ x σ H (Q Q2 : L2.St → Hp → Prop), (∀ σ' H', Q σ' H' → L2.wipe σ' vs = L2.wipe σ vs → Q2 σ' H') → g x σ H Q → g x σ H Q2
def OnlyS (g : TGs) (vs : List Nat) : Prop := ∀ x σ H (Q Q2 : L2.St → Hp → Prop), (∀ σ' H', Q σ' H' → L2.wipe σ' vs = L2.wipe σ vs → Q2 σ' H') → g x σ H Q → g x σ H Q2
theorem wipe_set (σ : L2.St) {i : Nat} {x : Option V} : ∀ {vs : List Nat}, i ∈ vs → L2.wipe (σ.set i x) vs = L2.wipe σ vs
  | v :: vs, h => by
    show (L2.wipe (σ.set i x) vs).set v none = (L2.wipe σ vs).set v none
    by_cases q : i ∈ vs
    · rw [wipe_set σ q]
    · have e : i = v := by rcases List.mem_cons.mp h with z | z; exact z; exact absurd z q
      subst e
      refine List.ext_getElem? fun j => ?_
      by_cases z : i = j
      · subst z; rw [List.getElem?_set, List.getElem?_set]; simp [wipe_length]
      · rw [List.getElem?_set_ne z, List.getElem?_set_ne z]
        by_cases y : j ∈ vs
        · have zero : ∀ (τ : L2.St) (ws : List Nat), j ∈ ws → (L2.wipe τ ws)[j]? = if j < τ.length then some none else none := by
            intro τ ws
            induction ws with
            | nil => intro m; cases m
            | cons w ws ih =>
              intro m
              show ((L2.wipe τ ws).set w none)[j]? = _
              by_cases b : w = j
              · subst b; rw [List.getElem?_set]; simp [wipe_length]
              · rw [List.getElem?_set_ne b]
                exact ih (by rcases List.mem_cons.mp m with c | c; exact absurd c.symm b; exact c)
          rw [zero _ _ y, zero _ _ y, List.length_set]
        · rw [wipe_get _ y, wipe_get _ y, List.getElem?_set_ne z]
theorem only_name {i : Nat} {vs : List Nat} (h : i ∈ vs) : Only (gName i) vs := fun x σ H Q Q2 i q => i _ _ q (wipe_set σ h)
theorem onlys_nil {vs : List Nat} : OnlyS gNil vs := fun x σ H Q Q2 i ⟨e, q⟩ => ⟨e, i _ _ q rfl⟩
theorem onlys_cons {i : Nat} {gs : TGs} {vs : List Nat} (h : i ∈ vs) (h2 : OnlyS gs vs) : OnlyS (gCons (gName i) gs) vs := fun x σ H Q Q2 im ⟨v, r, e, q⟩ => by
  subst e
  exact ⟨v, r, rfl, h2 r (σ.set i (some v)) H Q Q2 (fun σ' H' a b => im σ' H' a (by rw [b, wipe_set σ h])) q⟩
theorem only_tup {n : Nat} {gs : TGs} {vs : List Nat} (h2 : OnlyS gs vs) : Only (gTup K n gs) vs := fun x σ H Q Q2 im ⟨a, xs, e, s, l, q⟩ => ⟨a, xs, e, s, l, h2 xs σ H Q Q2 im q⟩
/-- the turns of a comprehension: n the cell of what is made -/
def LoopC (K : PySem.W.Frag) (F : Fx) (gd : En → Prop) (g : TG) (tt : TT) (te : TE) (vs : List Nat) (n : Nat) (k : AV → En → Prop) : List D → En → Prop
  | [], ρ => gd ρ ∧ k (.cel n) ρ
  | d :: ds, ρ => gd ρ ∧ WpG K F g (.dat d) ρ fun ρ1 => WpT K F tt ρ1 fun b ρ2 => if b = true then WpE K F te ρ2 fun y ρ3 => ∃ e ρ4 acc, Frz [y] ρ3 [e] ρ4 ∧ ρ4.ce[n]? = some (.lst acc) ∧ acc.length < 16000000 ∧ ∃ ρ5, Tr (n + 1) ((ρ4.cell n (.lst (acc ++ [e]))).wipe vs) ρ5 ∧ LoopC K F gd g tt te vs n k ds ρ5
      else ∃ ρ5, Tr (n + 1) (ρ2.wipe vs) ρ5 ∧ LoopC K F gd g tt te vs n k ds ρ5
theorem LoopC.gd {gd : En → Prop} {g : TG} {vs : List Nat} {n : Nat} : ∀ {ds : List D} {ρ : En}, LoopC K F gd g tt te vs n k ds ρ → gd ρ
  | [], _, h => h.1
  | _ :: _, _, h => h.1
theorem wipe_wipe (σ : L2.St) (vs : List Nat) : L2.wipe (L2.wipe σ vs) vs = L2.wipe σ vs := by
  refine List.ext_getElem? fun j => ?_
  by_cases y : j ∈ vs
  · have zero : ∀ (τ : L2.St) (ws : List Nat), j ∈ ws → (L2.wipe τ ws)[j]? = if j < τ.length then some none else none := by
      intro τ ws
      induction ws with
      | nil => intro m; cases m
      | cons w ws ih =>
        intro m
        show ((L2.wipe τ ws).set w none)[j]? = _
        by_cases b : w = j
        · subst b; rw [List.getElem?_set]; simp [wipe_length]
        · rw [List.getElem?_set_ne b]
          exact ih (by rcases List.mem_cons.mp m with c | c; exact absurd c.symm b; exact c)
    rw [zero _ _ y, zero _ _ y, wipe_length]
  · rw [wipe_get _ y]
theorem Tr.run2 {n : Nat} {ρ' : En} {as as0 : List Addr} {σ σ2 : L2.St} {H G G0 : Hp} (t : Tr n ρ ρ') (e : EnvOk K F ρ as σ H G) (e2 : EnvOk K F ρ as σ2 H G) (g : Gr G0 as0 G as) (h : as0.length ≤ n) (h0 : F.as0.length ≤ n) : ∃ as', EnvOk K F ρ' as' σ H G ∧ EnvOk K F ρ' as' σ2 H G ∧ Gr G0 as0 G as' := by
  cases t with
  | all => exact ⟨as, e, e2, g⟩
  | cut => exact ⟨_, e.trunc n h0, e2.trunc n h0, g.trunc h⟩
  | keep j h1 h2 => exact ⟨_, e.keep h0 h1 h2, e2.keep h0 h1 h2, g.keep h⟩
  | drop j h1 h2 => exact ⟨_, e.drp h0 h1 h2, e2.drp h0 h1 h2, g.keep h⟩
theorem we_lc {wi : TI} {g : TG} {vs : List Nat} (ho : Only g vs) (h : WpI K F wi ρ fun ds gd ρ1 => LoopC K F gd g tt te vs ρ1.ce.length k ds ((ρ1.add []).wipe vs)) : WpE K F (tLc wi g tt te vs) ρ k := fun as σ H G e Q q =>
  h as σ H G e _ fun ds gd J ρ1 as1 H1 G1 h1 e1 g1 its => by
    intro p hp
    obtain ⟨e2, g2⟩ := e1.newC (ds := []) (vs := []) hp .nil
    have pn : as1.length = ρ1.ce.length := e1.ln
    have pn0 : F.as0.length ≤ ρ1.ce.length + 1 := by have := e1.pr.length_le; omega
    have pn2 : (as1 ++ [p]).length ≤ ρ1.ce.length + 1 := by rw [List.length_append, pn]; exact Nat.le_refl _
    refine ⟨fun i m H' => m = ds.length - i ∧ i ≤ ds.length ∧ ∃ ρ2 as2 G2, EnvOk K F ρ2 as2 σ H' G2 ∧ EnvOk K F ρ2 as2 (L2.wipe σ vs) H' G2 ∧ Gr G1 (as1 ++ [p]) G2 as2 ∧ LoopC K F gd g tt te vs ρ1.ce.length k (ds.drop i) ρ2, ⟨_, rfl, Nat.zero_le _, _, _, _, e2.wipe rfl, e2.wipe (wipe_wipe σ vs), .refl, h1⟩, ?_⟩
    rintro i m H' ⟨rfl, hi, ρ2, as2, G2, e3, e3w, g3, lp⟩
    have g13 : Gr G1 as1 G2 as2 := g2.trans g3
    obtain ⟨go, st, yl⟩ := its ρ2 as2 (L2.wipe σ vs) H' G2 e3w g13 lp.gd
    have hat : as2[ρ1.ce.length]? = some p := by
      obtain ⟨_, r, rfl⟩ := g3
      rw [List.append_assoc, List.getElem?_append_right (by omega), pn]
      simp
    by_cases hlt : i < ds.length
    · obtain ⟨d, hd⟩ : ∃ d, ds[i]? = some d := ⟨_, List.getElem?_eq_getElem hlt⟩
      have ed : ds.drop i = d :: ds.drop (i + 1) := by
        rw [List.drop_eq_getElem_cons hlt]
        rw [List.getElem?_eq_getElem hlt] at hd
        cases hd
        rfl
      rw [ed] at lp
      refine .inr ⟨go i hlt, fun H3 => ∃ ρ3 as3 G3, EnvOk K F ρ3 as3 σ H3 G3 ∧ EnvOk K F ρ3 as3 (L2.wipe σ vs) H3 G3 ∧ Gr G1 (as1 ++ [p]) G3 as3 ∧ LoopC K F gd g tt te vs ρ1.ce.length k (ds.drop (i + 1)) ρ3, fun H3 ⟨ρ3, as3, G3, e3, e3w, g3, l3⟩ => ⟨_, by omega, rfl, hlt, ρ3, as3, G3, e3, e3w, g3, l3⟩, fun x H3 y => ?_⟩
      obtain ⟨d', G3, hd', e4, g4, rx⟩ := yl i x H3 hlt y
      rw [hd] at hd'
      cases hd'
      have main := lp.2 as2 (L2.wipe σ vs) H3 G3 x (e4 _ e3w) rx
        (fun σ2 H2 => (∃ ρ4 as4 G4, (WpT K F tt ρ4 fun b ρ2 => if b = true then WpE K F te ρ2 fun y ρ3 => ∃ e ρ4 acc, Frz [y] ρ3 [e] ρ4 ∧ ρ4.ce[ρ1.ce.length]? = some (.lst acc) ∧ acc.length < 16000000 ∧ ∃ ρ5, Tr (ρ1.ce.length + 1) ((ρ4.cell ρ1.ce.length (.lst (acc ++ [e]))).wipe vs) ρ5 ∧ LoopC K F gd g tt te vs ρ1.ce.length k (ds.drop (i + 1)) ρ5
      else ∃ ρ5, Tr (ρ1.ce.length + 1) (ρ2.wipe vs) ρ5 ∧ LoopC K F gd g tt te vs ρ1.ce.length k (ds.drop (i + 1)) ρ5) ∧ EnvOk K F ρ4 as4 σ2 H2 G4 ∧ Gr G3 as2 G4 as4)) (fun ρ4 as4 σ4 H4 G4 h4 e5 g5 => ⟨ρ4, as4, G4, h4, e5, g5⟩)
      refine ho x _ _ _ _ ?_ main
      rintro σ2 H4 ⟨ρ4, as4, G4, h4, e5, g5⟩ ew
      rw [wipe_wipe] at ew
      refine ⟨ew, h4 as4 σ2 H4 G4 e5 _ fun b ρ5 as5 H5 G5 h5 e6 g6 => ?_⟩
      have gg : Gr G1 (as1 ++ [p]) G5 as5 := g3.trans (g4.trans (g5.trans g6))
      cases b with
      | false =>
        obtain ⟨ρ7, tr, lp2⟩ := (show ∃ ρ5', Tr (ρ1.ce.length + 1) (ρ5.wipe vs) ρ5' ∧ _ from h5)
        obtain ⟨as7, x1, x2, x3⟩ := tr.run2 (e6.wipe ew.symm) (show EnvOk K F _ _ (L2.wipe σ vs) _ _ from e6.wipe (by rw [wipe_wipe, ew])) gg pn2 pn0
        exact ⟨ρ7, as7, G5, x1, x2, x3, lp2⟩
      | true =>
        refine (show WpE K F te ρ5 _ from h5) as5 σ2 H5 G5 e6 _ ?_
        rintro y ρ6 v as6 H6 G6 ⟨e', ρ7, acc, fz, hc, hl, ρ8, tr, lp2⟩ e7 g7 r7
        obtain ⟨G7, e8, g8, r8⟩ := fz.run e7 (.cons r7 .nil)
        have hat6 : as6[ρ1.ce.length]? = some p := by
          obtain ⟨_, r, rfl⟩ := g4.trans (g5.trans (g6.trans g7))
          rw [List.getElem?_append_left (List.getElem?_eq_some_iff.mp hat).1]
          exact hat
        obtain ⟨_, _, gn, ws, hw, hr⟩ := e8.ce _ _ p hc hat6
        cases r8 with
        | cons ra rb =>
          cases rb
          have e9 := e8.setC (c' := .lst (acc ++ [e'])) hc hat6 gn ⟨gn, _, upd_same, hr.append (.cons ra .nil)⟩
          obtain ⟨as7, x1, x2, x3⟩ := tr.run2 (e9.wipe ew.symm) (show EnvOk K F _ _ (L2.wipe σ vs) _ _ from e9.wipe (by rw [wipe_wipe, ew])) (gg.trans (g7.trans g8)) pn2 pn0
          exact ⟨ws, hw, szbl (by rw [hr.length]; omega), ρ8, as7, G7, x1, x2, x3, lp2⟩
    · have ei : i = ds.length := by omega
      subst ei
      rw [List.drop_length] at lp
      exact .inl ⟨st, q _ _ _ _ _ _ lp.2 e3 (g1.trans g13) ⟨p, hat, rfl⟩⟩
/-! errors -/
theorem ws_exc (h : ∀ as σ H G D, EnvOk K F ρ as σ H G → t D σ H) : WpS K F t ρ ks := fun as σ H G e D _ => h as σ H G D e
end
theorem frz_in {xs ds : List _} {ρ ρ2 : En} {P : List D → En → Prop} (h0 : Frz xs ρ ds ρ2) (h1 : Nat.ble ds.length 1000 = true) (h2 : P ds ρ2) : ∃ ds ρ2, Frz xs ρ ds ρ2 ∧ Nat.ble ds.length 1000 = true ∧ P ds ρ2 := ⟨ds, ρ2, h0, h1, h2⟩
theorem il_in {x : AV} {ds : List D} {ρ : En} {P : List D → Prop} (h0 : IsL ρ x ds) (h2 : P ds) : ∃ ds, IsL ρ x ds ∧ P ds := ⟨ds, h0, h2⟩
theorem lc_in {y : AV} {e : D} {ρ ρ4 : En} {n : Nat} {acc : List D} {P : D → En → List D → Prop} (h0 : Frz [y] ρ [e] ρ4) (h1 : ρ4.ce[n]? = some (.lst acc)) (h2 : acc.length < 16000000) (h3 : P e ρ4 acc) : ∃ e ρ4 acc, Frz [y] ρ [e] ρ4 ∧ ρ4.ce[n]? = some (.lst acc) ∧ acc.length < 16000000 ∧ P e ρ4 acc := ⟨e, ρ4, acc, h0, h1, h2, h3⟩
theorem wgs_nilM {K : PySem.W.Frag} {F : Fx} {ρ : En} {kn : En → Prop} (h : kn ρ) : WpGs K F gNil (List.map AV.dat []) ρ kn := wgs_nil h
theorem wgs_consM {K : PySem.W.Frag} {F : Fx} {ρ : En} {g : TG} {gs : TGs} {d : D} {ds : List D} {kn : En → Prop} (h : WpG K F g (.dat d) ρ fun ρ1 => WpGs K F gs (ds.map .dat) ρ1 kn) : WpGs K F (gCons g gs) ((d :: ds).map .dat) ρ kn := wgs_cons h
section
variable {K : PySem.W.Frag} {F : Fx} {ρ : En} {k : AV → En → Prop} {ks ks' : KS} {t : TS} {te : TE} {tt : TT}
theorem WpS.imp (h : WpS K F t ρ ks) (h1 : ∀ ρ, ks.nx ρ → ks'.nx ρ) (h2 : ∀ x ρ, ks.rt x ρ → ks'.rt x ρ) (h3 : ∀ ρ, ks.bk ρ → ks'.bk ρ) (h4 : ∀ ρ, ks.ct ρ → ks'.ct ρ) : WpS K F t ρ ks' := fun as σ H G e D q =>
  h as σ H G e D ⟨fun ρ as' σ H G' a b c => q.nx ρ as' σ H G' (h1 _ a) b c, fun av ρ v as' σ H G' a b c d => q.rt av ρ v as' σ H G' (h2 _ _ a) b c d, fun ρ as' σ H G' a b c => q.bk ρ as' σ H G' (h3 _ a) b c, fun ρ as' σ H G' a b c => q.ct ρ as' σ H G' (h4 _ a) b c, q.fr⟩
theorem WpG.imp {g : TG} {x : AV} {kn kn' : En → Prop} (h : WpG K F g x ρ kn) (i : ∀ ρ, kn ρ → kn' ρ) : WpG K F g x ρ kn' := fun as σ H G v e r Q q => h as σ H G v e r Q fun ρ' as' σ' H' G' a b c => q ρ' as' σ' H' G' (i _ a) b c
theorem WpT.imp {kb kb' : Bool → En → Prop} (h : WpT K F tt ρ kb) (i : ∀ b ρ, kb b ρ → kb' b ρ) : WpT K F tt ρ kb' := fun as σ H G e Q q => h as σ H G e Q fun b ρ' as' H' G' a c d => q b ρ' as' H' G' (i _ _ a) c d
/-- what holds at a turn's end -/
inductive Now (p : Prop) : Prop
  | one (h : p)
  | two (h : p)
theorem now {p : Prop} (h : p) : Now p := .one h
theorem Now.out {p : Prop} (h : Now p) : p := by cases h <;> assumption
theorem loop_by {n : Nat} {gd : En → Prop} {g : TG} {tb : TS} {ds : List D} (I : List D → En → Prop) (h0 : I ds ρ) (hn : ∀ ρ, I [] ρ → gd ρ ∧ ks.nx ρ)
    (hs : ∀ d ds ρ, I (d :: ds) ρ → gd ρ ∧ WpG K F g (.dat d) ρ fun ρ1 => WpS K F tb ρ1 { nx := fun ρ2 => Now (I ds ρ2), rt := ks.rt, ct := fun ρ2 => Now (I ds ρ2), bk := ks.nx }) : Loop K F n gd g tb ks ds ρ := by
  induction ds generalizing ρ with
  | nil => exact hn ρ h0
  | cons d ds ih =>
    obtain ⟨a, b⟩ := hs d ds ρ h0
    exact ⟨a, b.imp fun ρ1 h1 => h1.imp (fun ρ2 h2 => ⟨ρ2, .all, ih h2.out⟩) (fun _ _ z => z) (fun _ z => z) (fun ρ2 h2 => ⟨ρ2, .all, ih h2.out⟩)⟩
/-- .. each turn's own cells forgotten -/
theorem loop_cut {n : Nat} {gd : En → Prop} {g : TG} {tb : TS} {ds : List D} (I : List D → En → Prop) (h0 : I ds ρ) (hn : ∀ ρ, I [] ρ → gd ρ ∧ ks.nx ρ)
    (hs : ∀ d ds ρ, I (d :: ds) ρ → gd ρ ∧ WpG K F g (.dat d) ρ fun ρ1 => WpS K F tb ρ1 { nx := fun ρ2 => Now (I ds (ρ2.trunc n)), rt := ks.rt, ct := fun ρ2 => Now (I ds (ρ2.trunc n)), bk := ks.nx }) : Loop K F n gd g tb ks ds ρ := by
  induction ds generalizing ρ with
  | nil => exact hn ρ h0
  | cons d ds ih =>
    obtain ⟨a, b⟩ := hs d ds ρ h0
    exact ⟨a, b.imp fun ρ1 h1 => h1.imp (fun ρ2 h2 => ⟨_, .cut, ih h2.out⟩) (fun _ _ z => z) (fun _ z => z) (fun ρ2 h2 => ⟨_, .cut, ih h2.out⟩)⟩
/-- .. each turn's end as one likes -/
theorem loop_any {n : Nat} {gd : En → Prop} {g : TG} {tb : TS} {ds : List D} (I : List D → En → Prop) (h0 : I ds ρ) (hn : ∀ ρ, I [] ρ → gd ρ ∧ ks.nx ρ)
    (hs : ∀ d ds ρ, I (d :: ds) ρ → gd ρ ∧ WpG K F g (.dat d) ρ fun ρ1 => WpS K F tb ρ1 { nx := fun ρ2 => Now (∃ ρ3, Tr n ρ2 ρ3 ∧ I ds ρ3), rt := ks.rt, ct := fun ρ2 => Now (∃ ρ3, Tr n ρ2 ρ3 ∧ I ds ρ3), bk := ks.nx }) : Loop K F n gd g tb ks ds ρ := by
  induction ds generalizing ρ with
  | nil => exact hn ρ h0
  | cons d ds ih =>
    obtain ⟨a, b⟩ := hs d ds ρ h0
    exact ⟨a, b.imp fun ρ1 h1 => h1.imp (fun ρ2 h2 => let ⟨ρ3, t, i⟩ := h2.out; ⟨ρ3, t, ih i⟩) (fun _ _ z => z) (fun _ z => z) (fun ρ2 h2 => let ⟨ρ3, t, i⟩ := h2.out; ⟨ρ3, t, ih i⟩)⟩
theorem loopC_by {gd : En → Prop} {g : TG} {vs : List Nat} {n : Nat} {ds : List D} (I : List D → En → Prop) (h0 : I ds ρ) (hn : ∀ ρ, I [] ρ → gd ρ ∧ k (.cel n) ρ)
    (hs : ∀ d ds ρ, I (d :: ds) ρ → gd ρ ∧ WpG K F g (.dat d) ρ fun ρ1 => WpT K F tt ρ1 fun b ρ2 => if b = true then WpE K F te ρ2 fun y ρ3 => ∃ e ρ4 acc, Frz [y] ρ3 [e] ρ4 ∧ ρ4.ce[n]? = some (.lst acc) ∧ acc.length < 16000000 ∧ Now (I ds (((ρ4.cell n (.lst (acc ++ [e]))).wipe vs).trunc (n + 1)))
      else Now (I ds ((ρ2.wipe vs).trunc (n + 1)))) : LoopC K F gd g tt te vs n k ds ρ := by
  induction ds generalizing ρ with
  | nil => exact hn ρ h0
  | cons d ds ih =>
    obtain ⟨a, b⟩ := hs d ds ρ h0
    refine ⟨a, b.imp fun ρ1 h1 => h1.imp fun b ρ2 h2 => ?_⟩
    cases b with
    | true => exact WpE.imp h2 fun y ρ3 ⟨e, ρ4, acc, x1, x2, x3, x4⟩ => ⟨e, ρ4, acc, x1, x2, x3, _, .cut, ih x4.out⟩
    | false => exact ⟨_, .cut, ih (show Now _ from h2).out⟩
end
section
variable {K : PySem.W.Frag} {F : Fx} {ρ : En} {k : AV → En → Prop}
/-- an item at a drawn place -/
theorem wr_ixA {x : AV} {ds : List D} {i : Int} (hx : IsL ρ x ds) (h0 : 0 ≤ i) (h1 : i < ds.length) (hk : ∀ d ∈ ds, k (.dat d) ρ) : WpR K F (rIxL K) x (.dat (.int i)) ρ k := by
  have hl : i.toNat < ds.length := by omega
  have e : ((i.toNat : Nat) : Int) = i := by omega
  have ha := atI_nat (xs := ds) (j := i.toNat) (v := ds[i.toNat]) (List.getElem?_eq_getElem hl)
  rw [e] at ha
  exact wr_ixL hx ha (hk _ (List.getElem_mem hl))
/-- a list of one number is a state to draw from -/
theorem EnvOk.drw {as : List Addr} {σ : L2.St} {H G : Hp} {j : Nat} {n : Int} (e : EnvOk K F ρ as σ H G) (hj : ρ.ce[j]? = some (.lst [.int n])) : EnvOk K F (ρ.cell j .drw) as σ H G := by
  have hl : j < ρ.ce.length := (List.getElem?_eq_some_iff.mp hj).1
  refine ⟨e.gh, e.fh, e.fg, e.g0, e.nd, e.pr, by rw [e.ln]; exact (List.length_set).symm, fun i c a hc ha => ?_, e.sn, e.sl, by
    obtain ⟨Ts, r⟩ := e.rg
    exact r.setC (List.getElem?_eq_getElem (by rw [e.ln]; exact hl)) (fun _ _ z => nomatch z) (fun _ _ _ h => h) (fun _ _ _ _ g => g) (Same.refl _)⟩
  have hc' : (ρ.ce.set j .drw)[i]? = some c := hc
  by_cases hij : j = i
  · subst hij
    rw [List.getElem?_set_self hl] at hc'
    cases hc'
    obtain ⟨fa, ho, g, ws, hw, hr⟩ := e.ce j _ a hj ha
    refine ⟨fa, ho, g, ws, hw, ?_⟩
    cases hr with
    | cons x y => cases y; cases x; exact .inl ⟨_, rfl⟩
  · rw [List.getElem?_set_ne hij] at hc'
    exact e.ce i c a hc' ha
theorem wsp_drw {sp : Sp} {E : L2.St → XK} {xs : List AV} {j : Nat} {n : Int} (hj : ρ.ce[j]? = some (.lst [.int n])) (h : WpSp K F sp E xs (ρ.cell j .drw) k) : WpSp K F sp E xs ρ k := fun as σ H G vs e r Q q =>
  h as σ H G vs (e.drw hj) r Q (q.imp .refl fun _ _ z => z)
theorem ws_drw {t : TS} {ks : KS} {j : Nat} {n : Int} (hj : ρ.ce[j]? = some (.lst [.int n])) (h : WpS K F t (ρ.cell j .drw) ks) : WpS K F t ρ ks := fun as σ H G e D q => h as σ H G (e.drw hj) D q
end
theorem rngD_len {lo : Int} {n : Nat} : (rngD lo n).length = n := by unfold rngD; rw [List.length_map, List.length_range]
theorem rngD_drop {lo : Int} {n i : Nat} (h : i < n) : (rngD lo n).drop i = .int (lo + i) :: (rngD lo n).drop (i + 1) := by
  have hl : i < (rngD lo n).length := by rw [rngD_len]; exact h
  rw [List.drop_eq_getElem_cons hl]
  congr 1
  have : (rngD lo n)[i]? = some (.int (lo + i)) := by unfold rngD; rw [List.getElem?_map, List.getElem?_range h]; rfl
  rw [List.getElem?_eq_getElem hl] at this
  exact Option.some.inj this
section
variable {K : PySem.W.Frag} {F : Fx} {ρ : En} {k : AV → En → Prop} {ks : KS} {te : TE} {tt : TT}
theorem loop_rng {m : Nat} {gd : En → Prop} {g : TG} {tb : TS} {lo : Int} {n : Nat} (I : Nat → En → Prop) (h0 : I 0 ρ) (hn : ∀ ρ, I n ρ → gd ρ ∧ ks.nx ρ)
    (hs : ∀ i ρ, i < n → I i ρ → gd ρ ∧ WpG K F g (.dat (.int (lo + i))) ρ fun ρ1 => WpS K F tb ρ1 { nx := fun ρ2 => Now (I (i + 1) (ρ2.trunc m)), rt := ks.rt, ct := fun ρ2 => Now (I (i + 1) (ρ2.trunc m)), bk := ks.nx }) : Loop K F m gd g tb ks (rngD lo n) ρ := by
  refine loop_cut (fun ds ρ => ∃ i, i ≤ n ∧ ds = (rngD lo n).drop i ∧ I i ρ) ⟨0, Nat.zero_le _, rfl, h0⟩ ?_ ?_
  · rintro ρ ⟨i, hi, hd, h⟩
    have : i = n := by
      rcases Nat.lt_or_ge i n with z | z
      · rw [rngD_drop z] at hd; cases hd
      · omega
    subst this
    exact hn ρ h
  · rintro d ds ρ ⟨i, hi, hd, h⟩
    rcases Nat.lt_or_ge i n with z | z
    · rw [rngD_drop z] at hd
      cases hd
      obtain ⟨a, b⟩ := hs i ρ z h
      exact ⟨a, b.imp fun ρ1 h1 => h1.imp (fun ρ2 h2 => now ⟨i + 1, z, rfl, h2.out⟩) (fun _ _ z => z) (fun _ z => z) (fun ρ2 h2 => now ⟨i + 1, z, rfl, h2.out⟩)⟩
    · rw [List.drop_of_length_le (by rw [rngD_len]; exact z)] at hd; cases hd
theorem loopC_rng {gd : En → Prop} {g : TG} {vs : List Nat} {m : Nat} {lo : Int} {n : Nat} (I : Nat → En → Prop) (h0 : I 0 ρ) (hn : ∀ ρ, I n ρ → gd ρ ∧ k (.cel m) ρ)
    (hs : ∀ i ρ, i < n → I i ρ → gd ρ ∧ WpG K F g (.dat (.int (lo + i))) ρ fun ρ1 => WpT K F tt ρ1 fun b ρ2 => if b = true then WpE K F te ρ2 fun y ρ3 => ∃ e ρ4 acc, Frz [y] ρ3 [e] ρ4 ∧ ρ4.ce[m]? = some (.lst acc) ∧ acc.length < 16000000 ∧ Now (I (i + 1) (((ρ4.cell m (.lst (acc ++ [e]))).wipe vs).trunc (m + 1)))
      else Now (I (i + 1) ((ρ2.wipe vs).trunc (m + 1)))) : LoopC K F gd g tt te vs m k (rngD lo n) ρ := by
  refine loopC_by (fun ds ρ => ∃ i, i ≤ n ∧ ds = (rngD lo n).drop i ∧ I i ρ) ⟨0, Nat.zero_le _, rfl, h0⟩ ?_ ?_
  · rintro ρ ⟨i, hi, hd, h⟩
    have : i = n := by
      rcases Nat.lt_or_ge i n with z | z
      · rw [rngD_drop z] at hd; cases hd
      · omega
    subst this
    exact hn ρ h
  · rintro d ds ρ ⟨i, hi, hd, h⟩
    rcases Nat.lt_or_ge i n with z | z
    · rw [rngD_drop z] at hd
      cases hd
      obtain ⟨a, b⟩ := hs i ρ z h
      refine ⟨a, b.imp fun ρ1 h1 => h1.imp fun b ρ2 h2 => ?_⟩
      cases b with
      | true => exact WpE.imp h2 fun y ρ3 ⟨e, ρ4, acc, x1, x2, x3, x4⟩ => ⟨e, ρ4, acc, x1, x2, x3, now ⟨i + 1, z, rfl, x4.out⟩⟩
      | false => exact now ⟨i + 1, z, rfl, (show Now _ from h2).out⟩
    · rw [List.drop_of_length_le (by rw [rngD_len]; exact z)] at hd; cases hd
end
/-! ### rules of the data layer: truth of lists, items stored, pop -/
def tTru (K : PySem.W.Frag) (ta : TE) : TT := fun σ H Q => ta σ H fun x H' => ∃ k, TruV K x H' k ∧ Q k H'
theorem pt_tru {X : Cx} {K : PySem.W.Frag} {a : Expr} {ta : TE} (hK : X.K = K) (h : PE X a ta) (he : ∀ whole, isTrue a X.env whole = (do let v ← whole; standAt a.pos; holding [v] (truthy v))) : PT X a (tTru K ta) := by
  subst hK
  exact pt_truth h he
section
variable {K : PySem.W.Frag} {F : Fx} {ρ : En} {k : AV → En → Prop} {kb : Bool → En → Prop} {ta to ti : TE}
theorem isEmpty_reps {G : Hp} {ds : List D} {vs : List V} (h : Reps K G ds vs) : vs.isEmpty = ds.isEmpty := by
  cases ds with
  | nil => cases h; rfl
  | cons => cases h; rfl
theorem wt_tru (h : WpE K F ta ρ fun x ρ1 => ∃ ds, IsL ρ1 x ds ∧ kb (!ds.isEmpty) ρ1) : WpT K F (tTru K ta) ρ kb := fun as σ H G e Q q =>
  h as σ H G e _ fun x ρ1 vx as1 H1 G1 ⟨ds, hx, h1⟩ e1 g1 r1 => by
    obtain ⟨a, vs, rfl, hs, hr⟩ := hx.rep e1 r1
    refine ⟨!ds.isEmpty, .inl ⟨vs, hs, by rw [isEmpty_reps hr]⟩, q _ _ _ _ _ h1 e1 g1⟩
theorem wg_sub {x : AV} {kn : En → Prop} (h : WpE K F to ρ fun o ρ1 => WpE K F ti ρ1 fun i ρ2 => ∃ (j m : Nat) (n : Int) (d : D) (ρ3 : En) (ds : List D), o = .cel j ∧ i = .dat (.int n) ∧ Frz [x] ρ2 [d] ρ3 ∧ ρ3.ce[j]? = some (.lst ds) ∧ ixN ds.length n = some m ∧ kn (ρ3.cell j (.lst (ds.set m d)))) : WpG K F (gSub to ti rSetL) x ρ kn := fun as σ H G v e r Q q =>
  h as σ H G e _ fun o ρ1 vo as1 H1 G1 h1 e1 g1 r1 => h1 as1 σ H1 G1 e1 _ fun i ρ2 vi as2 H2 G2 ⟨j, m, n, d, ρ3, ds, eo, ei, fz, hc, hi, hk⟩ e2 g2 r2 => by
    subst eo ei
    obtain ⟨G3, e3, g3, r3⟩ := fz.run e2 (.cons (r.mono (g1.trans g2)) .nil)
    obtain ⟨a, ha, rfl⟩ := r1.mono g2
    cases r3 with
    | cons y z =>
      cases z
      obtain ⟨_, _, g, ws, hw, hr⟩ := e3.ce j _ a hc ha
      refine ⟨a, ws, n, m, rfl, Rep.intE r2, hw, by rw [hr.length]; exact hi, q _ as2 σ _ G3 hk (e3.setC hc ha g ⟨g, _, upd_same, hr.set y m⟩) (g1.trans (g2.trans g3))⟩
theorem wm_pop {j : Nat} {ds : List D} {d : D} (hc : ρ.ce[j]? = some (.lst ds)) (hd : ds.getLast? = some d) (hk : k (.dat d) (ρ.cell j (.lst ds.dropLast))) : WpM K F rPop (.cel j) [] ρ k := fun as σ H G v vs e r1 r2 Q q => by
  obtain ⟨a, ha, rfl⟩ := r1
  cases r2
  obtain ⟨_, _, g, ws, hw, hr⟩ := e.ce j _ a hc ha
  rw [List.getLast?_eq_getElem?] at hd
  obtain ⟨v, hv, rv⟩ := hr.get hd
  have hdl : Reps K G ds.dropLast ws.dropLast := by
    rw [List.dropLast_eq_take, List.dropLast_eq_take, hr.length]
    exact hr.take _
  exact ⟨a, ws, v, rfl, rfl, hw, by rw [hr.length]; exact hv, q _ _ _ as _ G hk (e.setC hc ha g ⟨g, _, upd_same, hdl⟩) .refl rv⟩
theorem sub_in {o i : AV} {x : AV} {j m : Nat} {n : Int} {d : D} {ρ2 ρ3 : En} {ds : List D} {kn : En → Prop} (h1 : o = .cel j) (h2 : i = .dat (.int n)) (h0 : Frz [x] ρ2 [d] ρ3) (h3 : ρ3.ce[j]? = some (.lst ds)) (h4 : ixN ds.length n = some m) (hk : kn (ρ3.cell j (.lst (ds.set m d)))) :
    ∃ (j m : Nat) (n : Int) (d : D) (ρ3 : En) (ds : List D), o = .cel j ∧ i = .dat (.int n) ∧ Frz [x] ρ2 [d] ρ3 ∧ ρ3.ce[j]? = some (.lst ds) ∧ ixN ds.length n = some m ∧ kn (ρ3.cell j (.lst (ds.set m d))) := ⟨j, m, n, d, ρ3, ds, h1, h2, h0, h3, h4, hk⟩
end
theorem mapC {α β : Type} (f : α → β) (a : α) (l : List α) : List.map f (a :: l) = f a :: List.map f l := rfl
theorem mapN {α β : Type} (f : α → β) : List.map f [] = [] := rfl
theorem frzA_d (j : Nat) (d e : D) : frzA j d (.dat e) = .dat e := rfl
theorem frzA_c (j i : Nat) (d : D) : frzA j d (.cel i) = if i = j then .dat d else .cel i := rfl
/-! ### try by data -/
section
variable {K : PySem.W.Frag} {F : Fx} {ρ : En} {k : AV → En → Prop} {ks : KS}
def En.clr (ρ : En) (i : Nat) : En := ⟨ρ.sl.set i none, ρ.ce⟩
theorem EnvOk.clr {as : List Addr} {σ : L2.St} {H G : Hp} (e : EnvOk K F ρ as σ H G) (i : Nat) : EnvOk K F (ρ.clr i) as (σ.set i none) H G :=
  ⟨e.gh, e.fh, e.fg, e.g0, e.nd, e.pr, e.ln, e.ce, by rw [List.length_set, e.sn]; exact (List.length_set).symm, fun j av hj => by
    have hj' : (ρ.sl.set i none)[j]? = some (some av) := hj
    by_cases hij : i = j
    · subst hij
      rw [List.getElem?_set] at hj'
      simp at hj'
    · rw [List.getElem?_set_ne hij] at hj'
      obtain ⟨v, hv, r⟩ := e.sl j av hj'
      exact ⟨v, by rw [List.getElem?_set_ne hij]; exact hv, r⟩, e.rg⟩
def KS.off (ks : KS) (i : Nat) : KS := { nx := fun ρ => ks.nx (ρ.clr i), rt := ks.rt, bk := fun ρ => ks.bk (ρ.clr i), ct := fun ρ => ks.ct (ρ.clr i) }
theorem EndsOk.off {as : List Addr} {G : Hp} {D : Ends} (q : EndsOk K F as G ks D) (i : Nat) : EndsOk K F as G (ks.off i) (offAt i D) :=
  ⟨fun ρ as' σ H G' a b c => q.nx _ as' _ H G' a (b.clr i) c, q.rt, fun ρ as' σ H G' a b c => q.bk _ as' _ H G' a (b.clr i) c, fun ρ as' σ H G' a b c => q.ct _ as' _ H G' a (b.clr i) c, q.fr⟩
/-- what an error of the class C meets at the clauses -/
def Mix (K : PySem.W.Frag) (F : Fx) (C : Addr) (out : Prop) : List (Value × Option Nat × Suite) → En → KS → Prop
  | [], _, _ => out
  | (c, none, t) :: r, ρ, ks => ∃ y, PySem.W.exmOne K (.ref C) c = some y ∧ if y = true then ∀ e, WpS K F (t e (.ref C) none) ρ ks else Mix K F C out r ρ ks
  | (c, some i, t) :: r, ρ, ks => ∃ y, PySem.W.exmOne K (.ref C) c = some y ∧ if y = true then ∀ e, WpS K F (t e (.ref C) none) (ρ.put i (.dat (.cls e))) (ks.off i) else Mix K F C out r ρ ks
theorem Mix.run {C : Addr} {out : Prop} {Wo : WX} {as as0 : List Addr} {σ : L2.St} {H G G0 : Hp} {D : Ends} (e : EnvOk K F ρ as σ H G) (hWo : out → Wo (.ref C) none σ H) (q : EndsOk K F as G ks D) : ∀ {l : List (Value × Option Nat × Suite)}, Mix K F C out l ρ ks → wMix K Wo D l (.ref C) none σ H
  | [], h => hWo h
  | (c, none, t) :: r, ⟨y, hy, h⟩ => by
    refine ⟨y, hy, fun z x _ => ?_, fun z => ?_⟩
    · subst z
      exact (show ∀ x, WpS K F (t x (.ref C) none) ρ ks from h) x as σ H G e D q
    · subst z
      exact Mix.run (as0 := as0) (G0 := G0) e hWo q (show Mix K F C out r ρ ks from h)
  | (c, some i, t) :: r, ⟨y, hy, h⟩ => by
    refine ⟨y, hy, fun z x _ => ?_, fun z => ?_⟩
    · subst z
      exact (show ∀ x, WpS K F (t x (.ref C) none) (ρ.put i (.dat (.cls x))) (ks.off i) from h) x as _ H G (e.put (x := .dat (.cls x)) (Rep.cls x)) _ (q.off i)
    · subst z
      exact Mix.run (as0 := as0) (G0 := G0) e hWo q (show Mix K F C out r ρ ks from h)
/-- xk: which errors come, and at which environment -/
theorem ws_try {tb : WX → TS} {Wo : WX} {l : List (Value × Option Nat × Suite)} (xk : Addr → En → Prop) (out : Addr → Prop)
    (hWo : ∀ C ρ' as σ H G, out C → EnvOk K F ρ' as σ H G → Wo (.ref C) none σ H)
    (hb : ∀ (F1 : Fx) (W : WX), F1.fr = F.fr → (∀ C ρ' as σ H G, xk C ρ' → EnvOk K F1 ρ' as σ H G → W (.ref C) none σ H) → WpS K F1 (tb W) ρ ks)
    (hs : ∀ C ρ', xk C ρ' → Mix K F C (out C) l ρ' ks) : WpS K F (fun D u G => tb (wMix K Wo D l) D u G) ρ ks := fun as σ H G e D q => by
  have e1 : EnvOk K ⟨F.Fr, G, F.E, F.ex, F.hE, F.fr, as⟩ ρ as σ H G := ⟨e.gh, e.fh, fun a o h => .inl h, Same.refl _, e.nd, List.prefix_refl _, e.ln, e.ce, e.sn, e.sl, e.rg⟩
  have back : ∀ {ρ' : En} {as' : List Addr} {σ' : L2.St} {H' G' : Hp}, EnvOk K ⟨F.Fr, G, F.E, F.ex, F.hE, F.fr, as⟩ ρ' as' σ' H' G' → EnvOk K F ρ' as' σ' H' G' ∧ Gr G as G' as' := fun {ρ' as' σ' H' G'} x => by
    refine ⟨⟨x.gh, x.fh, fun a o h => ?_, Same.trans e.g0 x.g0, x.nd, e.pr.trans x.pr, x.ln, x.ce, x.sn, x.sl, x.rg⟩, ⟨x.g0, ?_⟩⟩
    · rcases x.fg a o h with z | z
      · exact e.fg a o z
      · exact .inr z
    · obtain ⟨r, hr⟩ := x.pr
      exact ⟨r, hr.symm⟩
  refine hb ⟨F.Fr, G, F.E, F.ex, F.hE, F.fr, as⟩ (wMix K Wo D l) rfl (fun C ρ' as' σ' H' G' hx ex => ?_) as σ H G e1 D ⟨fun ρ' as' σ' H' G' a b _ => ?_, fun av ρ' v as' σ' H' G' a b _ r => ?_, fun ρ' as' σ' H' G' a b _ => ?_, fun ρ' as' σ' H' G' a b _ => ?_, q.fr⟩
  · obtain ⟨b1, g1⟩ := back ex
    exact Mix.run (as0 := as) (G0 := G) b1 (fun z => hWo C ρ' as' σ' H' G' z b1) (EndsOk.grow K F q g1) (hs C ρ' hx)
  · obtain ⟨b1, g1⟩ := back b
    exact q.nx ρ' as' σ' H' G' a b1 g1
  · obtain ⟨b1, g1⟩ := back b
    exact q.rt av ρ' v as' σ' H' G' a b1 g1 r
  · obtain ⟨b1, g1⟩ := back b
    exact q.bk ρ' as' σ' H' G' a b1 g1
  · obtain ⟨b1, g1⟩ := back b
    exact q.ct ρ' as' σ' H' G' a b1 g1
/-- nothing is let out -/
theorem ws_try0 {tb : WX → TS} {l : List (Value × Option Nat × Suite)} (xk : Addr → En → Prop)
    (hb : ∀ (F1 : Fx) (W : WX), F1.fr = F.fr → (∀ C ρ' as σ H G, xk C ρ' → EnvOk K F1 ρ' as σ H G → W (.ref C) none σ H) → WpS K F1 (tb W) ρ ks)
    (hs : ∀ C ρ', xk C ρ' → Mix K F C False l ρ' ks) : WpS K F (fun D u G => tb (wMix K (fun _ _ _ _ => False) D l) D u G) ρ ks := ws_try xk (fun _ => False) (fun _ _ _ _ _ _ z _ => z) hb hs
/-- a call in a try: its errors meet the clauses -/
theorem wspT {W : PW0} {Wx : WX} {xk : Addr → En → Prop} {xs : List AV} {ds : List D} (hW : ∀ C ρ' as σ H G, xk C ρ' → EnvOk K F ρ' as σ H G → Wx (.ref C) none σ H) (ha : AsD ρ xs ds) (hw : W (ds.map .dat) [] (fun r _ => aft ρ xs k r) (fun C => xk C ρ)) : WpSp K F (spG K W) (L2.WE Wx) xs ρ k := wsp0 ha (fun C as σ H G h e => hW C ρ as σ H G h e) hw
/-- isinstance of a caught error -/
theorem wc_isE {a C Y : Addr} {b : Bool} (hx : ExcC K C) (hk : PySem.W.kitOne K (.ref C) (.ref Y) = some b) (h : k (.dat (.bl b)) ρ) : WpC K F (fun xs H Q => ∃ D, Value.ref C = .ref D ∧ (none : Option Addr) = none ∧ ExcC K D ∧ rIsE K D a xs H Q) [.dat (.cls a), .dat (.cls Y)] ρ k := fun as σ H G vs e r Q q => by
  cases r with
  | cons r1 r2 =>
    cases r2 with
    | cons r2 r3 =>
      cases r3
      cases (show Rep K G (.cls a) _ from r1)
      cases (show Rep K G (.cls Y) _ from r2)
      exact ⟨C, rfl, rfl, hx, _, _, b, rfl, (fun u hu => by cases hu; rfl), hk, q _ ρ _ as H G h e .refl (Rep.bl _)⟩
theorem wc_isEB {a C : Addr} {s : String} {b : Bool} (hx : ExcC K C) (hk : PySem.W.kitOne K (.ref C) (.type s) = some b) (h : k (.dat (.bl b)) ρ) : WpC K F (fun xs H Q => ∃ D, Value.ref C = .ref D ∧ (none : Option Addr) = none ∧ ExcC K D ∧ rIsE K D a xs H Q) [.dat (.cls a), .dat (.ty s)] ρ k := fun as σ H G vs e r Q q => by
  cases r with
  | cons r1 r2 =>
    cases r2 with
    | cons r2 r3 =>
      cases r3
      cases (show Rep K G (.cls a) _ from r1)
      cases (show Rep K G (.ty s) _ from r2)
      exact ⟨C, rfl, rfl, hx, _, _, b, rfl, (fun u hu => by cases hu; rfl), hk, q _ ρ _ as H G h e .refl (Rep.bl _)⟩
/-- {} -/
theorem we_dnew (h : k (.dat .dic) ρ) : WpE K F tDNewK ρ k := fun as σ H G e Q q p hp => by
  obtain ⟨e3, g3⟩ := e.newG (o := .dK []) hp
  exact q _ _ _ _ _ _ h e3 g3 (Rep.dic upd_same)
end
/-! ### a try as one word -/
def tTry (K : PySem.W.Frag) (tb : WX → TS) (Wo : WX) (l : List (Value × Option Nat × Suite)) : TS := fun D u G => tb (wMix K Wo D l) D u G
theorem ps_tryT {X : Cx} {body : List Stmt} {h1 : ExceptHandler} {hds : List ExceptHandler} {l : List (Value × Option Nat × Suite)} {pos : Pos} {tb : WX → TS} {Wo : WX} (hs : X.stack = X.env :: X.outer) (hf : X.env.frame = some X.env.locals) (tk : Takes X Wo)
    (hb : ∀ W pn xe, Takes (X.tr pn xe) W → PassesOwn (model X.prog X.w) X.A X.env xe → PSs (X.tr pn xe) body (tb W)) (hh : Clauses X (h1 :: hds) l) :
    PS X (.Try body (h1 :: hds) [] [] pos) (tTry X.K tb Wo l) := ps_try_mix hs hf tk hb hh
section
variable {K : PySem.W.Frag} {F : Fx} {ρ : En} {k : AV → En → Prop} {ks : KS}
theorem ws_tryT {tb : WX → TS} {l : List (Value × Option Nat × Suite)} (xk : Addr → En → Prop)
    (hb : ∀ (F1 : Fx) (W : WX), F1.fr = F.fr → (∀ C ρ' as σ H G, xk C ρ' → EnvOk K F1 ρ' as σ H G → W (.ref C) none σ H) → WpS K F1 (tb W) ρ ks)
    (hs : ∀ C ρ', xk C ρ' → Mix K F C False l ρ' ks) : WpS K F (tTry K tb (fun _ _ _ _ => False) l) ρ ks := ws_try0 xk hb hs
end
/-! ### tuples that hold cells -/
section
variable {K : PySem.W.Frag} {F : Fx} {ρ : En} {k : AV → En → Prop} {ks : KS} {t : TA}
def TN.av : TN → AV
  | .dat d => .dat d
  | .cel j => .cel j
  | .tup xs => .tup xs
def AV.tn : AV → TN
  | .dat d => .dat d
  | .cel j => .cel j
  | .tup xs => .tup xs
theorem TNr.av {G : Hp} {as : List Addr} {x : TN} {v : V} (h : TNr K G as x v) : RepA K G as x.av v := by
  cases h with
  | dat r => exact r
  | cel e => exact ⟨_, e, rfl⟩
  | tup s r => exact ⟨_, _, rfl, s, r⟩
theorem TNr.tn {G : Hp} {as : List Addr} {x : AV} {v : V} (h : RepA K G as x v) : TNr K G as x.tn v := by
  cases x with
  | dat d => exact .dat h
  | cel j => obtain ⟨a, e, rfl⟩ := h; exact .cel e
  | tup xs => obtain ⟨a, vs, rfl, s, r⟩ := h; exact .tup s r
theorem TNs.get {G : Hp} {as : List Addr} {xs : List TN} {vs : List V} (h : TNs K G as xs vs) : ∀ {i : Nat} {x : TN}, xs[i]? = some x → ∃ v, vs[i]? = some v ∧ TNr K G as x v := by
  induction xs generalizing vs with
  | nil => intro i x e; simp at e
  | cons y ys ih =>
    cases h with
    | cons a b =>
      intro i x e
      cases i with
      | zero => simp at e; subst e; exact ⟨_, rfl, a⟩
      | succ i => obtain ⟨v, q, r⟩ := ih b (i := i) (by simpa using e); exact ⟨v, by simpa using q, r⟩
theorem TNs.tns {G : Hp} {as : List Addr} : ∀ {xs : List AV} {vs : List V}, RepAs K G as xs vs → TNs K G as (xs.map AV.tn) vs
  | [], _, h => by cases h; exact .nil
  | x :: xs, _, h => by cases h with | cons a b => exact .cons (TNr.tn a) (TNs.tns b)
theorem TNs.avs {G : Hp} {as : List Addr} : ∀ {xs : List TN} {vs : List V}, TNs K G as xs vs → RepAs K G as (xs.map TN.av) vs
  | [], _, h => by cases h; exact .nil
  | x :: xs, _, h => by cases h with | cons a b => exact .cons a.av (TNs.avs b)
theorem TNs.len {G : Hp} {as : List Addr} : ∀ {xs : List TN} {vs : List V}, TNs K G as xs vs → vs.length = xs.length
  | [], _, h => by cases h; rfl
  | x :: xs, _, h => by cases h with | cons a b => exact congrArg (· + 1) (TNs.len b)
/-- (a, b, ..): its lists stay lists that are written to -/
theorem we_tupC (h : WpA K F t ρ fun xs ρ1 => Nat.ble xs.length 1000 = true ∧ k (.tup (xs.map AV.tn)) ρ1) : WpE K F (tTup t) ρ k := fun as σ H G e Q q =>
  h as σ H G e _ fun xs ρ1 vs as1 H1 G1 ⟨hl, hk⟩ e1 g1 r1 => by
    refine ⟨sz (by rw [r1.length]; exact hl), fun p hp => ?_⟩
    obtain ⟨e3, g3⟩ := e1.newG (o := .tup vs) hp
    exact q _ _ _ _ _ _ hk e3 (g1.trans g3) ⟨p, vs, rfl, SqT.of upd_same, TNs.mono g3 _ _ (TNs.tns r1)⟩
/-- an item by its place -/
theorem wr_ixC {xs : List TN} {x : TN} {i : Int} {j : Nat} (hi : ixN xs.length i = some j) (hx : xs[j]? = some x) (hk : k x.av ρ) : WpR K F (rIxT K) (.tup xs) (.dat (.int i)) ρ k := fun as σ H G vx vy e r1 r2 Q q => by
  obtain ⟨a, vs, rfl, s, r⟩ := r1
  rw [Rep.intE r2]
  obtain ⟨v, hv, rv⟩ := r.get hx
  refine ⟨a, vs, i, v, rfl, rfl, Same.seqT e.gh s, ?_, q _ ρ _ as H G hk e .refl rv.av⟩
  unfold atI
  rw [r.len, hi]
  exact hv
/-- its items by name -/
theorem wg_tupC {n : Nat} {gs : TGs} {xs : List TN} {kn : En → Prop} (hn : xs.length = n) (h : WpGs K F gs (xs.map TN.av) ρ kn) : WpG K F (gTup K n gs) (.tup xs) ρ kn := fun as σ H G v e r Q q => by
  obtain ⟨a, vs, rfl, s, rs⟩ := r
  exact ⟨a, vs, rfl, Same.seqT e.gh s, by rw [rs.len]; exact hn, h as σ H G vs e (TNs.avs rs) Q q⟩
theorem wc_isiT {T : String} {xs : List TN} (hT : T ∈ ["int", "bool", "str", "tuple", "list"]) (hk : k (.dat (.bl (T == "tuple"))) ρ) : WpC K F (rIsi K) [.tup xs, .dat (.ty T)] ρ k := fun as σ H G vs e r Q q => by
  cases r with
  | cons r1 c =>
    cases c with
    | cons r2 c =>
      cases c
      cases (show Rep K G (.ty T) _ from r2)
      obtain ⟨a, ws, rfl, s, rs⟩ := r1
      have h2 : kitB "tuple" T = some (T == "tuple") := by
        simp only [List.mem_cons, List.not_mem_nil, or_false] at hT
        rcases hT with rfl | rfl | rfl | rfl | rfl <;> decide +kernel
      exact ⟨_, _, _, _, _, rfl, .ty _, SqT.ty (Same.seqT e.gh s), kit_ty h2, q _ ρ _ as H G hk e .refl (Rep.bl _)⟩
theorem fin_prt {n : Nat} {post : RV → List Cell → Prop} {xs ds ys : List D} {j : Nat} (hj : n ≤ j) (hc : ρ.ce[j]? = some (.lst ds)) (ng : noGone (ρ.ce.take n) = true) (q : post (.prt xs ds ys) (ρ.ce.take n)) : (KS.fin n post).rt (.tup (xs.map .dat ++ .cel j :: ys.map .dat)) ρ := ⟨_, .prt hj hc, ng, q⟩
end
/-! ### objects by data -/
def lookD : List Str → List D → Str → Option D
  | n :: ns, d :: ds, f => if (f == n) = true then some d else lookD ns ds f
  | _, _, _ => none
def putN (f : Str) : List Str → List Str
  | [] => [f]
  | g :: r => if g = f then g :: r else g :: putN f r
def putD (f : Str) (d : D) : List Str → List D → List D
  | g :: r, x :: xs => if g = f then d :: xs else x :: putD f d r xs
  | _, _ => [d]
theorem look_rep {K : PySem.W.Frag} {G : Hp} {f : Str} {d : D} : ∀ {ns : List Str} {ds : List D} {vs : List V}, Reps K G ds vs → lookD ns ds f = some d → ∃ v, (ns.zip vs).lookup f = some v ∧ Rep K G d v
  | [], _, _, _, h => by rw [lookD] at h; cases h; simp
  | n :: ns, [], _, _, h => by rw [lookD] at h; cases h; simp
  | n :: ns, x :: ds, _, r, h => by
    cases r with
    | cons a b =>
      rw [lookD] at h
      rw [List.zip_cons_cons, List.lookup_cons]
      by_cases c : (f == n) = true
      · rw [if_pos c] at h
        cases h
        rw [c]
        exact ⟨_, rfl, a⟩
      · rw [if_neg c] at h
        rw [Bool.not_eq_true] at c
        rw [c]
        exact look_rep b h
def hasN (f : Str) : List Str → Bool
  | [] => false
  | n :: ns => (f == n) || hasN f ns
theorem look_none {f : Str} : ∀ {ns : List Str} {vs : List V}, hasN f ns = false → (ns.zip vs).lookup f = none
  | [], _, _ => by simp
  | _ :: _, [], _ => by simp
  | n :: ns, v :: vs, h => by
    rw [hasN, Bool.or_eq_false_iff] at h
    rw [List.zip_cons_cons, List.lookup_cons, h.1]
    exact look_none h.2
theorem put_zip {K : PySem.W.Frag} {G : Hp} {f : Str} {d : D} {v : V} (r : Rep K G d v) : ∀ {ns : List Str} {ds : List D} {vs : List V}, Reps K G ds vs → ns.length = ds.length → ∃ ws, putF f v (ns.zip vs) = (putN f ns).zip ws ∧ (putN f ns).length = (putD f d ns ds).length ∧ Reps K G (putD f d ns ds) ws
  | [], ds, vs, h, l => by
    cases ds with
    | nil => cases h; exact ⟨[v], rfl, rfl, .cons r .nil⟩
    | cons => cases l
  | n :: ns, [], _, _, l => by cases l
  | n :: ns, x :: ds, _, h, l => by
    cases h with
    | cons a b =>
      rename_i w ws
      by_cases c : n = f
      · refine ⟨v :: ws, ?_, ?_, ?_⟩
        · rw [List.zip_cons_cons, putF, if_pos c, putN, if_pos c]; rfl
        · rw [putN, if_pos c, putD, if_pos c]; exact l
        · rw [putD, if_pos c]; exact .cons r b
      · obtain ⟨us, e1, e2, e3⟩ := put_zip (f := f) r b (Nat.succ.inj l)
        refine ⟨w :: us, ?_, ?_, ?_⟩
        · rw [List.zip_cons_cons, putF, if_neg c, putN, if_neg c, e1]; rfl
        · rw [putN, if_neg c, putD, if_neg c, List.length_cons, List.length_cons, e2]
        · rw [putD, if_neg c]; exact .cons a e3
/-- an object: data, or a cell -/
inductive IsO (ρ : En) : AV → Addr → List Str → List D → Prop
  | dat {C : Addr} {ns : List Str} {ds : List D} : IsO ρ (.dat (.obj C ns ds)) C ns ds
  | cel {j : Nat} {C : Addr} {ns : List Str} {ds : List D} : ρ.ce[j]? = some (.ins C ns ds) → IsO ρ (.cel j) C ns ds
  | tag {j : Nat} {g C : Addr} {ns : List Str} {ds : List D} : ρ.ce[j]? = some (.oth (insX g C ns ds)) → IsO ρ (.dat (.cls g)) C ns ds
def En.addO (ρ : En) (C : Addr) : En := ⟨ρ.sl, ρ.ce ++ [.ins C [] []]⟩
section
variable {K : PySem.W.Frag} {F : Fx} {ρ : En} {k : AV → En → Prop} {ks : KS} {ta tv te : TE} {t : TA}
theorem IsO.rep {as : List Addr} {σ : L2.St} {H G : Hp} {x : AV} {C : Addr} {ns : List Str} {ds : List D} {v : V} (e : EnvOk K F ρ as σ H G) (h : IsO ρ x C ns ds) (r : RepA K G as x v) : ∃ a dx vs, v = .ref a ∧ H a = some (.ins C dx (ns.zip vs)) ∧ ns.length = ds.length ∧ Reps K G ds vs := by
  cases h with
  | dat => obtain ⟨a, dx, vs, rfl, ho, hl, hr⟩ := Rep.objE r; exact ⟨a, dx, vs, rfl, e.gh _ _ ho, hl, hr⟩
  | cel hc =>
    obtain ⟨a, ha, rfl⟩ := r
    obtain ⟨_, _, _, dx, vs, hv, hl, hr⟩ := e.ce _ _ a hc ha
    exact ⟨a, dx, vs, rfl, hv, hl, hr⟩
  | @tag j g C ns ds hc =>
    cases (show Rep K G (.cls g) v from r)
    obtain ⟨a, ha⟩ : ∃ a, as[j]? = some a := ⟨_, List.getElem?_eq_getElem (by rw [e.ln]; exact (List.getElem?_eq_some_iff.mp hc).1)⟩
    obtain ⟨_, _, _, o, ho, rfl, dx, vs, rfl, hl, hr⟩ := e.ce _ _ a hc ha
    exact ⟨a, dx, vs, rfl, ho, hl, hr K G⟩
theorem we_fld {f : Str} (h : WpE K F ta ρ fun x ρ1 => ∃ C ns ds d, IsO ρ1 x C ns ds ∧ Cls K C ∧ NoAttr K C f ∧ lookD ns ds f = some d ∧ k (.dat d) ρ1) : WpE K F (tFld K ta f) ρ k := fun as σ H G e Q q =>
  h as σ H G e _ fun x ρ1 vx as1 H1 G1 ⟨C, ns, ds, d, ho, cl, na, hl, hk⟩ e1 g1 r1 => by
    obtain ⟨a, dx, vs, rfl, hv, _, hr⟩ := ho.rep e1 r1
    obtain ⟨v, hlv, rv⟩ := look_rep hr hl
    exact ⟨a, C, dx, _, v, rfl, hv, cl, na, hlv, q _ _ _ _ _ _ hk e1 g1 rv⟩
theorem ws_fset {f : Str} (h : WpE K F tv ρ fun y ρ1 => WpE K F ta ρ1 fun x ρ2 => ∃ j C ns ds d ρ3, x = .cel j ∧ Frz [y] ρ2 [d] ρ3 ∧ ρ3.ce[j]? = some (.ins C ns ds) ∧ Cls K C ∧ NoAttr K C f ∧ Nat.ble ns.length 900 = true ∧ ks.nx (ρ3.cell j (.ins C (putN f ns) (putD f d ns ds)))) : WpS K F (sFld K ta tv f) ρ ks := fun as σ H G e D q =>
  h as σ H G e _ fun y ρ1 vy as1 H1 G1 h1 e1 g1 r1 => h1 as1 σ H1 G1 e1 _ fun x ρ2 vx as2 H2 G2 ⟨j, C, ns, ds, d, ρ3, ex, fz, hc, cl, na, hl, hk⟩ e2 g2 r2 => by
    subst ex
    obtain ⟨G3, e3, g3, r3⟩ := fz.run e2 (.cons (r1.mono g2) .nil)
    cases r3 with
    | cons ry rn =>
      cases rn
      obtain ⟨a, ha, rfl⟩ := r2
      obtain ⟨_, _, gn, dx, vs, hv, ln, hr⟩ := e3.ce j _ a hc ha
      obtain ⟨ws, ez, ln2, hr2⟩ := put_zip (f := f) ry hr ln
      have hl := Nat.le_of_ble_eq_true hl
      refine ⟨a, C, dx, ns.zip vs, rfl, hv, cl, na, by rw [List.length_zip]; omega, ?_⟩
      rw [ez]
      exact q.nx _ as2 σ _ G3 hk (e3.setO hc ha gn ⟨gn, dx, ws, upd_same, ln2, hr2⟩) (g1.trans (g2.trans g3))
theorem we_meth {C : Addr} {m : Str} {sp : Sp} {E : XK} (h : WpE K F ta ρ fun x ρ1 => ∃ ns ds, IsO ρ1 x C ns ds ∧ hasN m ns = false ∧ WpA K F t ρ1 fun xs ρ2 => WpSp K F sp (fun _ => E) (x :: xs) ρ2 k) : WpE K F (tMeth C m sp [] E ta t) ρ k := fun as σ H G e Q q =>
  h as σ H G e _ fun x ρ1 vx as1 H1 G1 ⟨ns, ds, ho, hn, h1⟩ e1 g1 r1 => by
    obtain ⟨a, dx, vs, rfl, hv, _, hr⟩ := ho.rep e1 r1
    refine ⟨a, dx, _, rfl, hv, look_none hn, h1 as1 σ H1 G1 e1 _ fun xs ρ2 ws as2 H2 G2 h2 e2 g2 r2 => ?_⟩
    rw [List.append_nil]
    exact h2 as2 σ H2 G2 _ e2 (.cons (r1.mono g2) r2) Q (q.imp (g1.trans g2) fun _ _ z => z)
def tMethS (C : Addr) (m : Str) (sp : Sp) (E : L2.St → XK) (ta : TE) (t : TA) : TE := fun u G Q => ta u G fun x G1 => ∃ a dx fs, x = .ref a ∧ G1 a = some (.ins C dx fs) ∧ fs.lookup m = none ∧ t u G1 fun vs G2 => sp (x :: vs) G2 Q (E u)
theorem we_methS {C : Addr} {m : Str} {sp : Sp} {E : L2.St → XK} (h : WpE K F ta ρ fun x ρ1 => ∃ ns ds, IsO ρ1 x C ns ds ∧ hasN m ns = false ∧ WpA K F t ρ1 fun xs ρ2 => WpSp K F sp E (x :: xs) ρ2 k) : WpE K F (tMethS C m sp E ta t) ρ k := fun as σ H G e Q q =>
  h as σ H G e _ fun x ρ1 vx as1 H1 G1 ⟨ns, ds, ho, hn, h1⟩ e1 g1 r1 => by
    obtain ⟨a, dx, vs, rfl, hv, _, hr⟩ := ho.rep e1 r1
    exact ⟨a, dx, _, rfl, hv, look_none hn, h1 as1 σ H1 G1 e1 _ fun xs ρ2 ws as2 H2 G2 h2 e2 g2 r2 => h2 as2 σ H2 G2 _ e2 (.cons (r1.mono g2) r2) Q (q.imp (g1.trans g2) fun _ _ z => z)⟩
/-- a method's call in a try -/
theorem pe_methT {X : Cx} {CT : CXT} {n : Nat} {C f : Addr} {fd : FuncData} {ps : List Str} {m : Str} {sp : Sp} {E : L2.St → XK} {o x : Expr} {es : List Expr} {p pos : Pos} {pl : Sem Bool} (he : PE X o ta) (c : Cls X.K C) (hm : Meth X.K C m f) (F0 : FnOk X.prog X.w X.K X.mg X.base CT n f fd ps sp) (hr : Room n X.A) (hb : Binds X.K fd ps []) (hx : ∀ u, PassesAt CT X u (E u)) (ha : PA X (x :: es) t)
    (s1 : starEach (x :: es) X.env = (false, eval x X.env) :: starEach es X.env := by rfl) (s2 : (backTo pos (starEach es X.env)).any (·.1) = false := by rfl)
    (s3 : eval (.Call (.Attribute o m p) (x :: es) [] pos) X.env = (do
      let r ← eval o X.env
      standAt p.atName
      let (g, a0) ← holding [r] (getMethod r m pl)
      callWith pos g a0 (backTo pos (starEach (x :: es) X.env)) (backToKw pos (keywordEach [] X.env))) := by rfl) : PE X (.Call (.Attribute o m p) (x :: es) [] pos) (tMethS C m sp E ta t) := by
  constructor
  intro pins s u G Q I h
  refine PySem.W.methodCall_KW (pl := pl) (thn (he.run pins s u G _ I h) ?_) s3
  rintro w s' ⟨v, G1, I1, r1, a, dx, fs, rfl, ho, hl, hq⟩
  obtain rfl : w = Value.ref a := r1
  refine getmeth_ok I1 ho c hm hl ?_
  refine PySem.W.callWith_K (first := [.ref a]) (h₀ := X.base) I.ok.mod.kin hm.kp (thn (ha.run pos pins s' u G1 _ I1 hq) ?_) s1 s2
  rintro us s4 ⟨vs, G2, I2, r2, q2⟩
  exact ⟨I2.kIn, run_fnS (us := .ref a :: us) (vs := .ref a :: vs) F0 hr hb (hx u) I2 (.cons rfl r2) q2⟩
/-- C(..) -/
theorem new_obj {as : List Addr} {σ : L2.St} {H G : Hp} {C x dx : Addr} (e : EnvOk K F ρ as σ H G) (hx : H x = none) (hd : H dx = none) (ne : dx ≠ x) : ∃ G', EnvOk K F (ρ.addO C) (as ++ [x]) σ (upd (upd H dx (.own x)) x (.ins C dx [])) G' ∧ Gr G as G' (as ++ [x]) ∧ as.length = ρ.ce.length := by
  obtain ⟨e1, g1⟩ := e.newG (o := .own x) hd
  have hx1 : upd H dx (.own x) x = none := by rw [upd_ne fun z => ne z.symm]; exact hx
  obtain ⟨e2, g2⟩ := e1.newO (o := .ins C dx []) (c0 := .ins C [] []) hx1 (fun gp => ⟨gp, dx, [], by rw [upd_same]; rfl, rfl, .nil⟩)
  exact ⟨_, e2, g1.trans g2, e.ln⟩
theorem we_make {C : Addr} {sp : Sp} {E : XK} (h : WpA K F t ρ fun xs ρ1 => ∃ ds ρ2, Frz xs ρ1 ds ρ2 ∧ WpSp K F sp (fun _ => E) (.cel ρ2.ce.length :: ds.map .dat) (ρ2.addO C) fun r ρ3 => r = .dat .non ∧ k (.cel ρ2.ce.length) ρ3) : WpE K F (tMake C sp [] E t) ρ k := fun as σ H G e Q q =>
  h as σ H G e _ fun xs ρ1 vs as1 H1 G1 ⟨ds, ρ2, fz, h1⟩ e1 g1 r1 x dx hx hd ne => by
    obtain ⟨G2, e2, g2, r2⟩ := fz.run e1 r1
    obtain ⟨G3, e3, g3, ln⟩ := new_obj (C := C) e2 hx hd ne
    have rl : RepA K G3 (as1 ++ [x]) (.cel ρ2.ce.length) (.ref x) := RepA.last ln
    rw [List.append_nil]
    refine h1 _ σ _ G3 _ e3 (.cons rl ((Reps.as (as := as1) r2).mono g3)) _ ?_
    rintro av ρ3 v as4 H4 G4 ⟨rfl, hk⟩ e4 g4 r4
    exact ⟨Rep.nonE r4, q _ _ _ _ _ _ hk e4 (g1.trans (g2.trans (g3.trans g4))) (rl.mono g4)⟩
/-- C(*xs) -/
theorem we_makeS {C : Addr} {sp : Sp} {E : XK} (h : WpE K F te ρ fun y ρ1 => ∃ ds, (IsL ρ1 y ds ∨ y = .dat (.tup ds)) ∧ WpSp K F sp (fun _ => E) (.cel ρ1.ce.length :: ds.map .dat) (ρ1.addO C) fun r ρ3 => r = .dat .non ∧ k (.cel ρ1.ce.length) ρ3) : WpE K F (tMakeS K C sp E te) ρ k := fun as σ H G e Q q =>
  h as σ H G e _ fun y ρ1 vy as1 H1 G1 ⟨ds, hy, h1⟩ e1 g1 r1 => by
    obtain ⟨a, vs, rfl, hs, hr⟩ : ∃ a vs, vy = .ref a ∧ (SqT K H1 a vs ∨ SqL K H1 a vs) ∧ Reps K G1 ds vs := by
      rcases hy with hy | rfl
      · obtain ⟨a, vs, e0, hs, hr⟩ := hy.rep e1 r1
        exact ⟨a, vs, e0, .inr hs, hr⟩
      · obtain ⟨a, vs, e0, hs, hr⟩ := Rep.tupE r1
        exact ⟨a, vs, e0, .inl (Same.seqT e1.gh hs), hr⟩
    refine ⟨a, vs, rfl, hs, fun x dx hx hd ne => ?_⟩
    obtain ⟨G3, e3, g3, ln⟩ := new_obj (C := C) e1 hx hd ne
    have rl : RepA K G3 (as1 ++ [x]) (.cel ρ1.ce.length) (.ref x) := RepA.last ln
    refine h1 _ σ _ G3 _ e3 (.cons rl ((Reps.as (as := as1) hr).mono g3)) _ ?_
    rintro av ρ3 v as4 H4 G4 ⟨rfl, hk⟩ e4 g4 r4
    exact ⟨Rep.nonE r4, q _ _ _ _ _ _ hk e4 (g1.trans (g3.trans g4)) (rl.mono g4)⟩
/-- a, *b = .. -/
theorem wg_star {g0 g1 : TG} {d : D} {ds : List D} {kn : En → Prop} (h : WpG K F g0 (.dat d) (ρ.add ds) fun ρ1 => WpG K F g1 (.cel ρ.ce.length) ρ1 kn) : WpG K F (gStar K g0 g1) (.dat (.tup (d :: ds))) ρ kn := fun as σ H G v e r Q q => by
  obtain ⟨a, vs, rfl, hs, hr⟩ := Rep.tupE r
  cases hr with
  | cons rx rs =>
    refine ⟨a, _, _, rfl, Same.seqT e.gh hs, fun l hl => ?_⟩
    obtain ⟨e2, g2⟩ := e.newC hl rs
    have rl : RepA K G (as ++ [l]) (.cel ρ.ce.length) (.ref l) := RepA.last e.ln
    exact h _ σ _ G _ e2 (Rep.mono (Same.refl _) _ _ rx) _ fun ρ1 as1 σ1 H1 G1 h1 e1 g1 => h1 as1 σ1 H1 G1 _ e1 (rl.mono g1) Q fun ρ2 as2 σ2 H2 G2 h2 e2 gg => q _ _ _ _ _ h2 e2 (g2.trans (g1.trans gg))
/-- a new thing that nobody writes to is data at once -/
def frzO (k : AV → En → Prop) : AV → En → Prop := fun av ρ' => ∃ j c d, av = .cel j ∧ ρ'.ce[j]? = some c ∧ celD c = some d ∧ k (.dat d) (ρ'.frzD j d)
theorem got_frzO {as : List Addr} {σ : L2.St} {G : Hp} {Q : VK} (q : Got K F ρ as σ G k Q) : Got K F ρ as σ G (frzO k) Q := fun av ρ' v as' H' G' ⟨j, c, d, ea, hc, hd, hk⟩ e' g' ra => by
  subst ea
  obtain ⟨a, ha, rfl⟩ := ra
  obtain ⟨o, e2, g2, rr⟩ := e'.frzD hc ha hd
  exact q _ _ _ as' H' _ hk e2 (g'.trans g2) rr
theorem we_frzO (h : WpE K F te ρ (frzO k)) : WpE K F te ρ k := fun as σ H G e Q q => h as σ H G e Q (got_frzO q)
theorem ws_frzO {t : TS} {j : Nat} {c : Cell} {d : D} (hj : ρ.ce[j]? = some c) (hd : celD c = some d) (h : WpS K F t (ρ.frzD j d) ks) : WpS K F t ρ ks := fun as σ H G e D q => by
  have hl : j < as.length := by rw [e.ln]; exact (List.getElem?_eq_some_iff.mp hj).1
  obtain ⟨o, e2, g2, _⟩ := e.frzD hj (List.getElem?_eq_getElem hl) hd
  exact h as σ H _ e2 D (EndsOk.grow K F q g2)
/-- isinstance of an own class -/
theorem wc_isO {x : AV} {C Y : Addr} {ns : List Str} {ds : List D} {b : Bool} (ho : IsO ρ x C ns ds) (ty : ∀ {H : Hp} {a dx : Addr} {fs : List (Str × V)}, H a = some (.ins C dx fs) → TyX K H (.ref a) (.ref C)) (hb : PySem.W.kitOne K (.ref C) (.ref Y) = some b) (hk : k (.dat (.bl b)) ρ) : WpC K F (rIsi K) [x, .dat (.cls Y)] ρ k := fun as σ H G vs e r Q q => by
  cases r with
  | cons r1 r2 =>
    cases r2 with
    | cons r2 r3 =>
      cases r3
      cases (show Rep K G (.cls Y) _ from r2)
      obtain ⟨a, dx, vs, rfl, hv, _, _⟩ := ho.rep e r1
      exact ⟨_, _, _, _, b, rfl, .own Y, ty hv, hb, q _ ρ _ as H G hk e .refl (Rep.bl _)⟩
/-- all of truths -/
theorem Reps.bls {G : Hp} : ∀ {bs : List Bool} {vs : List V}, Reps K G (bs.map D.bl) vs → vs = bs.map V.bl
  | [], _, h => by cases h; rfl
  | b :: bs, _, h => by
    cases h with
    | cons a c => cases a; rw [Reps.bls c]; rfl
theorem wc_all {x : AV} {bs : List Bool} (hx : IsL ρ x (bs.map D.bl)) (hk : k (.dat (.bl (bs.all id))) ρ) : WpC K F (rAll K) [x] ρ k := fun as σ H G vs e r Q q => by
  cases r with
  | cons r1 r2 =>
    cases r2
    obtain ⟨a, vs, rfl, hs, hr⟩ := hx.rep e r1
    rw [Reps.bls hr] at hs
    exact ⟨a, bs, rfl, hs, q _ ρ _ as H G hk e .refl (Rep.bl _)⟩
end
/-- a reading that is one of two -/
theorem we_or1 {K : PySem.W.Frag} {F : Fx} {ρ : En} {k : AV → En → Prop} {t1 t2 : TE} (h : WpE K F t1 ρ k) : WpE K F (fun σ H Q => t1 σ H Q ∨ t2 σ H Q) ρ k := fun as σ H G e Q q => .inl (h as σ H G e Q q)
theorem we_or2 {K : PySem.W.Frag} {F : Fx} {ρ : En} {k : AV → En → Prop} {t1 t2 : TE} (h : WpE K F t2 ρ k) : WpE K F (fun σ H Q => t1 σ H Q ∨ t2 σ H Q) ρ k := fun as σ H G e Q q => .inr (h as σ H G e Q q)
/-! ### a method's call with keywords alone -/
def tMethK (C : Addr) (m : Str) (sp : Sp) (n : Nat) (gV : List V → List V → List V) (E : XK) (ta : TE) (tk : TA) : TE := fun u G Q => ta u G fun x G1 => ∃ a dx fs, x = .ref a ∧ G1 a = some (.ins C dx fs) ∧ fs.lookup m = none ∧ tk u G1 fun zs G2 => zs.length = n ∧ sp (gV [x] zs) G2 Q E
theorem pe_methK0 {X : Cx} {CT : CXT} {n : Nat} {C f : Addr} {fd : FuncData} {ps ks : List Str} {m : Str} {sp : Sp} {E : XK} {o : Expr} {kws : List Keyword} {p pos : Pos} {pl : Sem Bool} {ta : TE} {tk : TA} {g : List Value → List Value → List Value} {gV : List V → List V → List V} (he : PE X o ta) (c : Cls X.K C) (hm : Meth X.K C m f) (F0 : FnOk X.prog X.w X.K X.mg X.base CT n f fd ps sp) (hr : Room n X.A) (hb : KBn X.K fd ps 1 ks g gV) (hx : Passes CT X E) (hkw : PK X kws tk)
    (hall : (backToKw pos (keywordEach kws X.env)).all (·.1.isSome) = true := by rfl) (hks : (backToKw pos (keywordEach kws X.env)).filterMap (·.1) = ks := by rfl)
    (hpl : ((backTo pos (starEach [] X.env)).any (·.1) || (backToKw pos (keywordEach kws X.env)).any (·.1.isNone)) = false := by rfl)
    (s3 : eval (.Call (.Attribute o m p) [] kws pos) X.env = (do
      let r ← eval o X.env
      standAt p.atName
      let (h, a0) ← holding [r] (getMethod r m pl)
      callWith pos h a0 (backTo pos (starEach [] X.env)) (backToKw pos (keywordEach kws X.env))) := by rfl) : PE X (.Call (.Attribute o m p) [] kws pos) (tMethK C m sp ks.length gV E ta tk) := by
  constructor
  intro pins s u G Q I h
  refine PySem.W.methodCall_KW (pl := pl) (thn (he.run pins s u G _ I h) ?_) s3
  rintro w s' ⟨v, G1, I1, r1, a, dx, fs, rfl, ho, hl, hq⟩
  obtain rfl : w = Value.ref a := r1
  refine getmeth_ok I1 ho c hm hl ?_
  refine PySem.W.callWith_KW0 (first := [.ref a]) (h₀ := X.base) I.ok.mod.kin hm.kp hall (thn (hkw.run pos pins s' u G1 _ I1 hq) ?_) hpl
  rintro ws s4 ⟨zs, G2, I2, rz, l2, q2⟩
  refine ⟨I2.kIn, ?_⟩
  rw [hks]
  exact run_fnN (us := [.ref a]) (vs := [.ref a]) F0 hr hb hx I2 (.cons rfl .nil) rz rfl l2 q2
section
variable {K : PySem.W.Frag} {F : Fx} {ρ : En} {k : AV → En → Prop} {ta tb tc : TE} {t tk : TA}
theorem we_methK {C : Addr} {m : Str} {sp : Sp} {n : Nat} {gV : List V → List V → List V} {E : XK} (h : WpE K F ta ρ fun x ρ1 => ∃ ns ds, IsO ρ1 x C ns ds ∧ hasN m ns = false ∧ WpA K F tk ρ1 fun ys ρ2 => ∃ zs, ys.length = n ∧ (∀ G as v ws, RepA K G as x v → RepAs K G as ys ws → RepAs K G as zs (gV [v] ws)) ∧ WpSp K F sp (fun _ => E) zs ρ2 k) : WpE K F (tMethK C m sp n gV E ta tk) ρ k := fun as σ H G e Q q =>
  h as σ H G e _ fun x ρ1 vx as1 H1 G1 ⟨ns, ds, ho, hn, h1⟩ e1 g1 r1 => by
    obtain ⟨a, dx, vs, rfl, hv, _, hr⟩ := ho.rep e1 r1
    exact ⟨a, dx, _, rfl, hv, look_none hn, h1 as1 σ H1 G1 e1 _ fun ys ρ2 ws as2 H2 G2 ⟨zs, hl, hg, h2⟩ e2 g2 r2 => ⟨by rw [r2.length]; exact hl, h2 as2 σ H2 G2 _ e2 (hg _ _ _ _ (r1.mono g2) r2) Q (q.imp (g1.trans g2) fun _ _ z => z)⟩⟩
/-- C(.., k=..) -/
theorem we_makeK {C : Addr} {n m : Nat} {sp : Sp} {gV : List V → List V → List V} {E : XK} (h : WpA K F t ρ fun xs ρ1 => WpA K F tk ρ1 fun ys ρ2 => ∃ ds es fs : List D, xs = ds.map .dat ∧ ys = es.map .dat ∧ ds.length = n ∧ es.length = m ∧ (∀ G as x vs ws, RepAs K G as xs vs → RepAs K G as ys ws → RepAs K G as (fs.map .dat) (gV (x :: vs) ws).tail ∧ (gV (x :: vs) ws).head? = some x) ∧ WpSp K F sp (fun _ => E) (.cel ρ2.ce.length :: fs.map .dat) (ρ2.addO C) fun r ρ3 => r = .dat .non ∧ k (.cel ρ2.ce.length) ρ3) : WpE K F (tMakeK C n m sp gV E t tk) ρ k := fun as σ H G e Q q =>
  h as σ H G e _ fun xs ρ1 vs as1 H1 G1 h1 e1 g1 r1 => h1 as1 σ H1 G1 e1 _ fun ys ρ2 ws as2 H2 G2 ⟨ds, es, fs, ex, ey, l1, l2, hg, h2⟩ e2 g2 r2 => by
    refine ⟨by rw [r1.length, ex, List.length_map]; exact l1, by rw [r2.length, ey, List.length_map]; exact l2, fun x dx hx hd ne => ?_⟩
    obtain ⟨G3, e3, g3, ln⟩ := new_obj (C := C) e2 hx hd ne
    have rl : RepA K G3 (as2 ++ [x]) (.cel ρ2.ce.length) (.ref x) := RepA.last ln
    obtain ⟨h3, h4⟩ := hg G3 (as2 ++ [x]) (.ref x) vs ws (r1.mono (g2.trans g3)) (r2.mono g3)
    obtain ⟨v0, us, eg⟩ : ∃ v0 us, gV (.ref x :: vs) ws = v0 :: us := by
      cases hh : gV (.ref x :: vs) ws with
      | nil => rw [hh] at h4; cases h4
      | cons v0 us => exact ⟨v0, us, rfl⟩
    rw [eg] at h3 h4 ⊢
    cases h4
    refine h2 _ σ _ G3 _ e3 (.cons rl h3) _ ?_
    rintro av ρ3 v as4 H4 G4 ⟨rfl, hk⟩ e4 g4 r4
    exact ⟨Rep.nonE r4, q _ _ _ _ _ _ hk e4 (g1.trans (g2.trans (g3.trans g4))) (rl.mono g4)⟩
theorem ch_var {i : Nat} {l : Int} {as : List Addr} {σ : L2.St} {H G : Hp} {Q : VK} (e : EnvOk K F ρ as σ H G) (h : ρ.sl[i]? = some (some (.dat (.int l)))) : Q (.int l) H → tVar i σ H Q := fun q => by
  obtain ⟨v, hv, r⟩ := e.sl i _ h
  exact ⟨v, hv, by rw [Rep.intE r]; exact q⟩
/-- .. where the last one is a name or a number that is written -/
theorem we_chV {g g' : Int → Int → Bool} {i : Nat} (h : WpE K F ta ρ fun x ρ1 => WpE K F tb ρ1 fun y ρ2 => ∃ a b l, x = .dat (.int a) ∧ y = .dat (.int b) ∧ ρ2.sl[i]? = some (some (.dat (.int l))) ∧ k (.dat (.bl (g a b && g' b l))) ρ2) : WpE K F (tChI g g' ta tb (tVar i)) ρ k := fun as σ H G e Q q =>
  h as σ H G e _ fun x ρ1 vx as1 H1 G1 h1 e1 g1 r1 => h1 as1 σ H1 G1 e1 _ fun y ρ2 vy as2 H2 G2 ⟨a, b, l, ex, ey, hs, hk⟩ e2 g2 r2 => by
    subst ex ey
    exact ch_var e2 hs ⟨a, b, l, Rep.intE (r1.mono g2), Rep.intE r2, rfl, rfl, q _ _ _ _ _ _ hk e2 (g1.trans g2) (Rep.bl _)⟩
theorem we_chC {g g' : Int → Int → Bool} {l : Int} (h : WpE K F ta ρ fun x ρ1 => WpE K F tb ρ1 fun y ρ2 => ∃ a b, x = .dat (.int a) ∧ y = .dat (.int b) ∧ k (.dat (.bl (g a b && g' b l))) ρ2) : WpE K F (tChI g g' ta tb (tC (.int l))) ρ k := fun as σ H G e Q q =>
  h as σ H G e _ fun x ρ1 vx as1 H1 G1 h1 e1 g1 r1 => h1 as1 σ H1 G1 e1 _ fun y ρ2 vy as2 H2 G2 ⟨a, b, ex, ey, hk⟩ e2 g2 r2 => by
    subst ex ey
    exact ⟨a, b, l, Rep.intE (r1.mono g2), Rep.intE r2, rfl, rfl, q _ _ _ _ _ _ hk e2 (g1.trans g2) (Rep.bl _)⟩
end
section
variable {K : PySem.W.Frag} {F : Fx} {ρ : En} {k : AV → En → Prop} {ta tb tc : TE}
/-- a < b < c, the second step only where the first is true -/
theorem we_chain {r r' : R2} (h : WpE K F ta ρ fun x ρ1 => WpE K F tb ρ1 fun y ρ2 => WpR K F r x y ρ2 fun z ρ3 => ∃ b, z = .dat (.bl b) ∧ if b = true then WpE K F tc ρ3 fun w ρ4 => WpR K F r' y w ρ4 k else k (.dat (.bl false)) ρ3) : WpE K F (tChain r r' ta tb tc) ρ k := fun as σ H G e Q q =>
  h as σ H G e _ fun x ρ1 vx as1 H1 G1 h1 e1 g1 r1 => h1 as1 σ H1 G1 e1 _ fun y ρ2 vy as2 H2 G2 h2 e2 g2 r2 => by
    refine h2 as2 σ H2 G2 vx vy e2 (r1.mono g2) r2 _ ?_
    rintro z ρ3 vz as3 H3 G3 ⟨b, rfl, h3⟩ e3 g3 r3
    refine ⟨b, Rep.blE r3, ?_⟩
    cases b with
    | true =>
      refine (show WpE K F tc ρ3 _ from h3) as3 σ H3 G3 e3 _ ?_
      exact fun w ρ4 vw as4 H4 G4 h4 e4 g4 r4 => h4 as4 σ H4 G4 vy vw e4 ((r2.mono g3).mono g4) r4 Q (q.imp (g1.trans (g2.trans (g3.trans g4))) fun _ _ z => z)
    | false => exact q _ ρ3 _ as3 H3 G3 h3 e3 (g1.trans (g2.trans g3)) (Rep.bl _)
end
/-! ### a well: a list of three whole numbers from which is drawn -/
def IsW (s : List D) : Prop := ∃ x y z : Int, s = [.int x, .int y, .int z]
/-! ### x.f += a number, of an object still written to -/
section
variable {K : PySem.W.Frag} {F : Fx} {ρ : En} {ks : KS} {ta : TE}
theorem ws_fldaug {f : Str} {m : Int} (h : WpE K F ta ρ fun x ρ1 => ∃ j C ns ds n, x = .cel j ∧ ρ1.ce[j]? = some (.ins C ns ds) ∧ Cls K C ∧ NoAttr K C f ∧ lookD ns ds f = some (.int n) ∧ Nat.ble ns.length 900 = true ∧ ks.nx (ρ1.cell j (.ins C (putN f ns) (putD f (.int (n + m)) ns ds)))) : WpS K F (sFldAug K ta (tC (.int m)) rAdd f) ρ ks := fun as σ H G e D q =>
  h as σ H G e _ fun x ρ1 vx as1 H1 G1 ⟨j, C, ns, ds, n, ex, hc, cl, na, lk, hl, hk⟩ e1 g1 r1 => by
    subst ex
    obtain ⟨a, ha, rfl⟩ := r1
    obtain ⟨_, _, gn, dx, vs, hv, ln, hr⟩ := e1.ce j _ a hc ha
    obtain ⟨v, hvl, rv⟩ := look_rep hr lk
    have ev : v = .int n := Rep.intE rv
    subst ev
    obtain ⟨ws, ez, ln2, hr2⟩ := put_zip (f := f) (Rep.int (n + m)) hr ln
    have hl := Nat.le_of_ble_eq_true hl
    refine ⟨a, C, dx, ns.zip vs, _, rfl, hv, cl, na, hvl, n, m, rfl, rfl, dx, ns.zip vs, hv, by rw [List.length_zip]; omega, ?_⟩
    rw [ez]
    exact q.nx _ as1 σ _ G1 hk (e1.setO hc ha gn ⟨gn, dx, ws, upd_same, ln2, hr2⟩) g1
end
/-! ### what follows a call, a def's end -/
theorem fin_dat {n : Nat} {post : RV → List Cell → Prop} {ρ : En} {d : D} (ng : noGone (ρ.ce.take n) = true) (q : post (.dat d) (ρ.ce.take n)) : (KS.fin n post).rt (.dat d) ρ := ⟨_, .dat d, ng, q⟩
section
variable {K : PySem.W.Frag} {F : Fx} {ρ : En} {k : AV → En → Prop} {x : AV}
theorem OfD.as {d : D} {xs : List AV} {ds : List D} (h : OfD ρ x d) (r : AsD ρ xs ds) : AsD ρ (x :: xs) (d :: ds) := by
  cases h with
  | dat => exact .dat r
  | cel hc => exact .cel hc r
theorem aft_hard {xs : List AV} {d : D} (h : hard d = true) (hk : k (.dat d) ρ) : aft ρ xs k (.dat d) := ⟨by rw [h, Bool.or_true], hk⟩
theorem aft_hards {xs : List AV} {ds : List D} (h : hards ds = true) (hk : k (.cel ρ.ce.length) (ρ.add ds)) : aft ρ xs k (.new ds) := ⟨by rw [h, Bool.or_true], hk⟩
end
/-! ### a state to draw from, opened and shut; extend, [::-1]; a state and another cell lent at once -/
section
variable {K : PySem.W.Frag} {F : Fx} {ρ : En} {k : AV → En → Prop} {ks : KS} {te : TE}
theorem EnvOk.recell {as : List Addr} {σ : L2.St} {H G : Hp} {j : Nat} {c c' : Cell} (e : EnvOk K F ρ as σ H G) (hj : ρ.ce[j]? = some c) (h : ∀ a, as[j]? = some a → CellOk K G H a c → CellOk K G H a c') (nr : ∀ t X, c' ≠ Cell.reg t X := by intro t X z; cases z) : EnvOk K F (ρ.cell j c') as σ H G := by
  have hl : j < ρ.ce.length := (List.getElem?_eq_some_iff.mp hj).1
  refine ⟨e.gh, e.fh, e.fg, e.g0, e.nd, e.pr, by rw [e.ln]; exact (List.length_set).symm, fun i c2 a hc ha => ?_, e.sn, e.sl, by
    obtain ⟨Ts, r⟩ := e.rg
    exact r.setC (List.getElem?_eq_getElem (by rw [e.ln]; exact hl)) nr (fun _ _ _ h => h) (fun _ _ _ _ g => g) (Same.refl _)⟩
  have hc' : (ρ.ce.set j c')[i]? = some c2 := hc
  by_cases hij : j = i
  · subst hij
    rw [List.getElem?_set_self hl] at hc'
    cases hc'
    obtain ⟨fa, ho, ok⟩ := e.ce j _ a hj ha
    exact ⟨fa, ho, h a ha ok⟩
  · rw [List.getElem?_set_ne hij] at hc'
    exact e.ce i c2 a hc' ha
theorem ws_drwO {t : TS} {j : Nat} (hj : ρ.ce[j]? = some .drw) (h1 : ∀ x : Int, WpS K F t (ρ.cell j (.lst [.int x])) ks) (h3 : ∀ x y z : Int, WpS K F t (ρ.cell j (.lst [.int x, .int y, .int z])) ks) : WpS K F t ρ ks := fun as σ H G e D q => by
  obtain ⟨a, ha⟩ : ∃ a, as[j]? = some a := ⟨_, List.getElem?_eq_getElem (by rw [e.ln]; exact (List.getElem?_eq_some_iff.mp hj).1)⟩
  obtain ⟨_, _, g, xs, hx, st⟩ := e.ce j _ a hj ha
  rcases st with ⟨x, rfl⟩ | ⟨x, y, z, rfl⟩
  · refine h1 x as σ H G (e.recell hj fun b hb _ => ?_) D q
    rw [ha] at hb
    cases hb
    exact ⟨g, _, hx, .cons (.int x) .nil⟩
  · refine h3 x y z as σ H G (e.recell hj fun b hb _ => ?_) D q
    rw [ha] at hb
    cases hb
    exact ⟨g, _, hx, .cons (.int x) (.cons (.int y) (.cons (.int z) .nil))⟩
theorem ws_drw3 {t : TS} {j : Nat} {x y z : Int} (hj : ρ.ce[j]? = some (.lst [.int x, .int y, .int z])) (h : WpS K F t (ρ.cell j .drw) ks) : WpS K F t ρ ks := fun as σ H G e D q => by
  refine h as σ H G (e.recell hj fun b hb ok => ?_) D q
  obtain ⟨g, ws, hw, hr⟩ := ok
  refine ⟨g, ws, hw, ?_⟩
  cases hr with
  | cons a r =>
    cases r with
    | cons b r =>
      cases r with
      | cons c r =>
        cases r
        rw [Rep.intE a, Rep.intE b, Rep.intE c]
        exact .inr ⟨_, _, _, rfl⟩
theorem we_revL (h : WpE K F te ρ fun x ρ1 => ∃ ds, IsL ρ1 x ds ∧ k (.cel ρ1.ce.length) (ρ1.add ds.reverse)) : WpE K F (tRevL K te) ρ k := fun as σ H G e Q q =>
  h as σ H G e _ fun x ρ1 vx as1 H1 G1 ⟨ds, hd, h1⟩ e1 g1 r1 => by
    obtain ⟨a, vs, rfl, hs, hr⟩ := hd.rep e1 r1
    exact ⟨a, vs, rfl, hs, fun p hp => new_list e1 (q.imp g1 fun _ _ z => z) hr.reverse h1 hp⟩
/-- a state to draw from and another cell, both lent, both come back as they are -/
theorem wspO {W : PW0} {E : L2.St → XK} {xs : List AV} {j t : Nat} {X : CellX} (hj : ρ.ce[j]? = some .drw) (ht : ρ.ce[t]? = some (.oth X)) (ho : onlyC j xs = true) (hw : W (xs.map lend) [.drw, .oth X] (fun r cs => cs = [.drw, .oth X] ∧ ∃ d, r = .dat d ∧ k (.dat d) ρ) (fun _ => False)) : WpSp K F (spG K W) E xs ρ k := by
  intro as σ H G vs e rx Q q
  obtain ⟨a, ha⟩ : ∃ a, as[j]? = some a := ⟨_, List.getElem?_eq_getElem (by rw [e.ln]; exact (List.getElem?_eq_some_iff.mp hj).1)⟩
  obtain ⟨b, hb⟩ : ∃ b, as[t]? = some b := ⟨_, List.getElem?_eq_getElem (by rw [e.ln]; exact (List.getElem?_eq_some_iff.mp ht).1)⟩
  have jt : j ≠ t := fun z => by subst z; rw [hj] at ht; cases ht
  have inj : ∀ {i l : Nat} {c : Addr}, as[i]? = some c → as[l]? = some c → i = l := fun h1 h2 => (List.getElem?_inj (List.getElem?_eq_some_iff.mp h1).1 e.nd).mp (h1.trans h2.symm)
  have ab : a ≠ b := fun z => by subst z; exact jt (inj ha hb)
  obtain ⟨fa, hxa, oka⟩ := e.ce j _ a hj ha
  obtain ⟨fb, hxb, okb⟩ := e.ce t _ b ht hb
  have rl : RepAs K G [a, b] (xs.map lend) vs := by
    have main : ∀ (ys : List AV) (ws : List V), onlyC j ys = true → RepAs K G as ys ws → RepAs K G [a, b] (ys.map lend) ws := by
      intro ys
      induction ys with
      | nil => intro ws _ r; cases r; exact .nil
      | cons y ys ih =>
        intro ws ho r
        cases r with
        | cons r1 r2 =>
          cases y with
          | tup xs => rw [onlyC] at ho; cases ho
          | dat d => exact .cons (Rep.mono (Same.refl _) _ _ r1) (ih _ ho r2)
          | cel i =>
            rw [onlyC, Bool.and_eq_true] at ho
            have ei := of_decide_eq_true ho.1
            subst ei
            obtain ⟨p, hp, rfl⟩ := r1
            rw [ha] at hp
            cases hp
            exact .cons ⟨a, rfl, rfl⟩ (ih _ ho.2 r2)
    exact main xs vs ho rx
  obtain ⟨Ts0, r0⟩ := e.rg
  refine ⟨G, [a, b], fun _ _ => none, xs.map lend, [.drw, .oth X], _, _, e.gh, ⟨rfl, by simp [ab], fun i c2 d hc hd => ?_⟩, RegsAt.no (fun i t Y z => ?_), rl, hw, ?_, fun _ _ z => z.elim⟩
  · cases i with
    | zero => simp at hc hd; subst hc hd; exact ⟨hxa, oka⟩
    | succ i =>
      cases i with
      | zero => simp at hc hd; subst hc hd; exact ⟨hxb, okb⟩
      | succ i => simp at hc
  · cases i with
    | zero => cases z
    | succ i =>
      cases i with
      | zero => cases z
      | succ i => simp at z
  · rintro r cs' v H' G' Ts' ⟨rfl, d, rfl, hk⟩ fr sG gh' nw ck _ _ rr
    have fr' : ∀ c o, c ≠ a → c ≠ b → H c = some o → H' c = some o := fun c o n1 n2 h => fr c o (by simp [n1, n2]) (fun _ => rfl) h
    have gn : ∀ {c : Addr} {o : HO}, H c = some o → G c = none → G' c = none := fun {c o} hco g => by
      cases z : G' c with
      | none => rfl
      | some o2 =>
        rcases nw c o2 z with y | y | ⟨_, y⟩
        · rw [g] at y; cases y
        · rw [hco] at y; cases y
        · exact absurd rfl y
    have rN : RegsAt Ts0 F.Fr G' H' as ρ.ce := r0.same (fun i c o h hc => fr' c o
      (fun z => by
        subst z
        have := (r0.pl i c o h).2.2.2 j ha
        subst this
        obtain ⟨t, X, y⟩ := r0.is h
        rw [hj] at y; cases y)
      (fun z => by
        subst z
        have := (r0.pl i c o h).2.2.2 t hb
        subst this
        obtain ⟨_, X, y⟩ := r0.is h
        rw [ht] at y; cases y) hc) (fun c o ho g => gn ho g) (fun _ z => z) fun _ _ z => .inl (sG _ _ z)
    refine q _ _ v as H' G' hk ⟨gh', fun c o h => fr' c o (ne_of_none h fa) (ne_of_none h fb) (e.fh _ _ h), fun c o h => ?_, Same.trans e.g0 sG, e.nd, e.pr, e.ln, fun i c2 c hc hcc => ?_, e.sn, fun i av hi => ?_, ⟨_, rN⟩⟩ ⟨sG, [], by simp⟩ rr
    · rcases nw c o h with y | y | ⟨_, y⟩
      · exact e.fg _ _ y
      · exact .inr (Same.none e.fh y)
      · exact absurd rfl y
    · by_cases hij : i = j
      · subst hij
        rw [hj] at hc
        rw [ha] at hcc
        cases hc
        cases hcc
        obtain ⟨h1, h2⟩ := ck.ok 0 .drw a rfl rfl
        exact ⟨fa, h1, h2⟩
      · by_cases hit : i = t
        · subst hit
          rw [ht] at hc
          rw [hb] at hcc
          cases hc
          cases hcc
          obtain ⟨h1, h2⟩ := ck.ok 1 (.oth X) b rfl rfl
          exact ⟨fb, h1, h2⟩
        · obtain ⟨fc, ⟨o, hco⟩, okc⟩ := e.ce i c2 c hc hcc
          have na : c ≠ a := fun z => by subst z; exact hij (inj hcc ha)
          have nb : c ≠ b := fun z => by subst z; exact hit (inj hcc hb)
          refine ⟨fc, ⟨o, fr' _ _ na nb hco⟩, ?_⟩
          cases c2 with
          | gone => trivial
          | reg t X => exact gn hco okc
          | lst es => obtain ⟨g, ws, hw, r⟩ := okc; exact ⟨gn hco g, ws, fr' _ _ na nb hw, Reps.mono sG _ _ r⟩
          | ins C9 ns9 es => obtain ⟨g, dx9, ws, hw, ln9, r⟩ := okc; exact ⟨gn hco g, dx9, ws, fr' _ _ na nb hw, ln9, Reps.mono sG _ _ r⟩
          | drw => obtain ⟨g, ws, hw, r⟩ := okc; exact ⟨gn hco g, ws, fr' _ _ na nb hw, r⟩
          | oth X => obtain ⟨g, o9, hw, r⟩ := okc; exact ⟨gn hco g, o9, fr' _ _ na nb hw, X.mono (fun _ _ z => .inl (sG _ _ z)) r⟩
    · obtain ⟨v, hv, r⟩ := e.sl i av hi
      exact ⟨v, hv, r.mono ⟨sG, [], by simp⟩⟩
end
theorem wm_extT {K : PySem.W.Frag} {F : Fx} {ρ : En} {k : AV → En → Prop} {j : Nat} {ds es : List D} (hc : ρ.ce[j]? = some (.lst ds)) (hl : ds.length + es.length ≤ 16000000) (hk : k (.dat .non) (ρ.cell j (.lst (ds ++ es)))) : WpM K F (rExtT K) (.cel j) [.dat (.tup es)] ρ k := fun as σ H G v vs e r1 r2 Q q => by
  obtain ⟨a, ha, rfl⟩ := r1
  cases r2 with
  | cons rb rn =>
    cases rn
    obtain ⟨b, us, rfl, hs, hr2⟩ := Rep.tupE rb
    obtain ⟨_, _, g, ws, hw, hr⟩ := e.ce j _ a hc ha
    refine ⟨a, b, ws, us, rfl, rfl, hw, Same.seqT e.gh hs, szb (by rw [hr.length, hr2.length]; omega), ?_⟩
    exact q _ _ _ as _ G hk (e.setC hc ha g ⟨g, _, upd_same, hr.append hr2⟩) .refl Rep.non
/-! a function that a slot holds, called in a try -/
theorem we_callLS {K : PySem.W.Frag} {F : Fx} {ρ : En} {k : AV → En → Prop} {W : WX} {i : Nat} {f : Addr} {sp : Sp} {t : TA} (hs : ρ.sl[i]? = some (some (.dat (.cls f)))) (h : WpA K F t ρ fun xs ρ1 => WpSp K F sp (L2.WE W) xs ρ1 k) : WpE K F (tCallLS W i f sp t) ρ k := fun as σ H G e Q q => by
  obtain ⟨v, hv, r⟩ := e.sl i _ hs
  cases (show Rep K G (.cls f) v from r)
  exact ⟨hv, h as σ H G e _ fun xs ρ1 vs as1 H1 G1 h1 e1 g1 r1 => h1 as1 σ H1 G1 vs e1 r1 Q (q.imp g1 fun _ _ z => z)⟩
/-! ### a list's insert -/
section
variable {K : PySem.W.Frag} {F : Fx} {ρ : En} {k : AV → En → Prop}
theorem wm_insert {j : Nat} {x : AV} {ds : List D} {d : D} {i : Int} {ρ2 : En} (fz : Frz [x] ρ [d] ρ2) (hc : ρ2.ce[j]? = some (.lst ds)) (hl : ds.length < 16000000) (i0 : 0 ≤ i) (i1 : i < 16000000) (hk : k (.dat .non) (ρ2.cell j (.lst (ds.take i.toNat ++ [d] ++ ds.drop i.toNat)))) : WpM K F (fun x vs H Q => ∃ (l : Addr) (xs : List V) (i : Int) (y : V), x = .ref l ∧ vs = [.int i, y] ∧ H l = some (.lst xs) ∧ xs.length < sizeLine ∧ 0 ≤ i ∧ i < 2 ^ 63 ∧ Q .non (upd H l (.lst (xs.take i.toNat ++ [y] ++ xs.drop i.toNat)))) (.cel j) [.dat (.int i), x] ρ k := fun as σ H G v vs e r1 r2 Q q => by
  cases r2 with
  | cons ri r2 =>
    have ri := Rep.intE ri
    subst ri
    obtain ⟨G2, e2, g2, r3⟩ := fz.run e r2
    obtain ⟨a, ha, rfl⟩ := r1
    cases r3 with
    | cons y z =>
      cases z
      obtain ⟨_, _, g, ws, hw, hr⟩ := e2.ce j _ a hc ha
      refine ⟨a, ws, i, _, rfl, rfl, hw, szbl (by rw [hr.length]; omega), i0, by omega, q _ _ _ as _ G2 hk (e2.setC hc ha g ⟨g, _, upd_same, ?_⟩) g2 Rep.non⟩
      exact ((hr.take _).append (.cons y .nil)).append (hr.drop _)
def frzK (k : AV → En → Prop) : AV → En → Prop := fun av ρ' => ∃ j ds, av = .cel j ∧ ρ'.ce[j]? = some (.lst ds) ∧ k (.dat (.lst ds)) (ρ'.frz j ds)
theorem got_frz {as : List Addr} {σ : L2.St} {G : Hp} {Q : VK} (q : Got K F ρ as σ G k Q) : Got K F ρ as σ G (frzK k) Q := fun av ρ' v as' H' G' ⟨j, ds, ea, hc, hk⟩ e' g' ra => by
  subst ea
  obtain ⟨a, ha, rfl⟩ := ra
  obtain ⟨vs, e2, g2, rr⟩ := e'.frz hc ha
  exact q _ _ _ as' H' _ hk e2 (g'.trans g2) rr
/-- a new list that nobody writes to is data at once -/
theorem wr_frz {r : R2} {x y : AV} (h : WpR K F r x y ρ (frzK k)) : WpR K F r x y ρ k := fun as σ H G vx vy e r1 r2 Q q => h as σ H G vx vy e r1 r2 Q (got_frz q)
/-- a cell that nobody writes to any more is data -/
theorem ws_frz {t : TS} {ks : KS} {j : Nat} {ds : List D} (hj : ρ.ce[j]? = some (.lst ds)) (h : WpS K F t (ρ.frz j ds) ks) : WpS K F t ρ ks := fun as σ H G e D q => by
  have hl : j < as.length := by rw [e.ln]; exact (List.getElem?_eq_some_iff.mp hj).1
  obtain ⟨vs, e2, g2, _⟩ := e.frz hj (List.getElem?_eq_getElem hl)
  exact h as σ H _ e2 D (EndsOk.grow K F q g2)
end
/-! ### things of which the address is known: pointers to them are data -/
section
variable {K : PySem.W.Frag} {F : Fx} {ρ : En} {k : AV → En → Prop} {ks : KS} {te ta tv : TE} {t : TA}
/-- the tagged cell of a list or an object of scalars and pointers -/
def tagC (p : Addr) : Cell → Option CellX
  | .lst ds => if atoms ds = true then some (lstX p ds) else none
  | .ins C ns ds => if atoms ds = true then some (insX p C ns ds) else none
  | _ => none
theorem tagC_ok {G H : Hp} {p : Addr} {c : Cell} {X : CellX} (h : tagC p c = some X) (ok : CellOk K G H p c) : CellOk K G H p (.oth X) := by
  cases c with
  | lst ds =>
    have h : (if atoms ds = true then some (lstX p ds) else none) = some X := h
    by_cases q : atoms ds = true
    · rw [if_pos q] at h
      cases h
      obtain ⟨g, vs, hv, hr⟩ := ok
      exact ⟨g, _, hv, rfl, vs, rfl, fun K' G' => Reps.atoms q hr⟩
    · rw [if_neg q] at h; cases h
  | ins C ns ds =>
    have h : (if atoms ds = true then some (insX p C ns ds) else none) = some X := h
    by_cases q : atoms ds = true
    · rw [if_pos q] at h
      cases h
      obtain ⟨g, dx, vs, hv, ln, hr⟩ := ok
      exact ⟨g, _, hv, rfl, dx, vs, rfl, ln, fun K' G' => Reps.atoms q hr⟩
    · rw [if_neg q] at h; cases h
  | _ => cases h
/-- a cell is told by its address -/
theorem we_ptr (h : WpE K F te ρ fun y ρ1 => ∃ (m : Nat) (c0 : Cell), y = .cel m ∧ ρ1.ce[m]? = some c0 ∧ (tagC 0 c0).isSome = true ∧ ∀ p X, tagC p c0 = some X → k (.dat (.cls p)) (ρ1.cell m (.oth X))) : WpE K F te ρ k := fun as σ H G e Q q =>
  h as σ H G e Q fun y ρ1 v as1 H1 G1 ⟨m, c0, ey, hc, hs, hk⟩ e1 g1 r1 => by
    subst ey
    obtain ⟨a, ha, rfl⟩ := r1
    obtain ⟨X, hX⟩ : ∃ X, tagC a c0 = some X := by
      cases c0 with
      | lst ds =>
        have hs : (if atoms ds = true then some (lstX 0 ds) else none).isSome = true := hs
        by_cases q : atoms ds = true
        · exact ⟨_, if_pos q⟩
        · rw [if_neg q] at hs; cases hs
      | ins C ns ds =>
        have hs : (if atoms ds = true then some (insX 0 C ns ds) else none).isSome = true := hs
        by_cases q : atoms ds = true
        · exact ⟨_, if_pos q⟩
        · rw [if_neg q] at hs; cases hs
      | _ => cases hs
    refine q _ _ _ as1 H1 G1 (hk a X hX) (e1.recell hc fun b hb ok => ?_) g1 (Rep.cls a)
    rw [ha] at hb
    cases hb
    exact tagC_ok hX ok
/-- an append through a pointer -/
theorem we_bmT {r : V → List V → Hp → VK → Prop} (h : WpE K F ta ρ fun x ρ1 => (∃ (j : Nat) (c : Addr) (ds : List D), x = .dat (.cls c) ∧ ρ1.ce[j]? = some (Cell.oth (lstX c ds))) ∧ WpA K F t ρ1 fun xs ρ2 => WpM K F r x xs ρ2 k) : WpE K F (tBM K "list" r ta t) ρ k := fun as σ H G e Q q =>
  h as σ H G e _ fun x ρ1 vx as1 H1 G1 ⟨⟨j, c, ds, ex, hc⟩, h1⟩ e1 g1 r1 => by
    subst ex
    obtain ⟨a, vs, rfl, hs, _⟩ := (IsL.tag hc).rep e1 r1
    exact ⟨.inl ⟨rfl, vs, hs⟩, h1 as1 σ H1 G1 e1 _ fun xs ρ2 vs as2 H2 G2 h2 e2 g2 r2 => h2 as2 σ H2 G2 _ vs e2 (r1.mono g2) r2 Q (q.imp (g1.trans g2) fun _ _ z => z)⟩
theorem wm_appendT {j : Nat} {c : Addr} {ds : List D} {d : D} (hc : ρ.ce[j]? = some (.oth (lstX c ds))) (hd : atom d = true) (hl : ds.length < 16000000) (hk : k (.dat .non) (ρ.cell j (.oth (lstX c (ds ++ [d]))))) : WpM K F rAppend (.dat (.cls c)) [.dat d] ρ k := fun as σ H G v vs e r1 r2 Q q => by
  cases (show Rep K G (.cls c) v from r1)
  cases r2 with
  | cons ra rb =>
    cases rb
    obtain ⟨a, ha⟩ : ∃ a, as[j]? = some a := ⟨_, List.getElem?_eq_getElem (by rw [e.ln]; exact (List.getElem?_eq_some_iff.mp hc).1)⟩
    obtain ⟨_, _, g, o, ho, rfl, ws, rfl, hr⟩ := e.ce _ _ a hc ha
    have ra' : Rep K G d _ := ra
    exact ⟨a, ws, _, rfl, rfl, ho, szbl (by rw [(hr K G).length]; omega), q _ _ _ as _ G hk (e.setC hc ha g ⟨g, _, upd_same, rfl, _, rfl, fun K' G' => (hr K' G').append (.cons (Rep.atom hd ra') .nil)⟩) .refl Rep.non⟩
/-- a field is set through a pointer -/
theorem ws_fsetT {f : Str} (h : WpE K F tv ρ fun y ρ1 => WpE K F ta ρ1 fun x ρ2 => ∃ (j : Nat) (g C : Addr) (ns : List Str) (ds : List D) (d : D), x = .dat (.cls g) ∧ y = .dat d ∧ atom d = true ∧ ρ2.ce[j]? = some (Cell.oth (insX g C ns ds)) ∧ Cls K C ∧ NoAttr K C f ∧ Nat.ble ns.length 900 = true ∧ ks.nx (ρ2.cell j (.oth (insX g C (putN f ns) (putD f d ns ds))))) : WpS K F (sFld K ta tv f) ρ ks := fun as σ H G e D q =>
  h as σ H G e _ fun y ρ1 vy as1 H1 G1 h1 e1 g1 r1 => h1 as1 σ H1 G1 e1 _ fun x ρ2 vx as2 H2 G2 ⟨j, g, C, ns, ds, d, ex, ey, hd, hc, cl, na, hl, hk⟩ e2 g2 r2 => by
    subst ex ey
    cases (show Rep K G2 (.cls g) vx from r2)
    have ry : Rep K G1 d vy := r1
    obtain ⟨a, ha⟩ : ∃ a, as2[j]? = some a := ⟨_, List.getElem?_eq_getElem (by rw [e2.ln]; exact (List.getElem?_eq_some_iff.mp hc).1)⟩
    obtain ⟨_, _, gn, o, ho, rfl, dx, vs, rfl, ln, hr⟩ := e2.ce _ _ a hc ha
    obtain ⟨ws, ez, ln2, hr2⟩ := put_zip (f := f) ry (hr K G1) ln
    have hl := Nat.le_of_ble_eq_true hl
    refine ⟨a, C, dx, ns.zip vs, rfl, ho, cl, na, by rw [List.length_zip]; omega, ?_⟩
    rw [ez]
    refine q.nx _ as2 σ _ G2 hk (e2.setO hc ha gn ⟨gn, _, upd_same, rfl, dx, ws, rfl, ln2, fun K' G' => ?_⟩) (g1.trans g2)
    obtain ⟨ws', ez', _, hr2'⟩ := put_zip (f := f) (Rep.atom (K' := K') (G' := G') hd ry) (hr K' G') ln
    have : ws' = ws := by
      have e3 : (putN f ns).zip ws' = (putN f ns).zip ws := ez'.symm.trans ez
      have l1 := hr2'.length
      have l2 := hr2.length
      have := congrArg (List.map Prod.snd) e3
      rw [List.map_snd_zip (by omega), List.map_snd_zip (by omega)] at this
      exact this
    subst this
    exact hr2'
/-- x.f += a number, through a pointer -/
theorem ws_fldaugT {f : Str} {m : Int} (h : WpE K F ta ρ fun x ρ1 => ∃ (j : Nat) (g C : Addr) (ns : List Str) (ds : List D) (n : Int), x = .dat (.cls g) ∧ ρ1.ce[j]? = some (Cell.oth (insX g C ns ds)) ∧ Cls K C ∧ NoAttr K C f ∧ lookD ns ds f = some (.int n) ∧ Nat.ble ns.length 900 = true ∧ ks.nx (ρ1.cell j (.oth (insX g C (putN f ns) (putD f (.int (n + m)) ns ds))))) : WpS K F (sFldAug K ta (tC (.int m)) rAdd f) ρ ks := fun as σ H G e D q =>
  h as σ H G e _ fun x ρ1 vx as1 H1 G1 ⟨j, g, C, ns, ds, n, ex, hc, cl, na, lk, hl, hk⟩ e1 g1 r1 => by
    subst ex
    cases (show Rep K G1 (.cls g) vx from r1)
    obtain ⟨a, ha⟩ : ∃ a, as1[j]? = some a := ⟨_, List.getElem?_eq_getElem (by rw [e1.ln]; exact (List.getElem?_eq_some_iff.mp hc).1)⟩
    obtain ⟨_, _, gn, o, ho, rfl, dx, vs, rfl, ln, hr⟩ := e1.ce _ _ a hc ha
    obtain ⟨v, hvl, rv⟩ := look_rep (hr K G1) lk
    have ev : v = .int n := Rep.intE rv
    subst ev
    obtain ⟨ws, ez, ln2, hr2⟩ := put_zip (f := f) (K := K) (G := G1) (Rep.int (n + m)) (hr K G1) ln
    have hl := Nat.le_of_ble_eq_true hl
    refine ⟨a, C, dx, ns.zip vs, _, rfl, ho, cl, na, hvl, n, m, rfl, rfl, dx, ns.zip vs, ho, by rw [List.length_zip]; omega, ?_⟩
    rw [ez]
    refine q.nx _ as1 σ _ G1 hk (e1.setO hc ha gn ⟨gn, _, upd_same, rfl, dx, ws, rfl, ln2, fun K' G' => ?_⟩) g1
    obtain ⟨ws', ez', _, hr2'⟩ := put_zip (f := f) (Rep.int (K := K') (G := G') (n + m)) (hr K' G') ln
    have : ws' = ws := by
      have e3 : (putN f ns).zip ws' = (putN f ns).zip ws := ez'.symm.trans ez
      have l1 := hr2'.length
      have l2 := hr2.length
      have := congrArg (List.map Prod.snd) e3
      rw [List.map_snd_zip (by omega), List.map_snd_zip (by omega)] at this
      exact this
    subst this
    exact hr2'
/-! calls: cells are lent, pointers to them are handed in as data -/
def setAll : List Cell → List Nat → List Cell → List Cell
  | ce, j :: js, c :: cs => setAll (ce.set j c) js cs
  | ce, _, _ => ce
def En.cells (ρ : En) (js : List Nat) (cs : List Cell) : En := ⟨ρ.sl, setAll ρ.ce js cs⟩
theorem setAll_len : ∀ (ce : List Cell) (js : List Nat) (cs : List Cell), (setAll ce js cs).length = ce.length
  | _, [], _ => by unfold setAll; rfl
  | _, _ :: _, [] => rfl
  | ce, j :: js, c :: cs => by rw [setAll, setAll_len, List.length_set]
theorem setAll_out : ∀ (ce : List Cell) (js : List Nat) (cs : List Cell) (i : Nat), i ∉ js → (setAll ce js cs)[i]? = ce[i]?
  | _, [], _, _, _ => by unfold setAll; rfl
  | _, _ :: _, [], _, _ => rfl
  | ce, j :: js, c :: cs, i, h => by
    rw [List.mem_cons, not_or] at h
    rw [setAll, setAll_out _ js cs i h.2, List.getElem?_set_ne (fun z => h.1 z.symm)]
theorem setAll_in : ∀ (ce : List Cell) (js : List Nat) (cs : List Cell) (m i : Nat) (c : Cell), js.Nodup → i < ce.length → js[m]? = some i → cs[m]? = some c → (setAll ce js cs)[i]? = some c
  | _, [], _, _, _, _, _, _, h, _ => by simp at h
  | _, _ :: _, [], _, _, _, _, _, _, h => by simp at h
  | ce, j :: js, c :: cs, 0, i, c2, nd, hl, h1, h2 => by
    simp at h1 h2
    subst h1 h2
    rw [setAll, setAll_out _ _ _ _ (List.nodup_cons.mp nd).1, List.getElem?_set_self hl]
  | ce, j :: js, c :: cs, m + 1, i, c2, nd, hl, h1, h2 => by
    rw [setAll]
    exact setAll_in _ js cs m i c2 (List.nodup_cons.mp nd).2 (by rw [List.length_set]; exact hl) (by simpa using h1) (by simpa using h2)
def isRegC : Cell → Bool
  | .reg _ _ => true
  | _ => false
def aftP (ρ : En) (js : List Nat) (k : AV → En → Prop) (r : RV) (cs : List Cell) : Prop := noGone cs = true ∧ cs.all (fun c => !isRegC c) = true ∧ match r with
  | .dat d => k (.dat d) (ρ.cells js cs)
  | .new es => k (.cel ρ.ce.length) ((ρ.cells js cs).add es)
  | .prt as1 es bs1 => k (.tup (as1.map .dat ++ .cel ρ.ce.length :: bs1.map .dat)) ((ρ.cells js cs).add es)
  | .ext d X => k (.dat d) ((ρ.cells js cs).addT X)
  | .reg X => k (.cel ρ.ce.length) ((ρ.cells js cs).addX X)
theorem isRegC_no {c : Cell} (h : (!isRegC c) = true) : ∀ t X, c ≠ .reg t X := fun t X z => by subst z; cases h
theorem wspP {W : PW0} {E : L2.St → XK} {ds : List D} {js : List Nat} {cs : List Cell} {exc : Addr → Prop} (hX : ∀ C σ H, exc C → Same F.Fr H → E σ (.ref C) none H) (hj : js.map (fun j => ρ.ce[j]?) = cs.map some) (nd : js.Nodup) (nr : cs.all (fun c => !isRegC c) = true) (hw : W (ds.map .dat) cs (fun r cs' => aftP ρ js k r cs') exc) : WpSp K F (spG K W) E (ds.map .dat) ρ k := by
  intro as σ H G vs e rx Q q
  have ln : js.length = cs.length := by have := congrArg List.length hj; simpa using this
  have cat : ∀ (m : Nat) (j : Nat), js[m]? = some j → ∃ c, cs[m]? = some c ∧ ρ.ce[j]? = some c := fun m j h => by
    have h1 : (js.map (fun j => ρ.ce[j]?))[m]? = some ρ.ce[j]? := by rw [List.getElem?_map, h]; rfl
    rw [hj, List.getElem?_map] at h1
    obtain ⟨c, hc, ec⟩ := Option.map_eq_some_iff.mp h1
    exact ⟨c, hc, ec.symm⟩
  have inb : ∀ j ∈ js, j < as.length := fun j h => by
    obtain ⟨m, hm⟩ := List.getElem?_of_mem h
    obtain ⟨c, _, h2⟩ := cat m j hm
    rw [e.ln]
    exact (List.getElem?_eq_some_iff.mp h2).1
  -- their places
  let bs : List Addr := js.map fun j => as.getD j 0
  have bat : ∀ (m j : Nat), js[m]? = some j → ∃ a, bs[m]? = some a ∧ as[j]? = some a := fun m j h => by
    have hl := inb j (List.mem_of_getElem? h)
    refine ⟨as[j], ?_, List.getElem?_eq_getElem hl⟩
    show (js.map fun j => as.getD j 0)[m]? = _
    rw [List.getElem?_map, h]
    show some (as.getD j 0) = _
    rw [List.getD_eq_getElem?_getD, List.getElem?_eq_getElem hl]
    rfl
  have bof : ∀ (m : Nat) (a : Addr), bs[m]? = some a → ∃ j, js[m]? = some j ∧ as[j]? = some a := fun m a h => by
    have h : (js.map fun j => as.getD j 0)[m]? = some a := h
    rw [List.getElem?_map] at h
    obtain ⟨j, hm, ej⟩ := Option.map_eq_some_iff.mp h
    obtain ⟨a2, x, y⟩ := bat m j hm
    have x : (js.map fun j => as.getD j 0)[m]? = some a2 := x
    rw [List.getElem?_map, hm] at x
    have : as.getD j 0 = a2 := Option.some.inj x
    rw [ej] at this
    exact ⟨j, hm, by rw [this]; exact y⟩
  have inj : ∀ {i l : Nat} {c : Addr}, as[i]? = some c → as[l]? = some c → i = l := fun h1 h2 => (List.getElem?_inj (List.getElem?_eq_some_iff.mp h1).1 e.nd).mp (h1.trans h2.symm)
  have bmem : ∀ {i : Nat} {a : Addr}, as[i]? = some a → a ∈ bs → i ∈ js := fun {i a} h m => by
    obtain ⟨l, hl⟩ := List.getElem?_of_mem m
    obtain ⟨j, h1, h2⟩ := bof l a hl
    rw [inj h h2]
    exact List.mem_of_getElem? h1
  have bnd : bs.Nodup := by
    refine List.pairwise_iff_getElem.mpr fun m n hm hn hmn z => ?_
    have hn' : n < js.length := by have : bs.length = js.length := List.length_map ..; omega
    have z : bs[m]? = bs[n]? := by rw [List.getElem?_eq_getElem hm, List.getElem?_eq_getElem hn, z]
    obtain ⟨j1, h1⟩ : ∃ j, js[m]? = some j := ⟨_, List.getElem?_eq_getElem (by omega)⟩
    obtain ⟨j2, h2⟩ : ∃ j, js[n]? = some j := ⟨_, List.getElem?_eq_getElem hn'⟩
    obtain ⟨a1, x1, y1⟩ := bat m j1 h1
    obtain ⟨a2, x2, y2⟩ := bat n j2 h2
    rw [x1, x2] at z
    have := Option.some.inj z
    subst this
    have := inj y1 y2
    subst this
    have := (List.getElem?_inj (by omega) nd).mp (h1.trans h2.symm)
    omega
  have frF : ∀ {b : Addr} {o : HO}, F.Fr b = some o → b ∉ bs := fun {b o} h m => by
    obtain ⟨l, hl⟩ := List.getElem?_of_mem m
    obtain ⟨j, h1, h2⟩ := bof l b hl
    obtain ⟨c, h3, h4⟩ := cat l j h1
    rw [(e.ce j c b h4 h2).1] at h
    cases h
  have rl : RepAs K G bs (ds.map .dat) vs := by
    have main : ∀ (es : List D) (ws : List V), RepAs K G as (es.map .dat) ws → RepAs K G bs (es.map .dat) ws := by
      intro es
      induction es with
      | nil => intro ws r; cases r; exact .nil
      | cons d es ih => intro ws r; cases r with | cons a b => exact .cons a (ih _ b)
    exact main ds vs rx
  have nrc : ∀ (m : Nat) t X, cs[m]? ≠ some (Cell.reg t X) := fun m t X z => isRegC_no (List.all_eq_true.mp nr _ (List.mem_of_getElem? z)) t X rfl
  obtain ⟨Ts0, r0⟩ := e.rg
  refine ⟨G, bs, fun _ _ => none, ds.map .dat, cs, _, exc, e.gh, ⟨by rw [← ln]; exact List.length_map .., bnd, fun m c a hc ha => ?_⟩, RegsAt.no nrc, rl, hw, ?_, fun C H' hc fr => hX C σ H' hc fun b o h => fr b o (frF h) (fun _ => rfl) (e.fh _ _ h)⟩
  · obtain ⟨j, h1, h2⟩ := bof m a ha
    obtain ⟨c2, h3, h4⟩ := cat m j h1
    rw [hc] at h3
    cases h3
    exact (e.ce j c a h4 h2).2
  rintro r cs' v H' G' Ts' ⟨ng, nr', hp⟩ fr sG gh' nw ck rg' nwT rr
  have fr' : ∀ b o, b ∉ bs → H b = some o → H' b = some o := fun b o n h => fr b o n (fun _ => rfl) h
  have gn : ∀ {b : Addr} {o : HO}, H b = some o → G b = none → G' b = none := fun {b o} ho g => by
    cases z : G' b with
    | none => rfl
    | some o2 =>
      rcases nw b o2 z with y | y | ⟨_, y⟩
      · rw [g] at y; cases y
      · rw [ho] at y; cases y
      · exact absurd rfl y
  have ln' : bs.length = cs'.length := ck.ln
  have blen : bs.length = js.length := List.length_map ..
  have regI : ∀ {i : Nat} {b : Addr} {o : HO}, Ts0 i b = some o → b ∉ bs := fun {i b o} h m => by
    obtain ⟨l, hl⟩ := List.getElem?_of_mem m
    obtain ⟨j, h1, h2⟩ := bof l b hl
    have := (r0.pl i b o h).2.2.2 j h2
    subst this
    obtain ⟨t, X, z⟩ := r0.is h
    obtain ⟨c, h3, h4⟩ := cat l j h1
    rw [h4] at z
    cases z
    exact nrc l t X h3
  have rN : RegsAt Ts0 F.Fr G' H' as (setAll ρ.ce js cs') := by
    have r1 := r0.same (Fr' := F.Fr) (G' := G') (H' := H') (fun i b o h hb => fr' b o (regI h) hb) (fun b o ho g => gn ho g) (fun _ z => z) fun _ _ z => .inl (sG _ _ z)
    have same : ∀ (i : Nat) t X, (setAll ρ.ce js cs')[i]? = some (Cell.reg t X) ↔ ρ.ce[i]? = some (Cell.reg t X) := fun i t X => by
      by_cases m : i ∈ js
      · obtain ⟨l, hl⟩ := List.getElem?_of_mem m
        obtain ⟨c, h3, h4⟩ := cat l i hl
        have ll : l < cs'.length := by rw [← ln', blen]; exact (List.getElem?_eq_some_iff.mp hl).1
        rw [setAll_in ρ.ce js cs' l i cs'[l] nd (by rw [← e.ln]; exact inb i m) hl (List.getElem?_eq_getElem ll), h4]
        refine ⟨fun z => ?_, fun z => ?_⟩
        · exact absurd (Option.some.inj z) (isRegC_no (List.all_eq_true.mp nr' _ (List.getElem_mem ll)) t X)
        · cases z; exact absurd h3 (nrc l t X)
      · rw [setAll_out _ _ _ _ m]
    exact ⟨fun i h b => r1.em i (fun t X z => h t X ((same i t X).mpr z)) b, r1.dj, r1.pl, fun i t X a hc ha => r1.ok i t X a ((same i t X).mp hc) ha⟩
  have e' : EnvOk K F (ρ.cells js cs') as σ H' G' := by
    refine ⟨gh', fun b o h => fr' b o (frF h) (e.fh _ _ h), fun b o h => ?_, Same.trans e.g0 sG, e.nd, e.pr, by rw [e.ln]; exact (setAll_len ..).symm, fun i c2 b hc hb => ?_, e.sn, fun i av hi => ?_, ⟨_, rN⟩⟩
    · rcases nw b o h with y | y | ⟨_, y⟩
      · exact e.fg _ _ y
      · exact .inr (Same.none e.fh y)
      · exact absurd rfl y
    · have hc' : (setAll ρ.ce js cs')[i]? = some c2 := hc
      by_cases m : i ∈ js
      · obtain ⟨l, hl⟩ := List.getElem?_of_mem m
        obtain ⟨c, h3, h4⟩ := cat l i hl
        obtain ⟨a, x1, x2⟩ := bat l i hl
        rw [hb] at x2
        cases x2
        have ll : l < cs'.length := by rw [← ln', blen]; exact (List.getElem?_eq_some_iff.mp hl).1
        rw [setAll_in ρ.ce js cs' l i cs'[l] nd (by rw [← e.ln]; exact inb i m) hl (List.getElem?_eq_getElem ll)] at hc'
        cases hc'
        obtain ⟨h5, h6⟩ := ck.ok l _ b (List.getElem?_eq_getElem ll) x1
        exact ⟨(e.ce i c b h4 hb).1, h5, h6⟩
      · rw [setAll_out _ _ _ _ m] at hc'
        obtain ⟨fb, ⟨o, ho⟩, okb⟩ := e.ce i c2 b hc' hb
        have nb : b ∉ bs := fun z => m (bmem hb z)
        refine ⟨fb, ⟨o, fr' _ _ nb ho⟩, ?_⟩
        cases c2 with
        | gone => trivial
        | reg t X => exact gn ho okb
        | lst es => obtain ⟨g, ws, hw, r⟩ := okb; exact ⟨gn ho g, ws, fr' _ _ nb hw, Reps.mono sG _ _ r⟩
        | ins C9 ns9 es => obtain ⟨g, dx9, ws, hw, ln9, r⟩ := okb; exact ⟨gn ho g, dx9, ws, fr' _ _ nb hw, ln9, Reps.mono sG _ _ r⟩
        | drw => obtain ⟨g, ws, hw, r⟩ := okb; exact ⟨gn ho g, ws, fr' _ _ nb hw, r⟩
        | oth X => obtain ⟨g, o9, hw, r⟩ := okb; exact ⟨gn ho g, o9, fr' _ _ nb hw, X.mono (fun _ _ z => .inl (sG _ _ z)) r⟩
    · obtain ⟨v, hv, r⟩ := e.sl i av hi
      exact ⟨v, hv, r.mono ⟨sG, [], by simp⟩⟩
  have eln : as.length = (ρ.cells js cs').ce.length := e'.ln
  have eln2 : as.length = ρ.ce.length := e.ln
  have newF : ∀ {p : Addr}, NewA H bs (fun _ _ => none) p → F.Fr p = none ∧ p ∉ as ∧ ∀ i, Ts0 i p = none := fun {p} ⟨h1, _⟩ => by
    have h1 : H p = none := h1.elim id fun ⟨_, z⟩ => absurd rfl z
    refine ⟨Same.none e.fh h1, fun m => ?_, fun i => ?_⟩
    · obtain ⟨i, hi⟩ := List.getElem?_of_mem m
      have hil : i < ρ.ce.length := by rw [← e.ln]; exact (List.getElem?_eq_some_iff.mp hi).1
      obtain ⟨_, ⟨o, ho⟩, _⟩ := e.ce i _ p (List.getElem?_eq_getElem hil) hi
      rw [ho] at h1
      cases h1
    · cases z : Ts0 i p with
      | none => rfl
      | some o => rw [(r0.pl i p o z).1] at h1; cases h1
  cases r with
  | dat d => exact q _ _ v as H' G' hp e' ⟨sG, [], by simp⟩ rr
  | ext d X =>
    obtain ⟨rd2, p, o, hp0, tz0, gp, ho, okX⟩ := rr
    obtain ⟨f1, f2, f3⟩ := newF hp0
    exact q _ _ _ _ H' G' hp (e'.ownT ho gp f1 f2 ⟨_, rN, f3⟩ okX) ⟨sG, [p], rfl⟩ rd2
  | reg X =>
    obtain ⟨p, T, rfl, hp0, tz0, gp, ho, okX, ht⟩ := rr
    obtain ⟨f1, f2, f3⟩ := newF hp0
    exact q _ _ _ _ H' G' hp (e'.ownX rN ho gp f1 f2 f3 okX fun b o hb => by
      obtain ⟨h1, h2, h3, h4⟩ := ht b o hb
      obtain ⟨x1, x2, x3⟩ := newF h3
      exact ⟨h1, h2, x1, x2, x3⟩) ⟨sG, [p], rfl⟩ (RepA.last eln2)
  | prt as1 es bs1 =>
    obtain ⟨t, p, w1, w2, ws, rfl, sq, ra1, ra2, hp0, tz0, gp, hp1, hr⟩ := rr
    obtain ⟨f1, f2, f3⟩ := newF hp0
    refine q _ _ _ _ H' G' hp (e'.ownC hp1 gp f1 f2 ⟨_, rN, f3⟩ hr) ⟨sG, [p], rfl⟩ ⟨t, _, rfl, sq, ?_⟩
    exact TNs.append (TNs.of ra1) (.cons (.cel (by rw [List.getElem?_append_right (by rw [e.ln]; exact Nat.le_refl _), e.ln, Nat.sub_self]; rfl)) (TNs.of ra2))
  | new es =>
    obtain ⟨p, ws, rfl, hp0, tz0, gp, hp1, hr⟩ := rr
    obtain ⟨f1, f2, f3⟩ := newF hp0
    exact q _ _ _ _ H' G' hp (e'.ownC hp1 gp f1 f2 ⟨_, rN, f3⟩ hr) ⟨sG, [p], rfl⟩ (RepA.last e.ln)
/-- .. its errors are let out; .. it lets none out -/
theorem wspPX {W : PW0} {ds : List D} {js : List Nat} {cs : List Cell} (hj : js.map (fun j => ρ.ce[j]?) = cs.map some) (nd : js.Nodup) (nr : cs.all (fun c => !isRegC c) = true) (hw : W (ds.map .dat) cs (fun r cs' => aftP ρ js k r cs') F.ex) : WpSp K F (spG K W) (fun _ => F.E) (ds.map .dat) ρ k := wspP (fun C _ H hc s => F.hE C H hc s) hj nd nr hw
theorem wspP0 {W : PW0} {E : L2.St → XK} {ds : List D} {js : List Nat} {cs : List Cell} (hj : js.map (fun j => ρ.ce[j]?) = cs.map some) (nd : js.Nodup) (nr : cs.all (fun c => !isRegC c) = true) (hw : W (ds.map .dat) cs (fun r cs' => aftP ρ js k r cs') (fun _ => False)) : WpSp K F (spG K W) E (ds.map .dat) ρ k := wspP (fun _ _ _ z _ => z.elim) hj nd nr hw
/-- a pointer is lent to be read -/
inductive Ptr (j : Nat) (c : Addr) : List AV → List AV → Prop
  | nil : Ptr j c [] []
  | same {x : AV} {xs ys : List AV} : Ptr j c xs ys → Ptr j c (x :: xs) (x :: ys)
  | ptr {xs ys : List AV} : Ptr j c xs ys → Ptr j c (.dat (.cls c) :: xs) (.cel j :: ys)
theorem atoms_int (ns : List Int) : atoms (ns.map D.int) = true := by
  induction ns with
  | nil => rfl
  | cons x ns ih => exact ih
theorem wsp_untag {sp : Sp} {E : L2.St → XK} {xs ys : List AV} {j : Nat} {c : Addr} {ds : List D} (hc : ρ.ce[j]? = some (.oth (lstX c ds))) (hd : atoms ds = true) (hp : Ptr j c xs ys) (h : WpSp K F sp E ys (ρ.cell j (.lst ds)) fun av ρ2 => ρ2.ce[j]? = some (.lst ds) ∧ k av (ρ2.cell j (.oth (lstX c ds)))) : WpSp K F sp E xs ρ k := fun as σ H G vs e r Q q => by
  obtain ⟨a, ha⟩ : ∃ a, as[j]? = some a := ⟨_, List.getElem?_eq_getElem (by rw [e.ln]; exact (List.getElem?_eq_some_iff.mp hc).1)⟩
  obtain ⟨_, _, _, o, ho, ea, us, eo, hr⟩ := e.ce j _ a hc ha
  subst ea eo
  have e1 : EnvOk K F (ρ.cell j (.lst ds)) as σ H G := e.recell hc fun b hb ok => by
    rw [ha] at hb
    cases hb
    exact ⟨ok.1, us, ho, hr K G⟩
  have r1 : ∀ {xs ys : List AV}, Ptr j a xs ys → ∀ {vs : List V}, RepAs K G as xs vs → RepAs K G as ys vs := fun hq => by
    induction hq with
    | nil => exact fun r => r
    | same _ ih => exact fun r => by cases r with | cons x y => exact .cons x (ih y)
    | ptr _ ih =>
      exact fun r => by
        cases r with
        | cons x y =>
          cases (show Rep K G (.cls a) _ from x)
          exact .cons ⟨a, ha, rfl⟩ (ih y)
  refine h as σ H G vs e1 (r1 hp r) Q fun av ρ2 v as2 H2 G2 ⟨h1, h2⟩ e2 g2 r2 => ?_
  have ha2 : as2[j]? = some a := by
    obtain ⟨_, rr, rfl⟩ := g2
    rw [List.getElem?_append_left (List.getElem?_eq_some_iff.mp ha).1]
    exact ha
  refine q av _ v as2 H2 G2 h2 (e2.recell h1 fun b hb ok => ?_) g2 r2
  rw [ha2] at hb
  cases hb
  exact tagC_ok (show tagC a (.lst ds) = some (lstX a ds) from if_pos hd) ok
end
/-! ### a lambda without parameters that a def calls in a try: what its making leaves, told to the place -/
section
open LamX
/-- the table at P stands, or tells one code object more, which is new -/
inductive Grown (q : Str) (P : Addr) (G0 : Hp) : Hp → Addr → Prop
  | hit {z : Addr} {ps : Array Value} {po : Pos} : G0 P = some (.tbl ps) → codeAmong po ps.toList = some (.ref z) → Grown q P G0 G0 z
  | new {z : Addr} {ps : Array Value} {po : Pos} : G0 P = some (.tbl ps) → G0 z = none → Grown q P G0 (upd (upd G0 P (.tbl (ps ++ #[rawInt po.line, rawInt po.col, .ref z]))) z (CodeO z q)) z
theorem lam_made {X : Cx} {pins : List (Addr × Obj)} {u : L2.St} {G : Hp} {sh : Shared} {c P : Addr} {q : Str} {ar : Arguments} {bd : Expr} {sc : Scope} {po : Pos} {E Q : Value → Shared → Prop} (J : Inv X pins u G sh) (tb : TabB X.base X.mg c P) (hc : X.env.code = .ref c) (eq : X.env.qual ++ "<lambda>" = q) (ht : TabS G P q)
    (hd : defaultsOf ar X.env = ([], [])) (hf : ∀ y ∈ sc.names, y.2 = .free → ∃ z, X.env.cells.lookup y.1 = some z)
    (go : ∀ (f z : Addr) (pm ct : Value) (G1 : Hp) (s1 : Shared), Inv X pins u G1 s1 → Grown q P G G1 z → G1 z = some (CodeO z q) → s1.heap.get? f = some (PySem.W.kla_obj "<lambda>" q ar bd sc (cloFrom X.env.cells sc.names []) pm z ct) → G1 f = none → f ∉ frs X.stack → Q (.ref f) s1) :
    wpAny (model X.prog X.w) X.A (eval (.Lambda ar bd sc po) X.env) Q E sh := by
  subst eq
  obtain ⟨ps, gP, tr, al⟩ := ht
  have hbu : sh.heap.BuiltinsAt X.mg P := tb.bm.keeps J.bk
  have hp1 : sh.heap.get? P = some { cls := .none, data := .fields ps } := J.hok P _ gP
  have out : ∀ f, sh.heap.objs.size ≤ f → f ∉ frs X.stack := by
    intro f le mem
    rcases List.mem_cons.mp (J.stkSub _ mem) with y | y
    · have l1 := J.lt
      rw [← y] at l1
      exact absurd (Nat.lt_of_lt_of_le l1 le) (Nat.lt_irrefl _)
    · exact J.nofs le y
  refine PySem.W.kla_eval hd ?_
  rcases hcs : codeAmong po ps.toList with _ | cv
  · refine PySem.W.kla_makeFunction (mg := X.mg) (c := c) (P := P) (ps := ps) (closure_ok hf) J.ok.glob (J.mod.glob.keeps J.bk) hc (tb.code.keeps J.bk) hp1 tr hcs tb.gP hbu ?_
    intro z ct h1 tk ex ge lt rec ntb
    obtain ⟨z2, oz, vs, t, ez, hz, dz, nz⟩ := rec
    cases ez
    have le1 : sh.heap.objs.size ≤ h1.objs.size := by omega
    have zn : G z = none := J.hok.fresh ge
    refine go h1.objs.size z ((X.mg "__name__").getD .none) ct _ _ (inv_table (t' := tk) (more := #[rawInt po.line, rawInt po.col, .ref z]) (h' := h1.push (PySem.W.kla_obj "<lambda>" (X.env.qual ++ "<lambda>") ar bd sc (cloFrom X.env.cells sc.names []) ((X.mg "__name__").getD .none) z ct)) J gP ?_ (Heap.get?_push_of_some _ ntb) ge ⟨oz, vs, t, Heap.get?_push_of_some _ hz, dz, nz⟩) (.new gP zn) upd_same (Heap.get?_push_size _ rfl) ?_ (out _ le1)
    · exact fun b o nb eb => Heap.get?_push_of_some _ (ex b o nb eb)
    · have d1 : h1.objs.size ≠ z := fun y => absurd (y ▸ lt) (Nat.lt_irrefl _)
      have d2 : h1.objs.size ≠ P := fun y => absurd (Nat.lt_of_lt_of_le (Heap.lt_size hp1) (y ▸ le1)) (Nat.lt_irrefl _)
      rw [upd_ne d1, upd_ne d2]
      exact J.hok.fresh le1
  · obtain ⟨z, rfl, zc⟩ := al po cv hcs
    refine PySem.W.kla_makeFunctionHit (mg := X.mg) (c := c) (P := P) (ps := ps) (closure_ok hf) J.ok.glob (J.mod.glob.keeps J.bk) hc (tb.code.keeps J.bk) hp1 tr hcs hbu ?_
    intro ct h1 tk ex le1
    exact go h1.objs.size z ((X.mg "__name__").getD .none) ct G _ (J.kept (t' := tk) fun b o eb => Heap.get?_push_of_some _ (ex b o eb)) (.hit gP hcs) zc (Heap.get?_push_size _ rfl) (J.hok.fresh le1) (out _ le1)
/-- what the def reads that calls the lambda at its first slot -/
def tAct (f z : Addr) (q : Str) (r : XK → Hp → VK → Prop) (W : WX) : TE := fun u G Q => u[0]? = some (some (.ref f)) ∧ G z = some (CodeO z q) ∧ r (WE W u) G Q
theorem pe_actW {X : Cx} {pins : List (Addr × Obj)} {u : L2.St} {G : Hp} {sh : Shared} {Ng : List Str} {qg : Str} {sg : Scope} {g f z : Addr} {cdg pm ct : Value} {ar : Arguments} {bd : Expr} {sc : Scope} {k : Nat} {a : Str} {pn : List (Addr × Obj)} {xe : Value → Shared → Prop} {W : WX} {tl : XK → TE} {p1 p2 : Pos}
    (J : Inv X pins u G sh) (L : LamS X.env.scope sc) (of : sh.heap.get? f = some (PySem.W.kla_obj "<lambda>" (X.env.qual ++ "<lambda>") ar bd sc (cloFrom X.env.cells sc.names []) pm z ct)) (nf : G f = none) (nfr : f ∉ frs X.stack)
    (bi : bindArgs (PySem.W.kla_fn "<lambda>" (X.env.qual ++ "<lambda>") ar bd sc (cloFrom X.env.cells sc.names []) pm (.ref z) ct) ⟨[], []⟩ = pure [])
    (tk : Takes ((cxOf C8.CX0 X.prog X.w X.K X.mg X.base Ng qg sg g cdg X.A X.stack sh G C8.E0).nox.tr pn xe) W) (rm : Room (k + 1) (X.A.deeper (envOfC qg sg sh.heap.objs.size g cdg)))
    (by_ : ∀ (A : Around) (outer : List Env) (s : Shared) (H : Hp) (E : XK), Room k (A.deeper (lamEnv X sc s.heap.objs.size f z)) → PE (lamCx X A outer s H E sc f z) bd (tl E))
    (hN : Ng[0]? = some a) (hv : Vis sg a) (n1 : (a == ("__debug__" : Str)) = false := by decide) (n2 : (a == ("__classdict__" : Str)) = false := by decide) :
    PE ((cxOf C8.CX0 X.prog X.w X.K X.mg X.base Ng qg sg g cdg X.A X.stack sh G C8.E0).nox.tr pn xe) (.Call (.Name a p1) [] [] p2) (tAct f z (X.env.qual ++ "<lambda>") (fun E H Q => tl E u H Q) W) := by
  constructor
  rintro pinsZ sZ uZ GZ Q IZ ⟨at0, atz, ht⟩
  refine wpAny_Call_Name_kw (thn ((pe_var (pos := p1) (i := 0) hN hv n1 n2).run pinsZ sZ uZ GZ (fun v G1 => v = .ref f ∧ G1 = GZ) IZ ⟨.ref f, at0, rfl, rfl⟩) ?_)
  rintro y s1 ⟨v, G1, I1, r1, ev, eG⟩
  subst ev
  subst eG
  obtain rfl : y = Value.ref f := r1
  have of1 := I1.base.keep f _ of nf nfr (fun z => nomatch (show f ∈ ([] : List Addr) from z))
  refine PySem.W.callWith_F0 ⟨_, _, _, _, of1⟩ ?_
  obtain ⟨⟨oz, vs, t, hz, dz, nz⟩, _, _⟩ := I1.hok z _ atz
  refine wpAny_call (codeAny_mono (R := CR (L2.CX X.prog X.w) (envOfC qg sg sh.heap.objs.size g cdg :: X.stack) X.prog X.w G1 s1 Q (WE W uZ)) ?_ fun r s' hq => ?_)
  · show codeAny (model X.prog X.w) (X.A.deeper (envOfC qg sg sh.heap.objs.size g cdg)) (.call (.ref f) ⟨[], []⟩) _ s1
    refine PySem.W.kla_callFunE rm.depth of1 rfl L.co L.gen rfl ⟨z, oz, vs, t, rfl, hz, dz, nz⟩ ?_
    rw [bi]
    refine wpAny_pure (wpAny_newFunctionEnv (fun y hy => (L.own y hy).2) (fun y hy => absurd hy (by simp)) (fun h1 ns1 sb1 => ⟨I1.nolimit.fresh _ sb1, ?_⟩) L.kind)
    have kp : ∀ b o, s1.heap.get? b = some o → h1.get? b = some o := by
      intro b o eb
      exact sb1.extBut b o (Nat.ne_of_lt (Heap.lt_size eb)) (Heap.get?_push_of_some _ eb)
    refine PySem.W.kla_codeExpr (wpAny_mono ((by_ _ _ s1 G1 (WE W uZ) (rm.deeper _)).run [] _ _ G1 Q (lam_start2 (tk := s1.toks + ([] : List (Str × Value)).length) J L I1.env0 rm.hd I1.base ns1 kp) ht) ?_ fun _ _ y => y)
    rintro y s2 ⟨w2, G2, J2, rv, q2⟩
    exact ⟨w2, G2, J2.os, J2.bare, J2.base, J2.hok, rv, q2⟩
  · cases r with
    | error er => exact (passAt tk uZ) pinsZ G1 s1 er s' I1 hq
    | ok fl =>
      cases fl with
      | ret y => exact I1.after hq
      | next => exact hq.elim
      | brk => exact hq.elim
      | cont => exact hq.elim
/-- x(lambda: ..): TT is what x makes of the lambda's reading -/
def tLamW (P : Addr) (q : Str) (TT : (XK → Hp → VK → Prop) → Addr → Hp → VK → Prop) (tl : XK → TE) : TE := fun u G Q => TabS G P q ∧ ∀ G1 z, Grown q P G G1 z → G1 z = some (CodeO z q) → TT (fun E H Q' => tl E u H Q') z G1 Q
theorem pe_lamW {X : Cx} {TT : (XK → Hp → VK → Prop) → Addr → Hp → VK → Prop} {x a q : Str} {g c P : Addr} {k : Nat} {stg : Stmt} {fdg : FuncData} {Ng : List Str} {ar : Arguments} {bd : Expr} {sc : Scope} {tl : XK → TE} {p lp po : Pos} (F : Fun X.K x x stg g fdg) (hb : L2.Binds X.K fdg [a] []) (Sg : FnScope Ng [a] (defScope stg)) (hN : Ng[0]? = some a) (hv : Vis (defScope stg) a)
    (hg : Gl X x) (hm : X.mg x = some (.ref g)) (eq : X.env.qual ++ "<lambda>" = q)
    (hG : ∀ (cdg : Value) (f z : Addr) (s : Shared) (H : Hp) (Q : VK) (r : XK → Hp → VK → Prop), (∀ (W : WX) (pn : List (Addr × Obj)) (xe : Value → Shared → Prop) (p1 p2 : Pos), Takes ((cxOf C8.CX0 X.prog X.w X.K X.mg X.base Ng x (defScope stg) g cdg X.A X.stack s H C8.E0).nox.tr pn xe) W → PE ((cxOf C8.CX0 X.prog X.w X.K X.mg X.base Ng x (defScope stg) g cdg X.A X.stack s H C8.E0).nox.tr pn xe) (.Call (.Name a p1) [] [] p2) (tAct f z q r W)) → TT r z H Q →
      ∃ t, PSs (cxOf C8.CX0 X.prog X.w X.K X.mg X.base Ng x (defScope stg) g cdg X.A X.stack s H C8.E0).nox (defBody stg) t ∧ t { nx := fun _ H' => Q .non H', rt := Q } (L2.start Ng [.ref f]) H)
    (tb : TabB X.base X.mg c P) (hc : X.env.code = .ref c) (rm : Room (k + 2) X.A) (L : LamS X.env.scope sc) (hd : defaultsOf ar X.env = ([], []))
    (bi : ∀ (q : Str) (cl : List (Str × Addr)) (pm cv ct : Value), bindArgs (PySem.W.kla_fn "<lambda>" q ar bd sc cl pm cv ct) ⟨[], []⟩ = pure [])
    (by_ : ∀ (A : Around) (outer : List Env) (s : Shared) (H : Hp) (E : XK) (f z : Addr), Room k (A.deeper (lamEnv X sc s.heap.objs.size f z)) → PE (lamCx X A outer s H E sc f z) bd (tl E))
    (n0 : (x == ("__debug__" : Str)) = false := by decide) (n1 : (a == ("__debug__" : Str)) = false := by decide) (n2 : (a == ("__classdict__" : Str)) = false := by decide) :
    PE X (.Call (.Name x p) [.Lambda ar bd sc lp] [] po) (tLamW P q TT tl) := by
  constructor
  rintro pins sh u G Q J ⟨ht, hq0⟩
  refine wpAny_Call_Name_kw (ld_glob J hg hm ?_ n0)
  refine PySem.W.callWith_K (h₀ := X.base) J.ok.mod.kin F.kp ?_ (by rfl) (by rfl)
  show wpAny _ _ (spliced ((false, eval (.Lambda ar bd sc lp) X.env) :: backTo po (starEach [] X.env))) _ _ sh
  refine Calls.spliced_cons (lam_made J tb hc eq ht hd (L.has J.ok) ?_)
  intro f z pm ct G1 s1 J1 gr cz of nf nfr
  refine Calls.spliced_nil ⟨J1.kIn, ?_⟩
  refine wpAny_call (codeAny_mono (R := CR C8.CX0 X.stack X.prog X.w G1 s1 Q C8.E0) ?_ fun r s2 hq => ?_)
  · obtain ⟨oc, od, kV, doc, pm2, an, cdg, ct2, osl, rfl, lk, hcd⟩ := F.ex
    refine run_ofS (N := Ng) (ps := [a]) (us := [.ref f]) (vs := [.ref f]) lk hcd Sg rm J1.env0 (hb s1 [.ref f] J1.kIn rfl) (.cons rfl .nil) rfl fun rm2 => ?_
    subst eq
    obtain ⟨t, pt, qt⟩ := hG cdg f z s1 G1 Q (fun E H Q' => tl E u H Q') (fun W pn xe p1 p2 tk => pe_actW J1 L of nf nfr (bi _ _ _ _ _) tk rm2 (fun A outer s H E rm3 => by_ A outer s H E f z rm3) hN hv n1 n2) (hq0 G1 z gr cz)
    exact ⟨t, pt.nox, qt⟩
  · cases r with
    | error er => exact (show False from hq).elim
    | ok fl =>
      cases fl with
      | ret y => exact J1.after hq
      | next => exact hq.elim
      | brk => exact hq.elim
      | cont => exact hq.elim
end
/-! ### a lambda that a def calls in a try, by data -/
section
open LamX
variable {K : PySem.W.Frag} {F : Fx} {ρ : En} {k : AV → En → Prop}
def lamQ (qual : Str) : Str := qual ++ ".<locals>." ++ "<lambda>"
/-- the table at P of code objects of the name q, all of them frozen -/
def tabX (P : Addr) (q : Str) : CellX where
  ok G a o := a = P ∧ ∃ ps : Array Value, o = .tbl ps ∧ TriplesOk ps.toList ∧ ∀ (po : Pos) (cv : Value), codeAmong po ps.toList = some cv → ∃ c, cv = .ref c ∧ G c = some (CodeO c q)
  mono := by
    intro G G' s a o h
    obtain ⟨ea, ps, eo, tr, al⟩ := h
    refine ⟨ea, ps, eo, tr, fun po cv hc => ?_⟩
    obtain ⟨c, ec, g⟩ := al po cv hc
    refine ⟨c, ec, ?_⟩
    rcases s c _ g with z | ⟨xs, z⟩
    · exact z
    · exact absurd z (by unfold CodeO; exact fun y => by cases y)
theorem upd_swap {H : Hp} {a b : Addr} {x y : HO} (n : a ≠ b) : upd (upd H a x) b y = upd (upd H b y) a x := by
  funext d
  by_cases h1 : d = b
  · subst h1
    rw [upd_same, upd_ne (Ne.symm n), upd_same]
  · by_cases h2 : d = a
    · subst h2
      rw [upd_ne h1, upd_same, upd_same]
    · rw [upd_ne h1, upd_ne h2, upd_ne h2, upd_ne h1]
/-- the table has grown, and the code object is frozen -/
theorem EnvOk.grown {as : List Addr} {σ : L2.St} {H H1 G : Hp} {j : Nat} {P z : Addr} {q : Str} (e : EnvOk K F ρ as σ H G) (hj : ρ.ce[j]? = some (.oth (tabX P q))) (g : Grown q P H H1 z) : ∃ G1, EnvOk K F ρ as σ H1 G1 ∧ Gr G as G1 as ∧ G1 z = some (CodeO z q) := by
  obtain ⟨a, ha⟩ : ∃ a, as[j]? = some a := ⟨_, List.getElem?_eq_getElem (by rw [e.ln]; exact (List.getElem?_eq_some_iff.mp hj).1)⟩
  obtain ⟨_, _, gn, o, ho, ea, ps0, rfl, tr, al⟩ := e.ce j _ a hj ha
  subst ea
  cases g with
  | hit hp hc =>
    rw [ho] at hp
    cases hp
    obtain ⟨c, ec, gc⟩ := al _ _ hc
    cases ec
    exact ⟨G, e, .refl, gc⟩
  | @new _ ps po hp hz =>
    rw [ho] at hp
    cases hp
    have ne : z ≠ a := fun y => by rw [y, ho] at hz; cases hz
    obtain ⟨e1, g1⟩ := e.newG (o := CodeO z q) hz
    have e2 := e1.setO (o := .tbl (ps0 ++ #[rawInt po.line, rawInt po.col, .ref z])) (c' := .oth (tabX a q)) hj ha (by rw [upd_ne (Ne.symm ne)]; exact gn) ⟨by rw [upd_ne (Ne.symm ne)]; exact gn, _, upd_same, rfl, _, rfl, ?_, fun po2 cv hc => ?_⟩
    · rw [upd_swap ne] at e2
      have es : (⟨ρ.sl, ρ.ce.set j (.oth (tabX a q))⟩ : En) = ρ := by
        obtain ⟨sl, ce⟩ := ρ
        have hl : j < ce.length := (List.getElem?_eq_some_iff.mp hj).1
        have he : ce[j] = .oth (tabX a q) := (List.getElem?_eq_some_iff.mp hj).2
        show En.mk sl (ce.set j _) = _
        rw [← he, List.set_getElem_self]
      rw [es] at e2
      exact ⟨_, e2, g1, upd_same⟩
    · rw [show (ps0 ++ #[rawInt po.line, rawInt po.col, Value.ref z]).toList = ps0.toList ++ [rawInt po.line, rawInt po.col, Value.ref z] by simp]
      exact PySem.TriplesOk_snoc _ _ _ _ tr
    · rw [show (ps0 ++ #[rawInt po.line, rawInt po.col, Value.ref z]).toList = ps0.toList ++ [rawInt po.line, rawInt po.col, Value.ref z] by simp] at hc
      rcases among_app _ tr hc with y | y
      · obtain ⟨c, ec, gc⟩ := al po2 cv y
        exact ⟨c, ec, by rw [upd_ne (ne_of_none gc (Same.none e.gh hz))]; exact gc⟩
      · exact ⟨z, y, upd_same⟩
theorem EnvOk.tabS {as : List Addr} {σ : L2.St} {H G : Hp} {j : Nat} {P : Addr} {q : Str} (e : EnvOk K F ρ as σ H G) (hj : ρ.ce[j]? = some (.oth (tabX P q))) : TabS H P q := by
  obtain ⟨a, ha⟩ : ∃ a, as[j]? = some a := ⟨_, List.getElem?_eq_getElem (by rw [e.ln]; exact (List.getElem?_eq_some_iff.mp hj).1)⟩
  obtain ⟨_, _, _, o, ho, ea, ps0, rfl, tr, al⟩ := e.ce j _ a hj ha
  subst ea
  refine ⟨ps0, ho, tr, fun po cv hc => ?_⟩
  obtain ⟨c, ec, gc⟩ := al po cv hc
  exact ⟨c, ec, e.gh _ _ gc⟩
/-- the same cells, other slots -/
theorem EnvOk.slots {F' : Fx} {ρ' : En} {as : List Addr} {σ σ' : L2.St} {H G : Hp} (e : EnvOk K F ρ as σ H G) (hF : F'.Fr = F.Fr) (hG : F'.G0 = F.G0) (ha : F'.as0 = F.as0) (hc : ρ'.ce = ρ.ce) (hn : σ'.length = ρ'.sl.length) (hs : ∀ (i : Nat) (av : AV), ρ'.sl[i]? = some (some av) → ∃ v : V, σ'[i]? = some (some v) ∧ RepA K G as av v) : EnvOk K F' ρ' as σ' H G :=
  ⟨e.gh, by rw [hF]; exact e.fh, by rw [hF, hG]; exact e.fg, by rw [hG]; exact e.g0, e.nd, by rw [ha]; exact e.pr, by rw [hc]; exact e.ln, fun j c a h1 h2 => by rw [hF]; rw [hc] at h1; exact e.ce j c a h1 h2, hn, hs, by rw [hF, hc]; exact e.rg⟩
/-- what a def makes of a lambda that says try: return (w, a()), then clauses that tell each their own -/
def TTry (K : PySem.W.Frag) (Ng : List Str) (w : Str) (q : Str) (l : List (Value × Option Nat × Suite)) : (XK → Hp → VK → Prop) → Addr → Hp → VK → Prop := fun r z H Q =>
  ∀ f : Addr, tTry K (fun W => tRet (tTup (tCons (tC (.str w)) (tCons (tAct f z q r W) tNil)))) (fun _ _ _ _ => False) l { nx := fun _ H' => Q .non H', rt := Q } (L2.start Ng [.ref f]) H
def ksW (ρ : En) (k : AV → En → Prop) : KS where
  nx := fun _ => False
  rt := fun x ρ' => ρ'.ce = ρ.ce ∧ ∃ d, x = .dat d ∧ k (.dat d) ρ
  bk := fun _ => False
  ct := fun _ => False
theorem we_lamW {P : Addr} {q w : Str} {j : Nat} {Ng : List Str} {l : List (Value × Option Nat × Suite)} {tl : XK → TE} (xc : Addr → Prop) (hN : Ng.length = 2) (hj : ρ.ce[j]? = some (.oth (tabX P q)))
    (hb : ∀ (F1 : Fx) (E : XK), (∀ C as σ H G, xc C → EnvOk K F1 ρ as σ H G → E (.ref C) none H) → WpE K F1 (tl E) ρ fun x ρ' => ρ' = ρ ∧ ∃ d, x = .dat d ∧ k (.dat (.tup [.str w, d])) ρ)
    (hs : ∀ (F1 : Fx) (f C : Addr), xc C → Mix K F1 C False l ⟨[some (.dat (.cls f)), none], ρ.ce⟩ (ksW ρ k)) : WpE K F (tLamW P q (TTry K Ng w q l) tl) ρ k := fun as σ H G e Q qq => by
  refine ⟨e.tabS hj, fun H1 z gr _ f => ?_⟩
  obtain ⟨G1, e1, g1, gz⟩ := e.grown hj gr
  have hu : L2.start Ng [V.ref f] = [some (V.ref f), none] := by
    unfold L2.start
    rw [List.length_singleton, hN]
    rfl
  let F1 : Fx := ⟨F.Fr, G1, F.E, F.ex, F.hE, fun _ => False, as⟩
  have f1 : EnvOk K F1 ρ as σ H1 G1 := ⟨e1.gh, e1.fh, fun a o h => .inl h, Same.refl _, e1.nd, List.prefix_refl _, e1.ln, e1.ce, e1.sn, e1.sl, e1.rg⟩
  -- back to the maker
  have back : ∀ {ρ' : En} {as' : List Addr} {σ' : L2.St} {H' G' : Hp}, ρ'.ce = ρ.ce → EnvOk K F1 ρ' as' σ' H' G' → EnvOk K F ρ as' σ H' G' ∧ Gr G as G' as' := by
    intro ρ' as' σ' H' G' hc x
    have gr2 : Gr G1 as G' as' := by
      obtain ⟨r, hr⟩ := x.pr
      exact ⟨x.g0, r, hr.symm⟩
    refine ⟨⟨x.gh, x.fh, fun a o h => ?_, Same.trans e1.g0 x.g0, x.nd, e1.pr.trans x.pr, by rw [x.ln, hc], fun j c a h1 h2 => x.ce j c a (by rw [hc]; exact h1) h2, e1.sn, fun i av hi => ?_, ?_⟩, g1.trans gr2⟩
    · rcases x.fg a o h with y | y
      · exact e1.fg a o y
      · exact .inr y
    · obtain ⟨v, hv, r⟩ := e1.sl i av hi
      exact ⟨v, hv, r.mono gr2⟩
    · rw [← hc]; exact x.rg
  have done : ∀ {ρ' : En} {as' : List Addr} {σ' : L2.St} {H' G' : Hp} {d : D} {v : V}, ρ'.ce = ρ.ce → k (.dat d) ρ → EnvOk K F1 ρ' as' σ' H' G' → Rep K G' d v → Q v H' := by
    intro ρ' as' σ' H' G' d v hc hk x r
    obtain ⟨b1, b2⟩ := back hc x
    exact qq _ _ _ _ _ _ hk b1 b2 r
  show (tRet (tTup (tCons (tC (.str w)) (tCons (tAct f z q (fun E H Q' => tl E σ H Q') (wMix K (fun _ _ _ _ => False) { nx := fun _ H' => Q .non H', rt := Q } l)) tNil)))) { nx := fun _ H' => Q .non H', rt := Q } (L2.start Ng [.ref f]) H1
  rw [hu]
  refine ⟨rfl, e1.gh _ _ gz, ?_⟩
  refine hb F1 _ (fun C as' σ' H' G' hC x => ?_) as σ H1 G1 f1 _ ?_
  · have y : EnvOk K F1 ⟨[some (.dat (.cls f)), none], ρ.ce⟩ as' [some (V.ref f), none] H' G' := x.slots rfl rfl rfl rfl rfl fun i av hi => by
      cases i with
      | zero => cases hi; exact ⟨_, rfl, Rep.cls f⟩
      | succ i =>
        cases i with
        | zero => cases hi
        | succ i => simp at hi
    refine Mix.run (as0 := as') (G0 := G') y (fun z => z.elim) ?_ (hs F1 f C hC)
    exact ⟨fun _ _ _ _ _ z => z.elim, fun av ρ2 v as2 σ2 H2 G2 ⟨hc, d, ed, hk⟩ x2 _ r2 => by subst ed; exact done hc hk x2 r2, fun _ _ _ _ _ z => z.elim, fun _ _ _ _ _ z => z.elim  , fun _ _ z => z.elim⟩
  · exact fun x ρ' v as' H' G' ⟨er, d, ed, hk⟩ x2 g2 r2 => by
      subst er ed
      refine ⟨by rw [sizeLine_eq]; exact (by decide : 2 ≤ 16777216), fun p hp => ?_⟩
      obtain ⟨x3, g3⟩ := x2.newG (o := .tup [.str w, v]) hp
      exact done rfl hk x3 (Rep.tup (SqT.of upd_same) (.cons (.str w) (.cons (Rep.mono g3.1 _ _ r2) .nil)))
end
/-- arguments as data -/
local macro_rules | `(tactic| walk_at "as") => `(tactic| first
  | exact AsD.nil
  | (apply AsD.dat; walk_at "as")
  | (apply AsD.cel rfl; walk_at "as")
  | fail)
local macro_rules | `(tactic| walk_at "fz") => `(tactic| first
  | exact Frz.nil
  | (apply Frz.dat; walk_at "fz")
  | (apply Frz.cel rfl; walk_at "fz")
  | (apply Frz.ins rfl; walk_at "fz")
  | fail)
local macro_rules | `(tactic| walk_at "il") => `(tactic| first
  | exact IsL.dat _
  | exact IsL.cel rfl
  | exact IsL.scr _
  | fail)
local macro_rules | `(tactic| walk_at "od") => `(tactic| first
  | exact OfD.dat _
  | exact OfD.cel rfl
  | fail)
local macro_rules | `(tactic| walk_at "on") => `(tactic| first
  | exact only_name (by simp)
  | (refine only_tup ?_; repeat first | exact onlys_nil | refine onlys_cons (by simp) ?_)
  | fail)
/-- a call: its arguments as data -/
local macro_rules | `(tactic| walk_at "c") => `(tactic| (refine' wspE ?q1 ?z9; (case q1 => walk_at "as")))
local macro_rules | `(tactic| walk_at "cx") => `(tactic| (refine' wspX ?q1 ?z9; (case q1 => walk_at "as")))
local macro_rules | `(tactic| walk_at "al") => `(tactic| first
  | exact AsL.nil
  | (apply AsL.dat; walk_at "al")
  | (apply AsL.own; walk_at "al")
  | (apply AsL.cel (Nat.ne_of_beq_eq_false rfl) rfl; walk_at "al")
  | fail)
/-- a call that is lent a cell -/
local macro_rules | `(tactic| walk_at "c1") => `(tactic| (refine' wsp1 ?q1 ?q2 ?q3 ?z9; (case q1 => rfl); (case q2 => rfl); (case q3 => rfl)))
local macro_rules | `(tactic| walk_at "c2") => `(tactic| (refine' wsp2 ?q1 ?q2 ?q3 ?z9; (case q1 => rfl); (case q2 => rfl); (case q3 => walk_at "al")))
local macro_rules | `(tactic| walk_at "cd") => `(tactic| (refine' wspD ?q1 ?q2 ?z9; (case q2 => walk_at "al"); (case q1 => rfl)))
/-- one step by data -/
local macro_rules | `(tactic| walk_at "d") => `(tactic| first
  | with_reducible refine ws_seq ?_
  | with_reducible refine ws_asg ?_
  | with_reducible refine ws_ret ?_
  | with_reducible refine ws_if ?_
  | with_reducible refine ws_drop ?_
  | with_reducible refine ws_par ?_
  | with_reducible refine ws_next ?_
  | with_reducible refine ws_retN ?_
  | with_reducible refine ws_break ?_
  | with_reducible refine ws_cont ?_
  | with_reducible refine ws_for ?_
  | ((with_reducible refine' we_var ?v1 ?z9); (case v1 => exact rfl))
  | with_reducible refine we_ci ?_
  | with_reducible refine we_cs ?_
  | with_reducible refine we_cn ?_
  | with_reducible refine we_cb ?_
  | with_reducible refine we_ct ?_
  | with_reducible refine we_op ?_
  | with_reducible refine we_un ?_
  | with_reducible refine we_tCB ?_
  | with_reducible refine wa_nil ?_
  | with_reducible refine wa_cons ?_
  | with_reducible refine we_andV ?_
  | with_reducible refine we_orV ?_
  | with_reducible refine we_notV ?_
  | with_reducible refine we_if ?_
  | with_reducible refine wt_test ?_
  | with_reducible refine wt_B ?_
  | with_reducible refine wt_and ?_
  | with_reducible refine wt_or ?_
  | with_reducible refine wt_not ?_
  | with_reducible refine wt_yes ?_
  | with_reducible refine wt_tru ?_
  | with_reducible refine we_tup ?_
  | with_reducible refine we_lst ?_
  | with_reducible refine we_call ?_
  | with_reducible refine we_callS ?_
  | with_reducible refine wo_none ?_
  | with_reducible refine wo_some ?_
  | with_reducible refine wi_rng1 ?_
  | with_reducible refine wi_rng2 ?_
  | with_reducible refine wg_name ?_
  | with_reducible refine wg_sub ?_
  | with_reducible refine wgs_nil ?_
  | with_reducible refine wgs_cons ?_
  | with_reducible refine wgs_consM ?_
  | with_reducible refine wgs_nilM ?_
  | with_reducible refine wr_I0i ?_
  | with_reducible refine wr_I0b ?_
  | with_reducible refine wr_isN ?_
  | with_reducible refine wr_notN ?_
  | with_reducible refine wr_isB ?_
  | with_reducible refine wr_isnotB ?_
  | (with_reducible refine wu_neg ?_)
  | with_reducible refine wc_abs ?_
  | ((with_reducible refine' wr_eq ?v1 ?z9); (case v1 => exact rfl))
  | ((with_reducible refine' wr_ne ?v1 ?z9); (case v1 => exact rfl))
  | ((with_reducible refine' we_lc ?v0 ?z9); (case v0 => walk_at "on"))
  | ((with_reducible refine' wm_append ?v0 ?v1 ?v2 ?z9); (case v0 => walk_at "fz"); (case v1 => exact rfl))
  | refine we_bm ?_
  | refine we_bm0 ?_
  | refine we_slL ?_
  | refine wi_list ?_
  | refine wi_tup ?_
  | ((refine' wg_tup ?v1 ?z9); (case v1 => exact rfl))
  | ((refine' wr_ixT ?v1 ?z9); (case v1 => exact rfl))
  | ((refine' wr_ixL ?v0 ?v1 ?z9); (case v0 => walk_at "il"); (case v1 => exact rfl))
  | refine wc_lenT ?_
  | ((refine' wc_lenL ?v0 ?z9); (case v0 => walk_at "il"))
  | ((refine' wc_isi ?v0 ?v1 ?z9); (case v0 => simp); (case v1 => exact rfl))
  | ((refine' wc_isiC ?v0 ?v1 ?z9); (case v0 => simp); (case v1 => exact rfl))
  | ((refine' wc_list ?v0 ?z9); (case v0 => walk_at "il"))
  | refine wc_listT ?_
  | ((refine' wc_tuple ?v0 ?z9); (case v0 => walk_at "il"))
  | (first | refine ⟨⟨_, _, rfl, rfl, rfl⟩, ?_⟩ | refine ⟨⟨_, _, rfl, rfl, fun z => by cases z⟩, ?_⟩ | fail)
  | ((with_reducible refine' frz_in ?v0 ?v1 ?z9); (case v0 => walk_at "fz"); (case v1 => exact rfl))
  | ((with_reducible refine' il_in ?v0 ?z9); (case v0 => walk_at "il"))
  | ((with_reducible refine' lc_in ?v0 ?v1 ?v2 ?z9); (case v0 => walk_at "fz"); (case v1 => exact rfl))
  | (refine ⟨_, rfl, ?_⟩)
  | (refine ⟨_, _, rfl, ?_⟩)
  | fail)
/-- steps, and ifs whose test is told -/
local macro_rules | `(tactic| walk_at "D") => `(tactic| repeat (first
  | walk_at "d"
  | refine ifT rfl ?_
  | refine ifF rfl ?_))
/-- the environment written out -/
local macro_rules | `(tactic| walk_at "nrm") => `(tactic| first | (dsimp only [En.put, En.add, En.cell, List.set_cons_zero, List.set_cons_succ, List.cons_append, List.nil_append, List.length_cons, List.length_nil, Nat.zero_add, Nat.reduceAdd]) | skip)

/-- .. with what was frozen and forgotten -/
local macro_rules | `(tactic| walk_at "nr2") => `(tactic| first | (dsimp only [En.start, En.put, En.add, En.cell, En.frz, En.frzD, En.clr, frzA_d, frzA_c, mapC, mapN, Option.map_some, Option.map_none, List.set_cons_zero, List.set_cons_succ, List.cons_append, List.nil_append, List.length_cons, List.length_nil, Nat.zero_add, Nat.reduceAdd, Nat.reduceSub, List.replicate_succ, List.replicate_zero, ↓reduceIte, Nat.reduceEqDiff, reduceCtorEq]) | skip)

local macro_rules | `(tactic| walk_at "nr4") => `(tactic| first | (simp only [En.start, En.put, En.add, En.cell, En.frz, En.frzD, En.clr, frzA_d, frzA_c, mapC, mapN, Option.map_some, Option.map_none, List.set_cons_zero, List.set_cons_succ, List.cons_append, List.nil_append, List.length_cons, List.length_nil, Nat.zero_add, Nat.reduceAdd, Nat.reduceSub, List.replicate_succ, List.replicate_zero, ↓reduceIte, Nat.reduceEqDiff, reduceCtorEq, Nat.succ_ne_self]) | skip)
section
variable {P : Program} {w : World} {K : PySem.W.Frag} {mg : Str → Option Value} {base : Heap}
/-! ### a drawn figure, of a base up to 2 ^ 34 -/
theorem lg_wide {b : Int} (b0 : 0 < b) (b1 : b < 17179869184) : b.natAbs.log2 < 9000 := by
  have h : b.natAbs.log2 < 34 := (Nat.log2_lt (by omega)).mpr (by omega)
  omega
def wDigit : PW0 := fun xs cs post _ => ∃ b : Int, xs = [.cel 0, .dat (.int b)] ∧ cs = [.drw] ∧ 0 < b ∧ b < 17179869184 ∧ ∀ d, 0 ≤ d → d < b → post (.dat (.int d)) [.drw]
def wDigit0 : PW0 := fun xs cs post _ => ∃ b : Int, xs = [.cel 0, .dat (.int b)] ∧ cs = [.drw] ∧ 0 < b ∧ b < 17179869184 ∧ ∀ d x y z, 0 ≤ d → d < b → post (.dat (.int d)) [.lst [.int x, .int y, .int z]]
theorem digit0_of {vs : List V} {H : Hp} {Q : VK} {E : XK} (h : spG K wDigit vs H Q E) : spG K wDigit0 vs H Q E := by
  obtain ⟨G, as, Ts, xs, cs, post, exc, gh, ok, rg, rx, ⟨b, rfl, rfl, b0, b1, hp⟩, hq, he⟩ := h
  refine ⟨G, as, Ts, _, _, fun r cs' => ∃ (d x y z : Int), r = .dat (.int d) ∧ cs' = [.lst [.int x, .int y, .int z]] ∧ 0 ≤ d ∧ d < b, exc, gh, ok, rg, rx, ⟨b, rfl, rfl, b0, b1, fun d x y z d0 d1 => ⟨d, x, y, z, rfl, rfl, d0, d1⟩⟩, ?_, he⟩
  rintro r cs' v H' G' Ts' ⟨d, x, y, z, rfl, rfl, d0, d1⟩ fr sG gh' nw ck rg' nwT rr
  refine hq _ _ v H' G' Ts' (hp d d0 d1) fr sG gh' nw ⟨ck.ln, ck.nd, fun j c a hc ha => ?_⟩ (rg'.noreg (fun j t X z => by cases j <;> simp at z) fun j t X z => by cases j <;> simp at z) nwT rr
  cases j with
  | zero =>
    cases hc
    obtain ⟨h1, g, ws, hw, hr⟩ := ck.ok 0 _ a rfl ha
    refine ⟨h1, g, ws, hw, ?_⟩
    obtain ⟨v1, w1, rfl, r1, hr⟩ := hr.consE
    obtain ⟨v2, w2, rfl, r2, hr⟩ := hr.consE
    obtain ⟨v3, w3, rfl, r3, hr⟩ := hr.consE
    rw [hr.nilE, r1.intE, r2.intE, r3.intE]
    exact .inr ⟨_, _, _, rfl⟩
  | succ j => simp at hc
theorem ok_l_digit (T : Txt K mg) : FnOk P w K mg base CX0 1 T.a_l_digit T.d_l_digit ["_law_state", "_law_base"] (spG K wDigit) := by
  refine FnOk.imp (sp := spG K wDigit0) ?_ (fun vs H Q E h => digit0_of h)
  refine T.F_l_digit.ok sc_l_digit (fun vs H Q E h => spG_len h fun xs cs post exc ⟨b, e, _⟩ => by rw [e]; rfl) (fun cdv A outer s H vs Q E hr h => ⟨_, (pss_cons (ps_if (pt_cmpR op_eq (pe_callB call_len_seq (by rfl) T.m_len (by decide +kernel) (pa_cons (pv 0) pa_nil)) pe_int (nomark _)) (pss_one (ps_expr (pe_bm PySem.F.plainAttrs_list PySem.F.slot_list_extend PySem.F.type_list_extend mt_extend (pv 0) (pa_cons (pe_lst (pa_cons (pe_op op_mod (pe_ix ix_list (pv 0) pe_int (fun _ _ => rfl)) pe_int) (pa_cons pe_int pa_nil))) pa_nil)))) pss_nil)
      (pss_cons (ps_if (pt_cmpR op_ge (pe_ix ix_list (pv 0) pe_int (fun _ _ => rfl)) (pv 1) (nomark _)) (pss_cons (ps_set (i := 2) sc_l_digit.nd rfl (Or.inl rfl) (pe_op op_mod (pe_ix ix_list (pv 0) pe_int (fun _ _ => rfl)) (pv 1)))
      (pss_cons (ps_asg (pe_op op_fdivW (pe_ix ix_list (pv 0) pe_int (fun _ _ => rfl)) (pv 1)) (pg_sub (pv 0) pe_int set_list))
      (pss_one (ps_ret (pv 2))))) pss_nil)
      (pss_cons (ps_asg (pe_op op_add (pe_ix ix_list (pv 0) pe_int (fun _ _ => rfl)) pe_int) (pg_sub (pv 0) pe_int set_list))
      (pss_cons (ps_set (i := 3) sc_l_digit.nd rfl (Or.inl rfl) (pe_op op_mod (pe_op op_mul (pe_op op_add (pe_op op_add (pe_ix ix_list (pv 0) pe_int (fun _ _ => rfl)) (pe_op op_mul pe_int (pe_ix ix_list (pv 0) pe_int (fun _ _ => rfl)))) pe_int) pe_int) pe_int))
      (pss_cons (ps_set (i := 3) sc_l_digit.nd rfl (Or.inl rfl) (pe_op op_mod (pe_op op_mul (pv 3) (pe_op op_add (pe_op op_fdivW (pv 3) pe_int) pe_int)) pe_int))
      (pss_one (ps_ret (pe_op op_mod (pe_op op_mod (pe_op op_mul (pv 3) (pe_op op_add (pe_op op_fdivW (pv 3) pe_int) pe_int)) pe_int) (pv 1))))))))), enter h fun F xs cs post hE hw => ?_⟩)
  obtain ⟨b, rfl, rfl, b0, b1, q⟩ := hw
  refine ws_seq ?_
  generalize hR : (tSeq _ _ : TS) = R
  have rest : ∀ (cc : List Cell) (x y z : Int), WpS K F R ⟨[some (.cel 0), some (.dat (.int b)), none, none], .lst [.int x, .int y, .int z] :: cc⟩ (KS.fin 1 post) := by
    intro cc x y z
    subst hR
    walk_at "D"
    refine ifC (fun c => ?_) (fun c => ?_)
    · walk_at "D"
      refine wr_Ii b0 ?_
      walk_at "D"
      refine wr_Ii ⟨b0, lg_wide b0 b1⟩ ?_
      walk_at "D"
      refine sub_in rfl rfl (by walk_at "fz") rfl (m := 0) rfl ?_
      walk_at "D"
      exact fin_dat rfl (q _ _ _ _ (Int.emod_nonneg _ (by omega)) (Int.emod_lt_of_pos _ b0))
    · walk_at "D"
      refine sub_in rfl rfl (by walk_at "fz") rfl (m := 2) rfl ?_
      walk_at "D"
      refine wr_Ii (.inl (by decide)) ?_
      walk_at "D"
      refine wr_Ii (.inr (by decide)) ?_
      walk_at "D"
      refine wr_Ii (by decide) ?_
      have n0 := Int.emod_nonneg ((y + 7919 * (z + 1) + 1) * 48271) (show (2147483647 : Int) ≠ 0 by decide)
      have n1 := Int.emod_lt_of_pos ((y + 7919 * (z + 1) + 1) * 48271) (show (0 : Int) < 2147483647 by decide)
      walk_at "D"
      generalize (y + 7919 * (z + 1) + 1) * 48271 % 2147483647 = n at *
      refine wr_Ii ⟨by decide, by decide⟩ ?_
      walk_at "D"
      refine wr_Ii (.inl ⟨by omega, by omega⟩) ?_
      walk_at "D"
      refine wr_Ii (by decide) ?_
      have m0 := Int.emod_nonneg (n * (n / 1009 + 69621)) (show (2147483647 : Int) ≠ 0 by decide)
      have m1 := Int.emod_lt_of_pos (n * (n / 1009 + 69621)) (show (0 : Int) < 2147483647 by decide)
      walk_at "D"
      generalize n * (n / 1009 + 69621) % 2147483647 = m at *
      walk_at "D"
      refine wr_Ii ⟨by decide, by decide⟩ ?_
      walk_at "D"
      refine wr_Ii (.inl ⟨by omega, by omega⟩) ?_
      walk_at "D"
      refine wr_Ii (by decide) ?_
      walk_at "D"
      refine wr_Ii b0 ?_
      exact fin_dat rfl (q _ _ _ _ (Int.emod_nonneg _ (by omega)) (Int.emod_lt_of_pos _ b0))
  refine ws_drwO (j := 0) rfl (fun x => ?_) (fun x y z => ?_)
  · walk_at "D"
    refine wr_Ii (by decide) ?_
    walk_at "D"
    refine wm_extend (.cel (j := 1) rfl) rfl (by simp) ?_
    walk_at "D"
    exact rest _ _ _ _
  · walk_at "D"
    exact rest _ _ _ _
theorem wsp_digit {K : PySem.W.Frag} {F : Fx} {ρ : En} {k : AV → En → Prop} {E : L2.St → XK} {j : Nat} {b : Int} (hj : ρ.ce[j]? = some .drw) (b0 : 0 < b) (b1 : b < 17179869184) (h : ∀ d, 0 ≤ d → d < b → k (.dat (.int d)) ρ) : WpSp K F (spG K wDigit) E [.cel j, .dat (.int b)] ρ k :=
  wspD hj (.own (.dat .nil)) ⟨b, rfl, rfl, b0, b1, fun d d0 d1 => ⟨rfl, by show (onlyC j [.cel j, .dat (.int b)] || hard (.int d)) = true; rw [show hard (.int d) = true from rfl, Bool.or_true], h d d0 d1⟩⟩
/-! ### plain data -/
mutual
def pl : D → Bool
  | .tup ds => pls ds
  | .lst ds => pls ds
  | .scr _ => false
  | .obj _ _ _ => false
  | .ty _ => false
  | .cls _ => false
  | _ => true
def pls : List D → Bool
  | [] => true
  | d :: ds => pl d && pls ds
end
theorem pl_ty {d : D} (h : pl d = true) : (tyD d).isSome = true := by cases d <;> first | rfl | (simp [pl] at h)
theorem pls_cons {d : D} {ds : List D} (h : pls (d :: ds) = true) : pl d = true ∧ pls ds = true := by rw [pls, Bool.and_eq_true] at h; exact h
theorem pls_mem {ds : List D} (h : pls ds = true) : ∀ d ∈ ds, pl d = true := by
  induction ds with
  | nil => intro d m; cases m
  | cons e ds ih =>
    intro d m
    obtain ⟨a, b⟩ := pls_cons h
    rcases List.mem_cons.mp m with rfl | m
    · exact a
    · exact ih b d m
def isInt : D → Bool
  | .int _ => true
  | _ => false
def wNumber : PW0 := fun xs cs post _ => ∃ d, xs = [.dat d] ∧ cs = [] ∧ pl d = true ∧ post (.dat (.bl (isInt d))) []
theorem ok_is_number (T : Txt K mg) : FnOk P w K mg base CX0 1 T.a_is_number T.d_is_number ["thing"] (spG K wNumber) := by
  refine T.F_is_number.ok sc_is_number (fun vs H Q E h => spG_len h fun xs cs post exc ⟨a, e, _⟩ => by rw [e]; rfl) (fun cdv A outer s H vs Q E hr h => ⟨_, (pss_one (ps_ret (pe_and (pe_callB call_isi (by rfl) T.m_isinstance (by decide +kernel) (pa_cons (pv 0) (pa_cons (pe_bltn (v := .ty "int") (by rfl) T.m_int (by decide +kernel) rfl) pa_nil))) (pe_one (pe_not (pe_callB call_isi (by rfl) T.m_isinstance (by decide +kernel) (pa_cons (pv 0) (pa_cons (pe_bltn (v := .ty "bool") (by rfl) T.m_bool (by decide +kernel) rfl) pa_nil)))))))), enter h fun F xs cs post hE hw => ?_⟩)
  obtain ⟨d, rfl, rfl, hp, q⟩ := hw
  cases d <;> first
    | (exact Bool.noConfusion (show false = true by simpa [pl] using hp))
    | (walk_at "D"; exact fin_dat rfl q)
def wThing (f : D → Bool) : PW0 := fun xs cs post _ => ∃ d, xs = [.dat d] ∧ cs = [] ∧ pl d = true ∧ post (.dat (.bl (f d))) []
/-! ### whole numbers from low to high -/
def inR (lo hi : Int) : D → Bool
  | .int i => decide (lo ≤ i) && decide (i ≤ hi)
  | _ => false
theorem inR_of {lo hi : Int} {d : D} (h : inR lo hi d = true) : ∃ i, d = .int i ∧ lo ≤ i ∧ i ≤ hi := by
  cases d with
  | int i =>
    have h : (decide (lo ≤ i) && decide (i ≤ hi)) = true := h
    rw [Bool.and_eq_true, decide_eq_true_eq, decide_eq_true_eq] at h
    exact ⟨i, rfl, h.1, h.2⟩
  | _ => cases h
theorem inR_int {lo hi i : Int} (h1 : lo ≤ i) (h2 : i ≤ hi) : inR lo hi (.int i) = true := by
  show (decide (lo ≤ i) && decide (i ≤ hi)) = true
  rw [decide_eq_true h1, decide_eq_true h2]; rfl
def wWhole : PW0 := fun xs cs post _ => ∃ (d : D) (lo hi : Int), xs = [.dat d, .dat (.int lo), .dat (.int hi)] ∧ cs = [] ∧ pl d = true ∧ post (.dat (.bl (inR lo hi d))) []
theorem ok_is_whole (T : Txt K mg) : FnOk P w K mg base CX0 2 T.a_is_whole T.d_is_whole ["thing", "low", "high"] (spG K wWhole) := by
  refine T.F_is_whole.ok sc_is_whole (fun vs H Q E h => spG_len h fun xs cs post exc ⟨a, b, c, e, _⟩ => by rw [e]; rfl) (fun cdv A outer s H vs Q E hr h => ⟨_, (pss_one (ps_ret (pe_and (pe_call (ok_is_number T) (hr.mono (by decide)) (by rfl) T.g_is_number T.F_is_number.kp T.b_is_number .nil pass0 (pa_cons (pv 0) pa_nil)) (pe_one (pe_chainI op_le op_le (pv 1) (pv 0) (pv 2) mn_var mn_var mn_var sh_var))))), enter h fun F xs cs post hE hw => ?_⟩)
  obtain ⟨d, lo, hi, rfl, rfl, hp, q⟩ := hw
  walk_at "D"
  walk_at "c"
  refine ⟨d, rfl, rfl, hp, rfl, ?_⟩
  cases d with
  | int i =>
    walk_at "D"
    refine we_chV ?_
    walk_at "D"
    refine ⟨_, _, _, rfl, rfl, rfl, ?_⟩
    exact fin_dat rfl q
  | _ =>
    walk_at "D"
    exact fin_dat rfl q
/-! ### rows of bytes, numbers in them -/
def isRw : D → Bool
  | .lst ds => ds.all (inR 0 255)
  | _ => false
theorem ok_is_bytes (T : Txt K mg) : FnOk P w K mg base CX0 3 T.a_is_bytes T.d_is_bytes ["thing"] (spG K (wThing isRw)) := by
  refine T.F_is_bytes.ok sc_is_bytes (fun vs H Q E h => spG_len h fun xs cs post exc ⟨a, e, _⟩ => by rw [e]; rfl) (fun cdv A outer s H vs Q E hr h => ⟨_, (pss_cons (ps_if (pt_not (pt_val (pe_callB call_isi (by rfl) T.m_isinstance (by decide +kernel) (pa_cons (pv 0) (pa_cons (pe_bltn (v := .ty "list") (by rfl) T.m_list (by decide +kernel) rfl) pa_nil))))) (pss_one (ps_ret pe_bl)) pss_nil)
      (pss_cons (ps_for PassesOwn.never rfl (pi_list (pv 0)) (pg_name (i := 1) sc_is_bytes.nd rfl (Or.inl rfl))
        (pss_one (ps_if (pt_not (pt_val (pe_call (ok_is_whole T) (hr.mono (by decide)) (by rfl) T.g_is_whole T.F_is_whole.kp T.b_is_whole .nil pass0 (pa_cons (pv 1) (pa_cons pe_int (pa_cons pe_int pa_nil)))))) (pss_one (ps_ret pe_bl)) pss_nil)))
      (pss_one (ps_ret pe_bl)))), enter h fun F xs cs post hE hw => ?_⟩)
  obtain ⟨d, rfl, rfl, hp, q⟩ := hw
  cases d with
  | lst ds =>
    have hp : pls ds = true := by rw [pl] at hp; exact hp
    walk_at "D"
    refine loop_by (fun es ρ => ∃ x, ρ = ⟨[some (.dat (.lst ds)), x], []⟩ ∧ pls es = true ∧ post (.dat (.bl (es.all (inR 0 255)))) []) ⟨none, rfl, hp, q⟩ ?_ ?_
    · rintro ρ ⟨x, rfl, _, q⟩
      refine ⟨.dat _, ?_⟩
      walk_at "D"
      exact fin_dat rfl q
    · rintro e es ρ ⟨x, rfl, hp, q⟩
      obtain ⟨pe, hp⟩ := pls_cons hp
      refine ⟨.dat _, ?_⟩
      walk_at "D"
      walk_at "c"
      refine ⟨e, 0, 255, rfl, rfl, pe, rfl, ?_⟩
      rw [List.all_cons] at q
      cases he : inR 0 255 e with
      | false =>
        rw [he] at q
        walk_at "D"
        exact fin_dat rfl q
      | true =>
        rw [he, Bool.true_and] at q
        walk_at "D"
        exact now ⟨_, rfl, hp, q⟩
  | obj => rw [pl] at hp; cases hp
  | scr => rw [pl] at hp; cases hp
  | ty => rw [pl] at hp; cases hp
  | cls => rw [pl] at hp; cases hp
  | _ => walk_at "D"; exact fin_dat rfl q
def wRefBytes (C : Addr) : PW0 := fun xs cs post exc => ∃ d, xs = [.dat d] ∧ cs = [] ∧ pl d = true ∧ (isRw d = true → post (.dat .non) []) ∧ (isRw d = false → exc C)
theorem ok_refuse_no_bytes (T : Txt K mg) : FnOk P w K mg base (L2.CX P w) 4 T.a_refuse_no_bytes T.d_refuse_no_bytes ["row"] (spG K (wRefBytes T.c_NoBytes)) := by
  refine T.F_refuse_no_bytes.okX sc_refuse_no_bytes (fun vs H Q E h => spG_len h fun xs cs post exc ⟨a, e, _⟩ => by rw [e]; rfl) (fun cdv A outer s H vs Q E hr h => ⟨_, (pss_one (ps_if (pt_not (pt_val (pe_call (ok_is_bytes T) (hr.mono (by decide)) (by rfl) T.g_is_bytes T.F_is_bytes.kp T.b_is_bytes .nil pass0 (pa_cons (pv 0) pa_nil)))) (pss_one (ps_raise rfl (takes_of rfl rfl rfl rfl) (pmk_own PySem.F.excBase_ValueError T.x_NoBytes T.g_NoBytes T.k_NoBytes (raises_own T.bb_NoBytes T.t_NoBytes) rfl))) pss_nil)), enter h fun F xs cs post hE hw => ?_⟩)
  subst hE
  obtain ⟨d, rfl, rfl, hp, q, qx⟩ := hw
  walk_at "D"
  walk_at "c"
  refine ⟨d, rfl, rfl, hp, rfl, ?_⟩
  cases hd : isRw d with
  | false =>
    walk_at "D"
    exact ws_exc fun as σ H G D en => F.hE _ H (qx hd) en.fh
  | true =>
    walk_at "D"
    exact ⟨rfl, q hd⟩
def lnR : D → Int
  | .lst ds => (ds.length : Int)
  | _ => 0
def wRefPlace (C1 C2 : Addr) : PW0 := fun xs cs post exc => ∃ d e, xs = [.dat d, .dat e] ∧ cs = [] ∧ pl d = true ∧ pl e = true ∧ (isRw d = false → exc C1) ∧ (isRw d = true → inR 0 (lnR d) e = false → exc C2) ∧ (isRw d = true → inR 0 (lnR d) e = true → post (.dat .non) [])
theorem ok_refuse_no_place (T : Txt K mg) : FnOk P w K mg base (L2.CX P w) 5 T.a_refuse_no_place T.d_refuse_no_place ["row", "at"] (spG K (wRefPlace T.c_NoBytes T.c_NoPlace)) := by
  refine T.F_refuse_no_place.okX sc_refuse_no_place (fun vs H Q E h => spG_len h fun xs cs post exc ⟨a, b, e, _⟩ => by rw [e]; rfl) (fun cdv A outer s H vs Q E hr h => ⟨_, (pss_cons (ps_expr (pe_call (ok_refuse_no_bytes T) (hr.mono (by decide)) (by rfl) T.g_refuse_no_bytes T.F_refuse_no_bytes.kp T.b_refuse_no_bytes .nil (passes_call (takes_of rfl rfl rfl rfl) (fun _ _ _ _ h => h)) (pa_cons (pv 0) pa_nil)))
      (pss_one (ps_if (pt_not (pt_val (pe_call (ok_is_whole T) (hr.mono (by decide)) (by rfl) T.g_is_whole T.F_is_whole.kp T.b_is_whole .nil pass0 (pa_cons (pv 1) (pa_cons pe_int (pa_cons (pe_callB call_len_seq (by rfl) T.m_len (by decide +kernel) (pa_cons (pv 0) pa_nil)) pa_nil)))))) (pss_one (ps_raise rfl (takes_of rfl rfl rfl rfl) (pmk_own PySem.F.excBase_ValueError T.x_NoPlace T.g_NoPlace T.k_NoPlace (raises_own T.bb_NoPlace T.t_NoPlace) rfl))) pss_nil))), enter h fun F xs cs post hE hw => ?_⟩)
  subst hE
  obtain ⟨d, e, rfl, rfl, hp, he, qx, qy, q⟩ := hw
  walk_at "D"
  walk_at "cx"
  refine ⟨d, rfl, rfl, hp, fun hd => ?_, qx⟩
  cases d with
  | lst ds =>
    refine ⟨rfl, ?_⟩
    walk_at "D"
    walk_at "c"
    refine ⟨e, 0, (ds.length : Int), rfl, rfl, he, rfl, ?_⟩
    cases hi : inR 0 (ds.length : Int) e with
    | false =>
      walk_at "D"
      exact ws_exc fun as σ H G D en => F.hE _ H (qy hd hi) en.fh
    | true =>
      walk_at "D"
      exact ⟨rfl, q hd hi⟩
  | _ => cases hd
/-! a number's figures -/
def tlN (n : Nat) : List Int := if h : n = 0 then [] else ((128 + n % 128 : Nat) : Int) :: tlN (n / 128)
termination_by n
decreasing_by omega
theorem tlN_0 : tlN 0 = [] := by rw [tlN]; rfl
theorem tlN_s {n : Nat} (h : n ≠ 0) : tlN n = ((128 + n % 128 : Nat) : Int) :: tlN (n / 128) := by rw [tlN, dif_neg h]
def figN (n : Nat) : List Int := (tlN (n / 128)).reverse ++ [((n % 128 : Nat) : Int)]
theorem tlN_len (b n : Nat) (h : n < 128 ^ b) : (tlN n).length ≤ b := by
  induction b generalizing n with
  | zero =>
    have : n = 0 := by simpa using h
    subst this
    rw [tlN_0]; exact Nat.le_refl _
  | succ b ih =>
    by_cases z : n = 0
    · subst z; rw [tlN_0]; exact Nat.zero_le _
    · rw [tlN_s z]
      have := ih (n / 128) (by rw [Nat.pow_succ] at h; omega)
      rw [List.length_cons]; omega
def wWritten (C : Addr) : PW0 := fun xs cs post exc => ∃ d, xs = [.dat d] ∧ cs = [] ∧ pl d = true ∧ (∀ n : Nat, d = .int n → (n : Int) ≤ 10 ^ 60 → post (.new ((figN n).map D.int)) []) ∧ (inR 0 (10 ^ 60) d = false → exc C)
theorem ok_written (T : Txt K mg) : FnOk P w K mg base (L2.CX P w) 3 T.a_written T.d_written ["number"] (spG K (wWritten T.c_NoNumber)) := by
  refine T.F_written.okX sc_written (fun vs H Q E h => spG_len h fun xs cs post exc ⟨a, e, _⟩ => by rw [e]; rfl) (fun cdv A outer s H vs Q E hr h => ⟨_, (pss_cons (ps_if (pt_not (pt_val (pe_call (ok_is_whole T) (hr.mono (by decide)) (by rfl) T.g_is_whole T.F_is_whole.kp T.b_is_whole .nil pass0 (pa_cons (pv 0) (pa_cons pe_int (pa_cons (pe_glob (v := .int 1000000000000000000000000000000000000000000000000000000000000) (by rfl) T.g_GREATEST_NUMBER ⟨_, rfl⟩) pa_nil)))))) (pss_one (ps_raise rfl (takes_of rfl rfl rfl rfl) (pmk_own PySem.F.excBase_ValueError T.x_NoNumber T.g_NoNumber T.k_NoNumber (raises_own T.bb_NoNumber T.t_NoNumber) rfl))) pss_nil)
      (pss_cons (ps_set (i := 1) sc_written.nd rfl (Or.inl rfl) (pe_lst (pa_cons (pe_op op_mod (pv 0) (pe_glob (v := .int 128) (by rfl) T.g_BASE ⟨_, rfl⟩)) pa_nil)))
      (pss_cons (ps_set (i := 2) sc_written.nd rfl (Or.inl rfl) (pe_op op_fdiv (pv 0) (pe_glob (v := .int 128) (by rfl) T.g_BASE ⟨_, rfl⟩)))
      (pss_cons (ps_while (passes_of rfl) (pt_cmpR op_gt (pv 2) pe_int (nomark _)) (pss_cons (ps_expr (pe_bm PySem.F.plainAttrs_list PySem.F.slot_list_append PySem.F.type_list_append mt_append (pv 1) (pa_cons (pe_op op_add (pe_glob (v := .int 128) (by rfl) T.g_BASE ⟨_, rfl⟩) (pe_op op_mod (pv 2) (pe_glob (v := .int 128) (by rfl) T.g_BASE ⟨_, rfl⟩))) pa_nil)))
      (pss_one (ps_set (i := 2) sc_written.nd rfl (Or.inl rfl) (pe_op op_fdiv (pv 2) (pe_glob (v := .int 128) (by rfl) T.g_BASE ⟨_, rfl⟩))))))
      (pss_one (ps_ret (pe_revL (pv 1)))))))), enter h fun F xs cs post hE hw => ?_⟩)
  subst hE
  obtain ⟨d, rfl, rfl, hp, q, qx⟩ := hw
  walk_at "D"
  walk_at "c"
  refine ⟨d, 0, _, rfl, rfl, hp, rfl, ?_⟩
  cases hd : inR 0 1000000000000000000000000000000000000000000000000000000000000 d with
  | false =>
    walk_at "D"
    exact ws_exc fun as σ H G D en => F.hE _ H (qx hd) en.fh
  | true =>
    obtain ⟨i, rfl, i0, i1⟩ := inR_of hd
    obtain ⟨n, rfl⟩ : ∃ n : Nat, i = n := ⟨i.toNat, by omega⟩
    have q := q n rfl i1
    have ln : (tlN (n / 128)).length ≤ 30 := tlN_len 30 _ (by
      have : n < 10 ^ 60 + 1 := by omega
      have : (10 : Nat) ^ 60 + 1 < 128 ^ 30 := by decide
      omega)
    walk_at "D"
    refine wr_Ii (by decide) ?_
    walk_at "D"
    refine wr_Ii ⟨by decide, by decide⟩ ?_
    walk_at "D"
    have e1 : ((n : Int) % 128) = ((n % 128 : Nat) : Int) := by omega
    have e2 : ((n : Int) / 128) = ((n / 128 : Nat) : Int) := by omega
    rw [e1, e2]
    refine ws_while (fun m ρ => ∃ (ds : List Int), ρ = ⟨[some (.dat (.int n)), some (.cel 0), some (.dat (.int (m : Int)))], [.lst (ds.map D.int)]⟩ ∧ ds ++ tlN m = ((n % 128 : Nat) : Int) :: tlN (n / 128)) (n / 128) ⟨[((n % 128 : Nat) : Int)], rfl, rfl⟩ ?_
    rintro m ρ ⟨ds, rfl, hds⟩
    walk_at "D"
    refine ifC (fun c => ?_) (fun c => ?_)
    · have c := of_decide_eq_true c
      have m0 : m ≠ 0 := by omega
      rw [tlN_s m0] at hds
      have hl : ds.length ≤ 31 := by
        have := congrArg List.length hds
        rw [List.length_append, List.length_cons, List.length_cons] at this
        omega
      walk_at "D"
      refine wr_Ii (by decide) ?_
      walk_at "D"
      · rw [List.length_map]; omega
      walk_at "D"
      refine wr_Ii ⟨by decide, by decide⟩ ?_
      walk_at "D"
      refine ⟨m / 128, by omega, ds ++ [((128 + m % 128 : Nat) : Int)], ?_, ?_⟩
      · rw [List.map_append, List.map_cons, List.map_nil, show ((128 : Int) + (m : Int) % 128) = ((128 + m % 128 : Nat) : Int) by omega, show ((m : Int) / 128) = ((m / 128 : Nat) : Int) by omega]
        rfl
      · rw [List.append_assoc]
        exact hds
    · have c := of_decide_eq_false c
      have m0 : m = 0 := by omega
      subst m0
      rw [tlN_0, List.append_nil] at hds
      subst hds
      walk_at "D"
      refine we_revL ?_
      walk_at "D"
      rw [← List.map_reverse, List.reverse_cons]
      exact ⟨_, .cel (Nat.zero_le _) rfl, rfl, q⟩
/-! ### numbers read out of a row -/
def goN : List Int → Int → Int → Option (Int × Int)
  | [], _, _ => none
  | f :: fs, a, p => if a * 128 + f % 128 > 1000000000000000000000000000000000000000000000000000000000000 then none else if f < 128 then some (a * 128 + f % 128, p + 1) else goN fs (a * 128 + f % 128) (p + 1)
def numA : List Int → Int → Option (Int × Int)
  | [], _ => none
  | f :: r, p => if f = 128 then none else goN (f :: r) 0 p
def resD : Option (Int × Int) → D
  | none => .non
  | some (a, p) => .tup [.int a, .int p]
def Byts (ns : List Int) : Prop := ∀ b ∈ ns, 0 ≤ b ∧ b ≤ 255
theorem rw_of {d : D} (h : isRw d = true) : ∃ ns : List Int, d = .lst (ns.map D.int) ∧ Byts ns := by
  cases d with
  | lst ds =>
    have h : ds.all (inR 0 255) = true := h
    have main : ∀ ds : List D, ds.all (inR 0 255) = true → ∃ ns : List Int, ds = ns.map D.int ∧ Byts ns := by
      intro ds
      induction ds with
      | nil => intro _; exact ⟨[], rfl, fun _ m => nomatch m⟩
      | cons d ds ih =>
        intro h
        rw [List.all_cons, Bool.and_eq_true] at h
        obtain ⟨i, rfl, i0, i1⟩ := inR_of h.1
        obtain ⟨ns, rfl, hb⟩ := ih h.2
        refine ⟨i :: ns, rfl, fun b m => ?_⟩
        rcases List.mem_cons.mp m with rfl | m
        · exact ⟨i0, i1⟩
        · exact hb b m
    obtain ⟨ns, rfl, hb⟩ := main ds h
    exact ⟨ns, rfl, hb⟩
  | _ => cases h
theorem rw_is {ns : List Int} (h : Byts ns) : isRw (.lst (ns.map D.int)) = true := by
  show (ns.map D.int).all (inR 0 255) = true
  rw [List.all_eq_true]
  intro d m
  obtain ⟨b, hb, rfl⟩ := List.mem_map.mp m
  exact inR_int (h b hb).1 (h b hb).2
theorem pls_int (ns : List Int) : pls (ns.map D.int) = true := by
  induction ns with
  | nil => rfl
  | cons x ns ih => exact ih
theorem hards_int (ns : List Int) : hards (ns.map D.int) = true := by
  induction ns with
  | nil => rfl
  | cons x ns ih => exact ih
theorem drop_at {ns : List Int} {j : Nat} (h : j < ns.length) : ns.drop j = ns[j] :: ns.drop (j + 1) := List.drop_eq_getElem_cons h
theorem at_int {ns : List Int} {j : Nat} {i : Int} (h : j < ns.length) (e : i = (j : Int)) : atI (ns.map D.int) i = some (D.int ns[j]) := by
  subst e
  exact atI_nat (by rw [List.getElem?_map, List.getElem?_eq_getElem h]; rfl)
def wNumAt : PW0 := fun xs cs post _ => ∃ (ns : List Int) (j : Nat), xs = [.dat (.lst (ns.map D.int)), .dat (.int j)] ∧ cs = [] ∧ Byts ns ∧ j ≤ ns.length ∧ ns.length ≤ 100000 ∧ post (.dat (resD (numA (ns.drop j) j))) []
theorem ok_number_at (T : Txt K mg) : FnOk P w K mg base CX0 1 T.a_number_at T.d_number_at ["row", "at"] (spG K wNumAt) := by
  refine T.F_number_at.ok sc_number_at (fun vs H Q E h => spG_len h fun xs cs post exc ⟨a, b, e, _⟩ => by rw [e]; rfl) (fun cdv A outer s H vs Q E hr h => ⟨_, (pss_cons (ps_set (i := 2) sc_number_at.nd rfl (Or.inl rfl) pe_int)
      (pss_cons (ps_for PassesOwn.never rfl (pi_range2 (by rfl) T.m_range (pa_cons (pv 1) (pa_cons (pe_callB call_len_seq (by rfl) T.m_len (by decide +kernel) (pa_cons (pv 0) pa_nil)) pa_nil))) (pg_name (i := 3) sc_number_at.nd rfl (Or.inl rfl))
        (pss_cons (ps_set (i := 4) sc_number_at.nd rfl (Or.inl rfl) (pe_ix ix_list (pv 0) (pv 3) (fun _ _ => rfl)))
      (pss_cons (ps_if (PW.pt (pw_and (pt_cmpR op_eq (pv 3) (pv 1) (nomark _)) (pw_and1 (pt_cmpR op_eq (pv 4) (pe_glob (v := .int 128) (by rfl) T.g_BASE ⟨_, rfl⟩) (nomark _))))) (pss_one (ps_ret pe_non)) pss_nil)
      (pss_cons (ps_set (i := 2) sc_number_at.nd rfl (Or.inl rfl) (pe_op op_add (pe_op op_mul (pv 2) (pe_glob (v := .int 128) (by rfl) T.g_BASE ⟨_, rfl⟩)) (pe_op op_mod (pv 4) (pe_glob (v := .int 128) (by rfl) T.g_BASE ⟨_, rfl⟩))))
      (pss_cons (ps_if (pt_cmpR op_gt (pv 2) (pe_glob (v := .int 1000000000000000000000000000000000000000000000000000000000000) (by rfl) T.g_GREATEST_NUMBER ⟨_, rfl⟩) (nomark _)) (pss_one (ps_ret pe_non)) pss_nil)
      (pss_one (ps_if (pt_cmpR op_lt (pv 4) (pe_glob (v := .int 128) (by rfl) T.g_BASE ⟨_, rfl⟩) (nomark _)) (pss_one (ps_ret (pe_tup (pa_cons (pv 2) (pa_cons (pe_op op_add (pv 3) pe_int) pa_nil))))) pss_nil)))))))
      (pss_one (ps_ret pe_non)))), enter h fun F xs cs post hE hw => ?_⟩)
  obtain ⟨ns, j, rfl, rfl, hb, hj, hl0, q⟩ := hw
  walk_at "D"
  rw [List.length_map]
  have hn : ((ns.length : Int) - (j : Int)).toNat = ns.length - j := by omega
  rw [hn]
  refine ⟨⟨by omega, by omega, by omega, by omega⟩, ?_⟩
  refine loop_rng (fun i ρ => ∃ (a : Int) (x y : Option AV), ρ = ⟨[some (.dat (.lst (ns.map D.int))), some (.dat (.int j)), some (.dat (.int a)), x, y], []⟩ ∧ (i = 0 → a = 0 ∧ post (.dat (resD (numA (ns.drop j) j))) []) ∧ (0 < i → post (.dat (resD (goN (ns.drop (j + i)) a ((j + i : Nat) : Int)))) [])) ⟨0, _, _, rfl, fun _ => ⟨rfl, q⟩, fun z => absurd z (Nat.lt_irrefl 0)⟩ ?_ ?_
  · rintro ρ ⟨a, x, y, rfl, h0, h1⟩
    refine ⟨trivial, ?_⟩
    walk_at "D"
    by_cases z : ns.length - j = 0
    · obtain ⟨_, q⟩ := h0 z
      rw [List.drop_of_length_le (by omega)] at q
      exact fin_dat rfl q
    · have q := h1 (by omega)
      rw [List.drop_of_length_le (by omega)] at q
      exact fin_dat rfl q
  · rintro i ρ hi ⟨a, x, y, rfl, h0, h1⟩
    refine ⟨trivial, ?_⟩
    have hl : j + i < ns.length := by omega
    walk_at "D"
    refine wr_ixL (.dat _) (at_int hl (by omega)) ?_
    refine wg_name ?_
    refine ws_seq ?_
    have hd := drop_at (ns := ns) (j := j + i) hl
    generalize hf : ns[j + i] = f at *
    have fb : 0 ≤ f ∧ f ≤ 255 := hb f (by rw [← hf]; exact List.getElem_mem hl)
    refine ws_if ?_
    by_cases z : i = 0 ∧ f = 128
    · obtain ⟨rfl, rfl⟩ := z
      obtain ⟨rfl, q⟩ := h0 rfl
      have hd : ns.drop j = 128 :: ns.drop (j + 0 + 1) := hd
      rw [hd, numA, if_pos rfl] at q
      walk_at "D"
      refine ifT (decide_eq_true (show (j : Int) + ((0 : Nat) : Int) = j by omega)) ?_
      walk_at "D"
      exact fin_dat rfl q
    · have q2 : post (.dat (resD (goN (f :: ns.drop (j + i + 1)) a ((j : Int) + i)))) [] := by
        by_cases i0 : i = 0
        · subst i0
          obtain ⟨rfl, q⟩ := h0 rfl
          have hd : ns.drop j = f :: ns.drop (j + 0 + 1) := hd
          rw [hd, numA, if_neg fun y => z ⟨rfl, y⟩] at q
          rw [show (j : Int) + ((0 : Nat) : Int) = j by omega]
          exact q
        · have q := h1 (by omega)
          rw [hd, show ((j + i : Nat) : Int) = (j : Int) + i by omega] at q
          exact q
      rw [goN] at q2
      refine WpT.imp (kb := fun b ρ1 => b = false ∧ ρ1 = ⟨[some (.dat (.lst (ns.map D.int))), some (.dat (.int j)), some (.dat (.int a)), some (.dat (.int ((j : Int) + i))), some (.dat (.int f))], []⟩) ?_ ?_
      · walk_at "D"
        by_cases i0 : i = 0
        · refine ifT (decide_eq_true (by omega)) ?_
          walk_at "D"
          exact ⟨decide_eq_false fun y => z ⟨i0, y⟩, rfl⟩
        · refine ifF (decide_eq_false (by omega)) ?_
          exact ⟨rfl, rfl⟩
      · rintro b ρ1 ⟨rfl, rfl⟩
        walk_at "D"
        refine wr_Ii (.inr (by decide)) ?_
        walk_at "D"
        refine wr_Ii (by decide) ?_
        walk_at "D"
        refine ifC (fun c => ?_) (fun c => ?_)
        · rw [if_pos (of_decide_eq_true c)] at q2
          walk_at "D"
          exact fin_dat rfl q2
        · rw [if_neg (of_decide_eq_false c)] at q2
          walk_at "D"
          refine ifC (fun c => ?_) (fun c => ?_)
          · rw [if_pos (of_decide_eq_true c)] at q2
            walk_at "D"
            exact fin_dat rfl q2
          · rw [if_neg (of_decide_eq_false c)] at q2
            walk_at "D"
            refine now ⟨_, _, _, rfl, fun y => absurd y (Nat.succ_ne_zero i), fun _ => ?_⟩
            rw [show ((j + (i + 1) : Nat) : Int) = (j : Int) + i + 1 by omega]
            exact q2
def wRead (C1 C2 C3 : Addr) : PW0 := fun xs cs post exc => ∃ d e, xs = [.dat d, .dat e] ∧ cs = [] ∧ pl d = true ∧ pl e = true ∧ lnR d ≤ 100000 ∧ (isRw d = false → exc C1) ∧ (isRw d = true → inR 0 (lnR d) e = false → exc C2) ∧
  (∀ (ns : List Int) (j : Nat), d = .lst (ns.map D.int) → e = .int j → Byts ns → j ≤ ns.length → (numA (ns.drop j) j = none → exc C3) ∧ (∀ a p, numA (ns.drop j) j = some (a, p) → post (.dat (.tup [.int a, .int p])) []))
/-! its figures tell a number -/
theorem goN_tl (m : Nat) (hm : (m : Int) ≤ 1000000000000000000000000000000000000000000000000000000000000) (r : List Int) (p : Int) : goN ((tlN m).reverse ++ r) 0 p = goN r m (p + (tlN m).length) := by
  induction m using Nat.strongRecOn generalizing r p with
  | _ m ih =>
    by_cases z : m = 0
    · subst z
      rw [tlN_0]
      show goN r 0 p = goN r ((0 : Nat) : Int) (p + ((0 : Nat) : Int))
      rw [show p + ((0 : Nat) : Int) = p by omega]
      rfl
    · rw [tlN_s z, List.reverse_cons, List.append_assoc, ih (m / 128) (by omega) (by omega)]
      show goN (((128 + m % 128 : Nat) : Int) :: r) _ _ = _
      rw [goN]
      have e : ((m / 128 : Nat) : Int) * 128 + ((128 + m % 128 : Nat) : Int) % 128 = (m : Int) := by omega
      rw [e, if_neg (by omega), if_neg (by omega), List.length_cons]
      congr 1
      omega
theorem tl_head (m : Nat) (hm : m ≠ 0) : ∃ x l, (tlN m).reverse = x :: l ∧ 128 < x := by
  induction m using Nat.strongRecOn with
  | _ m ih =>
    rw [tlN_s hm, List.reverse_cons]
    by_cases z : m / 128 = 0
    · rw [z, tlN_0]
      exact ⟨_, [], rfl, by omega⟩
    · obtain ⟨x, l, e, h⟩ := ih (m / 128) (by omega) z
      rw [e]
      exact ⟨x, _, rfl, h⟩
theorem fig_len (n : Nat) : (figN n).length = (tlN (n / 128)).length + 1 := by
  unfold figN
  rw [List.length_append, List.length_reverse]
  rfl
theorem numA_fig (n : Nat) (hn : (n : Int) ≤ 1000000000000000000000000000000000000000000000000000000000000) : numA (figN n) 0 = some ((n : Int), ((figN n).length : Int)) := by
  have main : goN (figN n) 0 0 = some ((n : Int), ((figN n).length : Int)) := by
    rw [fig_len]
    unfold figN
    rw [goN_tl _ (by omega), goN]
    have e : ((n / 128 : Nat) : Int) * 128 + ((n % 128 : Nat) : Int) % 128 = (n : Int) := by omega
    rw [e, if_neg (by omega), if_pos (by omega)]
    congr 2
    omega
  have hd : ∃ x l, figN n = x :: l ∧ x ≠ 128 := by
    unfold figN
    by_cases z : n / 128 = 0
    · rw [z, tlN_0]
      exact ⟨_, [], rfl, by omega⟩
    · obtain ⟨x, l, e, h⟩ := tl_head _ z
      rw [e]
      exact ⟨x, _, rfl, by omega⟩
  obtain ⟨x, l, e, h⟩ := hd
  rw [e] at main ⊢
  rw [numA, if_neg h]
  exact main
theorem fig_byts (n : Nat) : Byts (figN n) := by
  have tl : ∀ m : Nat, Byts (tlN m) := by
    intro m
    induction m using Nat.strongRecOn with
    | _ m ih =>
      by_cases z : m = 0
      · subst z; rw [tlN_0]; exact fun _ q => nomatch q
      · rw [tlN_s z]
        intro b mb
        rcases List.mem_cons.mp mb with rfl | mb
        · omega
        · exact ih (m / 128) (by omega) b mb
  intro b mb
  unfold figN at mb
  rcases List.mem_append.mp mb with mb | mb
  · exact tl _ b (List.mem_reverse.mp mb)
  · rw [List.mem_singleton] at mb
    omega
end

section
variable {P : Program} {w : World} {K : PySem.W.Frag} {mg : Str → Option Value} {base : Heap}
/-! ### the check of a row, the sum of a box -/
theorem wc_divmod {K : PySem.W.Frag} {F : Fx} {ρ : En} {k : AV → En → Prop} {i j : Int} (hc : CDiv i j) (hk : k (.dat (.tup [.int (i / j), .int (i % j)])) ρ) : WpC K F (fun xs H Q => ∃ i j, xs = [.int i, .int j] ∧ CDiv i j ∧ ∀ p, H p = none → Q (.ref p) (upd H p (.tup [.int (i / j), .int (i % j)]))) [.dat (.int i), .dat (.int j)] ρ k := fun as σ H G vs e r Q q => by
  cases r with
  | cons r1 r2 =>
    cases r2 with
    | cons r2 r3 =>
      cases r3
      cases (show Rep K G (.int i) _ from r1)
      cases (show Rep K G (.int j) _ from r2)
      refine ⟨i, j, rfl, hc, fun p hp => ?_⟩
      obtain ⟨e3, g3⟩ := e.newG (o := .tup [.int (i / j), .int (i % j)]) hp
      exact q _ _ _ _ _ _ hk e3 g3 (Rep.tup (SqT.of upd_same) (.cons (.int _) (.cons (.int _) .nil)))
def chkS (l : List Int) (a : Int) : Int := l.foldl (fun a b => (a * 257 + b) % 65521) a
theorem chkS_lt (l : List Int) {a : Int} (h : 0 ≤ a ∧ a < 65521) : 0 ≤ chkS l a ∧ chkS l a < 65521 := by
  induction l generalizing a with
  | nil => exact h
  | cons b l ih => exact ih ⟨Int.emod_nonneg _ (by decide), Int.emod_lt_of_pos _ (by decide)⟩
def wCheck : PW0 := fun xs cs post _ => ∃ ns : List Int, xs = [.dat (.lst (ns.map D.int))] ∧ cs = [] ∧ Byts ns ∧ post (.dat (.int (chkS ns 1))) []
theorem ok_check (T : Txt K mg) : FnOk P w K mg base (L2.CX P w) 5 T.a_check T.d_check ["row"] (spG K wCheck) := by
  refine T.F_check.okX sc_check (fun vs H Q E h => spG_len h fun xs cs post exc ⟨a, e, _⟩ => by rw [e]; rfl) (fun cdv A outer s H vs Q E hr h => ⟨_, (pss_cons (ps_expr (pe_call (ok_refuse_no_bytes T) (hr.mono (by decide)) (by rfl) T.g_refuse_no_bytes T.F_refuse_no_bytes.kp T.b_refuse_no_bytes .nil (passes_call (takes_of rfl rfl rfl rfl) (fun _ _ _ _ h => h)) (pa_cons (pv 0) pa_nil)))
      (pss_cons (ps_set (i := 1) sc_check.nd rfl (Or.inl rfl) pe_int)
      (pss_cons (ps_for (passes_of rfl) rfl (pi_list (pv 0)) (pg_name (i := 2) sc_check.nd rfl (Or.inl rfl))
        (pss_one (ps_set (i := 1) sc_check.nd rfl (Or.inl rfl) (pe_op op_mod (pe_op op_add (pe_op op_mul (pv 1) pe_int) (pv 2)) pe_int))))
      (pss_one (ps_ret (pv 1)))))), enter h fun F xs cs post hE hw => ?_⟩)
  subst hE
  obtain ⟨ns, rfl, rfl, hb, q⟩ := hw
  walk_at "D"
  walk_at "cx"
  refine ⟨_, rfl, rfl, by rw [pl]; exact pls_int _, fun _ => ⟨rfl, ?_⟩, fun z => by rw [rw_is hb] at z; cases z⟩
  walk_at "D"
  refine loop_by (fun es ρ => ∃ (rest : List Int) (a : Int) (x : Option AV), es = rest.map D.int ∧ ρ = ⟨[some (.dat (.lst (ns.map D.int))), some (.dat (.int a)), x], []⟩ ∧ chkS rest a = chkS ns 1 ∧ 0 ≤ a ∧ a < 65521 ∧ Byts rest) ⟨ns, 1, none, rfl, rfl, rfl, by decide, by decide, hb⟩ ?_ ?_
  · rintro ρ ⟨rest, a, x, e1, rfl, e2, _, _, _⟩
    have e3 : rest = [] := by cases rest with | nil => rfl | cons => cases e1
    subst e3
    have e2 : a = chkS ns 1 := e2
    subst e2
    refine ⟨.dat _, ?_⟩
    walk_at "D"
    exact fin_dat rfl q
  · rintro d es ρ ⟨rest, a, x, e1, rfl, e2, a0, a1, br⟩
    cases rest with
    | nil => cases e1
    | cons b rest =>
      obtain ⟨rfl, rfl⟩ := List.cons.inj e1
      have hb := br b List.mem_cons_self
      refine ⟨.dat _, ?_⟩
      walk_at "D"
      refine wr_Ii (.inl ⟨by omega, by omega⟩) ?_
      walk_at "D"
      refine wr_Ii (by decide) ?_
      walk_at "D"
      exact now ⟨rest, _, _, rfl, rfl, e2, Int.emod_nonneg _ (by decide), Int.emod_lt_of_pos _ (by decide), fun y m => br y (List.mem_cons_of_mem _ m)⟩
def sumS (k : Int) (body : List Int) : List Int := [chkS (k :: body) 1 / 256, chkS (k :: body) 1 % 256]
def wSumOf : PW0 := fun xs cs post _ => ∃ (kd : Int) (ns : List Int), xs = [.dat (.int kd), .dat (.lst (ns.map D.int))] ∧ cs = [] ∧ Byts (kd :: ns) ∧ ns.length ≤ 1000000 ∧ post (.new ((sumS kd ns).map D.int)) []
theorem ok_sum_of (T : Txt K mg) : FnOk P w K mg base (L2.CX P w) 6 T.a_sum_of T.d_sum_of ["kind", "body"] (spG K wSumOf) := by
  refine T.F_sum_of.okX sc_sum_of (fun vs H Q E h => spG_len h fun xs cs post exc ⟨a, b, e, _⟩ => by rw [e]; rfl) (fun cdv A outer s H vs Q E hr h => ⟨_, (pss_one (ps_ret (pe_callTy call_list_of (by rfl) T.m_list (by decide +kernel) (pa_cons (pe_callB call_divmod (by rfl) T.m_divmod (by decide +kernel) (pa_cons (pe_call (ok_check T) (hr.mono (by decide)) (by rfl) T.g_check T.F_check.kp T.b_check .nil (passes_call (takes_of rfl rfl rfl rfl) (fun _ _ _ _ h => h)) (pa_cons (pe_op op_catF (pe_lst (pa_cons (pv 0) pa_nil)) (pv 1)) pa_nil)) (pa_cons pe_int pa_nil))) pa_nil)))), enter h fun F xs cs post hE hw => ?_⟩)
  subst hE
  obtain ⟨kd, ns, rfl, rfl, hb, hl, q⟩ := hw
  walk_at "D"
  refine wr_cat (ds := [.int kd]) (es := ns.map D.int) (.cel rfl) (.dat _) (by rw [List.length_map]; simp only [List.length]; omega) ?_
  walk_at "D"
  walk_at "cx"
  refine ⟨kd :: ns, rfl, rfl, hb, aft_hard rfl ?_⟩
  walk_at "D"
  refine wc_divmod ⟨by decide, by decide⟩ ?_
  walk_at "D"
  exact ⟨_, .cel (Nat.zero_le _) rfl, rfl, q⟩
/-! ### a box that comes byte by byte -/
structure GSt where
  at_ : Int
  kind : Option Int
  content : List Int
  noughts : Int
  first : Option Int
  behind : Option Int
  closed : Bool
def GSt.init (a : Int) : GSt := ⟨a, none, [], 0, none, none, false⟩
def oD : Option Int → D
  | none => .non
  | some i => .int i
def gN : List Str := ["at", "kind", "content", "noughts", "first", "behind", "closed"]
def growF (c : Addr) (st : GSt) : List D := [.int st.at_, oD st.kind, .cls c, .int st.noughts, oD st.first, oD st.behind, .bl st.closed]
def growC (CG g c : Addr) (st : GSt) : List Cell := [.oth (insX g CG gN (growF c st)), .oth (lstX c (st.content.map D.int))]
theorem oD_atom (x : Option Int) : atom (oD x) = true := by cases x <;> rfl
def wGrowInit (CG : Addr) : PW0 := fun xs cs post _ => ∃ a : Int, xs = [.cel 0, .dat (.int a)] ∧ cs = [.ins CG [] []] ∧ ∀ c, post (.ext .non (lstX c [])) [.ins CG gN (growF c (GSt.init a))]
theorem ok_Growing_init (T : Txt K mg) : FnOk P w K mg base CX0 1 T.a_Growing_init T.d_Growing_init ["self", "at"] (spG K (wGrowInit T.c_Growing)) := by
  refine T.F_Growing_init.ok sc_Growing_init (fun vs H Q E h => spG_len h fun xs cs post exc ⟨a, e, _⟩ => by rw [e]; rfl) (fun cdv A outer s H vs Q E hr h => ⟨_, (pss_cons (ps_fld (pv 0) (pv 1) rfl)
      (pss_cons (ps_fld (pv 0) pe_non rfl)
      (pss_cons (ps_fld (pv 0) (pe_lst pa_nil) rfl)
      (pss_cons (ps_fld (pv 0) pe_int rfl)
      (pss_cons (ps_fld (pv 0) pe_non rfl)
      (pss_cons (ps_fld (pv 0) pe_non rfl)
      (pss_one (ps_fld (pv 0) pe_bl rfl)))))))), enterN h fun F xs cs post hE hw => ?_⟩)
  obtain ⟨a, rfl, rfl, q⟩ := hw
  walk_at "D"
  refine ws_fset ?_
  walk_at "D"
  refine ⟨0, _, [], [], _, _, rfl, by walk_at "fz", rfl, T.cl_Growing, T.na_Growing_at, rfl, ?_⟩
  walk_at "D"
  refine ws_fset ?_
  walk_at "D"
  refine ⟨0, _, _, _, _, _, rfl, by walk_at "fz", rfl, T.cl_Growing, T.na_Growing_kind, rfl, ?_⟩
  walk_at "D"
  refine ws_fset ?_
  refine we_ptr ?_
  walk_at "D"
  refine ⟨1, _, rfl, rfl, rfl, fun c X hX => ?_⟩
  cases hX
  walk_at "D"
  refine ⟨0, _, _, _, _, _, rfl, by walk_at "fz", rfl, T.cl_Growing, T.na_Growing_content, rfl, ?_⟩
  walk_at "D"
  refine ws_fset ?_
  walk_at "D"
  refine ⟨0, _, _, _, _, _, rfl, by walk_at "fz", rfl, T.cl_Growing, T.na_Growing_noughts, rfl, ?_⟩
  walk_at "D"
  refine ws_fset ?_
  walk_at "D"
  refine ⟨0, _, _, _, _, _, rfl, by walk_at "fz", rfl, T.cl_Growing, T.na_Growing_first, rfl, ?_⟩
  walk_at "D"
  refine ws_fset ?_
  walk_at "D"
  refine ⟨0, _, _, _, _, _, rfl, by walk_at "fz", rfl, T.cl_Growing, T.na_Growing_behind, rfl, ?_⟩
  walk_at "D"
  refine ws_fset ?_
  walk_at "D"
  refine ⟨0, _, _, _, _, _, rfl, by walk_at "fz", rfl, T.cl_Growing, T.na_Growing_closed, rfl, ?_⟩
  walk_at "D"
  exact ⟨_, .ext (j := 1) (Nat.le_of_ble_eq_true rfl) rfl, rfl, q c⟩
def cutI (ns : List Int) (lo hi : Option Int) : List Int := (ns.drop (HT.sIx ns.length 0 lo)).take (HT.sIx ns.length ns.length hi - HT.sIx ns.length 0 lo)
theorem cut_int (ns : List Int) (lo hi : Option Int) : cutD (ns.map D.int) lo hi = (cutI ns lo hi).map D.int := by
  unfold cutD cutI
  rw [List.length_map, List.map_take, List.map_drop]
theorem cutI_mem {ns : List Int} {lo hi : Option Int} {x : Int} (h : x ∈ cutI ns lo hi) : x ∈ ns := List.mem_of_mem_drop (List.mem_of_mem_take h)
theorem cutI_len (ns : List Int) (lo hi : Option Int) : (cutI ns lo hi).length ≤ ns.length := by unfold cutI; rw [List.length_take, List.length_drop]; omega
theorem fines_intsG (n : Nat) (ns : List Int) : fines n (ns.map D.int) = true := by
  induction ns with
  | nil => cases n <;> rfl
  | cons x ns ih => cases n <;> exact ih
theorem noBs_intsG (ns : List Int) : noBs (ns.map D.int) = true := by
  induction ns with
  | nil => rfl
  | cons x ns ih => exact ih
theorem mapI_injG {a b : List Int} (h : a.map D.int = b.map D.int) : a = b := (List.map_inj_right (fun x y e => by injection e)).mp h
theorem eqD_ints (a b : List Int) : eqD (.lst (a.map D.int)) (.lst (b.map D.int)) = decide (a = b) := by
  have h := eqD_iff (.lst (a.map D.int)) (.lst (b.map D.int)) (noBs_intsG a) (noBs_intsG b)
  by_cases q : a = b
  · subst q
    rw [decide_eq_true rfl]
    exact h.mpr rfl
  · rw [decide_eq_false q]
    cases e : eqD (.lst (a.map D.int)) (.lst (b.map D.int)) with
    | false => rfl
    | true => have := h.mp e; injection this with this; exact absurd (mapI_injG this) q
def wBody (CG : Addr) : PW0 := fun xs cs post _ => ∃ (g c : Addr) (st : GSt) (f h : Int), xs = [.dat (.cls g)] ∧ cs = growC CG g c st ∧ st.first = some f ∧ st.behind = some h ∧ post (.new ((cutI st.content (some f) (some h)).map D.int)) (growC CG g c st)
theorem ok_Growing_body (T : Txt K mg) : FnOk P w K mg base CX0 1 T.a_Growing_body T.d_Growing_body ["self"] (spG K (wBody T.c_Growing)) := by
  refine T.F_Growing_body.ok sc_Growing_body (fun vs H Q E h => spG_len h fun xs cs post exc ⟨a, b, c, d, e, f, _⟩ => by rw [f]; rfl) (fun cdv A outer s H vs Q E hr h => ⟨_, (pss_one (ps_ret (pe_slice sl_list (pe_fld (pv 0) rfl) (po_some (pe_fld (pv 0) rfl)) (po_some (pe_fld (pv 0) rfl))))), enter h fun F xs cs post hE hw => ?_⟩)
  obtain ⟨g, c, ⟨a, kd, ct, nt, fi, be, cl⟩, f, h, rfl, rfl, hf, hb, q⟩ := hw
  cases hf
  cases hb
  dsimp only [growC] at q ⊢
  walk_at "D"
  refine we_fld ?_
  walk_at "D"
  refine ⟨_, _, _, _, .tag (j := 0) rfl, T.cl_Growing, T.na_Growing_content, rfl, ?_⟩
  walk_at "D"
  refine we_fld ?_
  walk_at "D"
  refine ⟨_, _, _, _, .tag (j := 0) rfl, T.cl_Growing, T.na_Growing_first, rfl, ?_⟩
  walk_at "D"
  refine we_fld ?_
  walk_at "D"
  refine ⟨_, _, _, _, .tag (j := 0) rfl, T.cl_Growing, T.na_Growing_behind, rfl, ?_⟩
  walk_at "D"
  refine ⟨_, .tag (j := 1) rfl, ?_⟩
  rw [cut_int]
  exact ⟨_, .cel (j := 2) (Nat.le_of_ble_eq_true rfl) rfl, rfl, q⟩
def rightS (kd : Int) (ct : List Int) (f h : Int) : Bool := decide (cutI ct (some h) none = sumS kd (cutI ct (some f) (some h)))
def wIsRight (CG : Addr) : PW0 := fun xs cs post _ => ∃ (g c : Addr) (st : GSt) (kd f h : Int), xs = [.dat (.cls g)] ∧ cs = growC CG g c st ∧ st.kind = some kd ∧ st.first = some f ∧ st.behind = some h ∧ Byts (kd :: st.content) ∧ st.content.length ≤ 1000000 ∧ post (.dat (.bl (rightS kd st.content f h))) (growC CG g c st)
theorem ok_Growing_is_right (T : Txt K mg) : FnOk P w K mg base (L2.CX P w) 7 T.a_Growing_is_right T.d_Growing_is_right ["self"] (spG K (wIsRight T.c_Growing)) := by
  refine T.F_Growing_is_right.okX sc_Growing_is_right (fun vs H Q E h => spG_len h fun xs cs post exc ⟨a, b, c, d, e, f, g, _⟩ => by rw [g]; rfl) (fun cdv A outer s H vs Q E hr h => ⟨_, (pss_one (ps_ret (pe_cmpR (op_eqD hr.units) (pe_slice sl_list (pe_fld (pv 0) rfl) (po_some (pe_fld (pv 0) rfl)) po_none) (pe_call (ok_sum_of T) (hr.mono (by decide)) (by rfl) T.g_sum_of T.F_sum_of.kp T.b_sum_of .nil (passes_call (takes_of rfl rfl rfl rfl) (fun _ _ _ _ h => h)) (pa_cons (pe_fld (pv 0) rfl) (pa_cons (pe_meth0 (pv 0) T.cl_Growing T.mt_Growing_body (ok_Growing_body T) (hr.mono (by decide)) T.b_Growing_body .nil pass0) pa_nil))) (nomark _)))), enter h fun F xs cs post hE hw => ?_⟩)
  subst hE
  obtain ⟨g, c, ⟨a, kdo, ct, nt, fi, be, cl⟩, kd, f, h, rfl, rfl, hk, hf, hb, hby, hl, q⟩ := hw
  cases hf
  cases hb
  cases hk
  dsimp only [growC] at q hby hl ⊢
  walk_at "D"
  refine we_fld ?_
  walk_at "D"
  refine ⟨_, _, _, _, .tag (j := 0) rfl, T.cl_Growing, T.na_Growing_content, rfl, ?_⟩
  walk_at "D"
  refine we_fld ?_
  walk_at "D"
  refine ⟨_, _, _, _, .tag (j := 0) rfl, T.cl_Growing, T.na_Growing_behind, rfl, ?_⟩
  walk_at "D"
  refine ⟨_, .tag (j := 1) rfl, ?_⟩
  rw [cut_int]
  walk_at "D"
  refine we_fld ?_
  walk_at "D"
  refine ⟨_, _, _, _, .tag (j := 0) rfl, T.cl_Growing, T.na_Growing_kind, rfl, ?_⟩
  walk_at "D"
  refine we_meth ?_
  walk_at "D"
  refine ⟨_, _, .tag (j := 0) rfl, rfl, ?_⟩
  walk_at "D"
  refine wspP0 (ds := [.cls g]) (js := [0, 1]) (cs := growC T.c_Growing g c ⟨a, some kd, ct, nt, some f, some h, cl⟩) rfl (by decide) rfl ⟨g, c, _, f, h, rfl, rfl, rfl, rfl, rfl, rfl, ?_⟩
  walk_at "D"
  walk_at "cx"
  refine ⟨kd, cutI ct (some f) (some h), rfl, rfl, ?_, Nat.le_trans (cutI_len ..) hl, aft_hards (hards_int _) ?_⟩
  · intro b m
    rcases List.mem_cons.mp m with rfl | m
    · exact hby b List.mem_cons_self
    · exact hby b (List.mem_cons_of_mem _ (cutI_mem m))
  walk_at "D"
  refine wr_eqD 1 (.cel (j := 2) rfl) (.cel (j := 4) rfl) (by rw [fine]; exact fines_intsG 0 _) (by rw [fine]; exact fines_intsG 0 _) (by decide) ?_
  rw [eqD_ints]
  exact fin_dat rfl q
end

section
variable {P : Program} {w : World} {K : PySem.W.Frag} {mg : Str → Option Value} {base : Heap}
/-! ### a growing box: its length measured, a byte taken -/
def measS (ct : List Int) (b : Int) : Bool × Option (Int × Int) :=
  if 128 ≤ b ∧ (ct ++ [b]).length < 3 then (true, none)
  else match numA (ct ++ [b]) 0 with
    | none => (false, none)
    | some (n, p) => if n > 60000 then (false, none) else (true, some (p, p + n))
/-- the state behind the measuring -/
def GSt.met (st : GSt) : Option (Int × Int) → GSt
  | none => st
  | some (p, h) => { st with first := some p, behind := some h }
theorem at_last (ct : List Int) (b : Int) : atI ((ct ++ [b]).map D.int) (-1) = some (D.int b) := by
  have h : atI ((ct ++ [b]).map D.int) (-1) = (if 1 ≤ ((ct.length : Int) + 1) then some (-1 + ((ct.length : Int) + 1)).toNat else none).bind fun j => (ct.map D.int ++ [D.int b])[j]? := by
    unfold atI ixN
    simp
  rw [h, if_pos (by omega), show (-1 + ((ct.length : Int) + 1)).toNat = (ct.map D.int).length by rw [List.length_map]; omega]
  exact List.getElem?_concat_length
theorem resD_hard (x : Option (Int × Int)) : hard (resD x) = true := by
  cases x with
  | none => rfl
  | some x => rfl
def wMeasure (CG : Addr) : PW0 := fun xs cs post _ => ∃ (g c : Addr) (st : GSt) (ct : List Int) (b : Int), xs = [.dat (.cls g)] ∧ cs = growC CG g c st ∧ st.content = ct ++ [b] ∧ Byts st.content ∧ st.content.length ≤ 100000 ∧ post (.dat (.bl (measS ct b).1)) (growC CG g c (st.met (measS ct b).2))
theorem ok_Growing_measure (T : Txt K mg) : FnOk P w K mg base CX0 2 T.a_Growing_measure T.d_Growing_measure ["self"] (spG K (wMeasure T.c_Growing)) := by
  refine T.F_Growing_measure.ok sc_Growing_measure (fun vs H Q E h => spG_len h fun xs cs post exc ⟨a, b, c, d, e, f, _⟩ => by rw [f]; rfl) (fun cdv A outer s H vs Q E hr h => ⟨_, (pss_cons (ps_if (PW.pt (pw_and (pt_cmpR op_ge (pe_ix ix_list (pe_fld (pv 0) rfl) (pe_un un_neg pe_int) (fun _ _ => rfl)) (pe_glob (v := .int 128) (by rfl) T.g_BASE ⟨_, rfl⟩) (nomark _)) (pw_and1 (pt_cmpR op_lt (pe_callB call_len_seq (by rfl) T.m_len (by decide +kernel) (pa_cons (pe_fld (pv 0) rfl) pa_nil)) (pe_glob (v := .int 3) (by rfl) T.g_LONGEST_LENGTH ⟨_, rfl⟩) (nomark _))))) (pss_one (ps_ret pe_bl)) pss_nil)
      (pss_cons (ps_set (i := 1) sc_Growing_measure.nd rfl (Or.inl rfl) (pe_call (ok_number_at T) (hr.mono (by decide)) (by rfl) T.g_number_at T.F_number_at.kp T.b_number_at .nil pass0 (pa_cons (pe_fld (pv 0) rfl) (pa_cons pe_int pa_nil))))
      (pss_cons (ps_if (PW.pt (pw_or (pt_cmpR op_isN (pv 1) pe_non (nomark _)) (pw_or1 (pt_cmpR op_gt (pe_ix ix_tup (pv 1) pe_int (fun _ _ => rfl)) (pe_glob (v := .int 60000) (by rfl) T.g_LONGEST_BODY ⟨_, rfl⟩) (nomark _))))) (pss_one (ps_ret pe_bl)) pss_nil)
      (pss_cons (ps_fld (pv 0) (pe_ix ix_tup (pv 1) pe_int (fun _ _ => rfl)) rfl)
      (pss_cons (ps_fld (pv 0) (pe_op op_add (pe_fld (pv 0) rfl) (pe_ix ix_tup (pv 1) pe_int (fun _ _ => rfl))) rfl)
      (pss_one (ps_ret pe_bl))))))), enter h fun F xs cs post hE hw => ?_⟩)
  obtain ⟨g, c, ⟨a, kd, ct2, nt, fi, be, cl⟩, ct, b, rfl, rfl, hc, hby, hl, q⟩ := hw
  dsimp only at hc hby hl q ⊢
  subst hc
  have ll : ((ct ++ [b]).map D.int).length = (ct ++ [b]).length := List.length_map ..
  dsimp only [growC] at q ⊢
  refine ws_seq ?_
  refine ws_if ?_
  refine WpT.imp (kb := fun t ρ1 => t = decide (128 ≤ b ∧ (ct ++ [b]).length < 3) ∧ ρ1 = ⟨[some (.dat (.cls g)), none], [.oth (insX g T.c_Growing gN (growF c ⟨a, kd, ct ++ [b], nt, fi, be, cl⟩)), .oth (lstX c ((ct ++ [b]).map D.int))]⟩) ?_ ?_
  · walk_at "D"
    refine we_fld ?_
    walk_at "D"
    refine ⟨_, _, _, _, .tag (j := 0) rfl, T.cl_Growing, T.na_Growing_content, rfl, ?_⟩
    walk_at "D"
    refine wr_ixL (.tag (j := 1) rfl) (at_last ct b) ?_
    walk_at "D"
    refine ifC (fun c1 => ?_) (fun c1 => ?_)
    · have c1 := of_decide_eq_true c1
      walk_at "D"
      refine we_fld ?_
      walk_at "D"
      refine ⟨_, _, _, _, .tag (j := 0) rfl, T.cl_Growing, T.na_Growing_content, rfl, ?_⟩
      walk_at "D"
      refine wc_lenL (.tag (j := 1) rfl) ?_
      rw [ll]
      walk_at "D"
      refine ⟨?_, rfl⟩
      exact decide_eq_decide.mpr ⟨fun h => ⟨c1, by omega⟩, fun h => by omega⟩
    · have c1 := of_decide_eq_false c1
      exact ⟨(decide_eq_false fun h => c1 h.1).symm, rfl⟩
  · rintro t ρ1 ⟨rfl, rfl⟩
    refine ifC (fun c1 => ?_) (fun c1 => ?_)
    · have c1 := of_decide_eq_true c1
      have e1 : measS ct b = (true, none) := if_pos c1
      rw [e1] at q
      walk_at "D"
      exact fin_dat rfl q
    · have c1 := of_decide_eq_false c1
      have e1 : measS ct b = match numA (ct ++ [b]) 0 with | none => (false, none) | some (n, p) => if n > 60000 then (false, none) else (true, some (p, p + n)) := if_neg c1
      rw [e1] at q
      walk_at "D"
      refine we_fld ?_
      walk_at "D"
      refine ⟨_, _, _, _, .tag (j := 0) rfl, T.cl_Growing, T.na_Growing_content, rfl, ?_⟩
      walk_at "D"
      refine wsp_untag (j := 1) (ds := (ct ++ [b]).map D.int) rfl (atoms_int _) (.ptr (.same .nil)) ?_
      walk_at "c"
      refine ⟨ct ++ [b], 0, rfl, rfl, hby, Nat.zero_le _, hl, aft_hard (resD_hard _) ⟨rfl, ?_⟩⟩
      rw [List.drop_zero]
      cases hr : numA (ct ++ [b]) 0 with
      | none =>
        rw [hr] at q
        walk_at "D"
        exact fin_dat rfl q
      | some x =>
        obtain ⟨n, p⟩ := x
        rw [hr] at q
        walk_at "D"
        refine ifC (fun c2 => ?_) (fun c2 => ?_)
        · have c2 := of_decide_eq_true c2
          have e2 : (if n > 60000 then (false, none) else (true, some (p, p + n)) : Bool × Option (Int × Int)) = (false, none) := if_pos (by omega)
          dsimp only at q
          rw [e2] at q
          walk_at "D"
          exact fin_dat rfl q
        · have c2 := of_decide_eq_false c2
          have e2 : (if n > 60000 then (false, none) else (true, some (p, p + n)) : Bool × Option (Int × Int)) = (true, some (p, p + n)) := if_neg (by omega)
          dsimp only at q
          rw [e2] at q
          walk_at "D"
          refine ws_fsetT ?_
          walk_at "D"
          refine ⟨0, g, _, _, _, _, rfl, rfl, rfl, rfl, T.cl_Growing, T.na_Growing_first, rfl, ?_⟩
          walk_at "D"
          refine ws_fsetT ?_
          walk_at "D"
          refine we_fld ?_
          walk_at "D"
          refine ⟨_, _, _, _, .tag (j := 0) rfl, T.cl_Growing, T.na_Growing_first, rfl, ?_⟩
          walk_at "D"
          refine ⟨0, g, _, _, _, _, rfl, rfl, rfl, rfl, T.cl_Growing, T.na_Growing_behind, rfl, ?_⟩
          walk_at "D"
          exact fin_dat rfl q
end

section
variable {P : Program} {w : World} {K : PySem.W.Frag} {mg : Str → Option Value} {base : Heap}
/-! a byte taken -/
def GSt.app (st : GSt) (b : Int) : GSt := { st with content := st.content ++ [b], noughts := if b = 0 then st.noughts + 1 else 0 }
def growS (st : GSt) (b : Int) : Bool × GSt :=
  match st.kind with
  | none => (decide (1 ≤ b) && decide (b ≤ 9), { st with kind := some b })
  | some k =>
    if st.noughts = 2 then (decide (b = 2), { st with noughts := 0 })
    else match st.first, st.behind with
      | some f, some h =>
        if (st.content.length : Int) = h + 2 then
          (decide (b = 255) && rightS k st.content f h, { st with closed := decide (b = 255) && rightS k st.content f h })
        else (true, st.app b)
      | _, _ => ((measS st.content b).1, (st.app b).met (measS st.content b).2)
structure GOk (st : GSt) : Prop where
  by_ : Byts st.content
  ln : st.content.length ≤ 99999
  kd : ∀ k, st.kind = some k → 0 ≤ k ∧ k ≤ 255
  fi : (st.first = none ∧ st.behind = none) ∨ ∃ f h, st.first = some f ∧ st.behind = some h
def wGrow (CG : Addr) : PW0 := fun xs cs post _ => ∃ (g c : Addr) (st : GSt) (b : Int), xs = [.dat (.cls g), .dat (.int b)] ∧ cs = growC CG g c st ∧ GOk st ∧ 0 ≤ b ∧ b ≤ 255 ∧ post (.dat (.bl (growS st b).1)) (growC CG g c (growS st b).2)
/-- steps up to an expression that is a statement -/
local macro_rules | `(tactic| walk_at "K") => `(tactic| repeat ((fail_if_success (with_reducible refine ws_drop ?_)); first
  | walk_at "d"
  | refine ifT rfl ?_
  | refine ifF rfl ?_))
theorem ok_Growing_grow (T : Txt K mg) : FnOk P w K mg base (L2.CX P w) 8 T.a_Growing_grow T.d_Growing_grow ["self", "byte"] (spG K (wGrow T.c_Growing)) := by
  refine T.F_Growing_grow.okX sc_Growing_grow (fun vs H Q E h => spG_len h fun xs cs post exc ⟨a, b, c, d, e, _⟩ => by rw [e]; rfl) (fun cdv A outer s H vs Q E hr h => ⟨_, (pss_cons (ps_if (pt_cmpR op_isN (pe_fld (pv 0) rfl) pe_non (nomark _)) (pss_cons (ps_fld (pv 0) (pv 1) rfl)
      (pss_one (ps_ret (pe_chain op_le op_le (pe_glob (v := .int 1) (by rfl) T.g_LEAST_KIND ⟨_, rfl⟩) (pv 1) (pe_glob (v := .int 9) (by rfl) T.g_GREATEST_KIND ⟨_, rfl⟩))))) pss_nil)
      (pss_cons (ps_if (pt_cmpR op_eq (pe_fld (pv 0) rfl) pe_int (nomark _)) (pss_cons (ps_fld (pv 0) pe_int rfl)
      (pss_one (ps_ret (pe_cmpR op_eq (pv 1) (pe_glob (v := .int 2) (by rfl) T.g_STUFFING ⟨_, rfl⟩) (nomark _))))) pss_nil)
      (pss_cons (ps_if (PW.pt (pw_and (pt_cmpR op_notN (pe_fld (pv 0) rfl) pe_non (nomark _)) (pw_and1 (pt_cmpR op_eq (pe_callB call_len_seq (by rfl) T.m_len (by decide +kernel) (pa_cons (pe_fld (pv 0) rfl) pa_nil)) (pe_op op_add (pe_fld (pv 0) rfl) pe_int) (nomark _))))) (pss_cons (ps_fld (pv 0) (pe_and (pe_cmpR op_eq (pv 1) (pe_glob (v := .int 255) (by rfl) T.g_END ⟨_, rfl⟩) (nomark _)) (pe_one (pe_meth0 (pv 0) T.cl_Growing T.mt_Growing_is_right (ok_Growing_is_right T) (hr.mono (by decide)) T.b_Growing_is_right .nil (passes_call (takes_of rfl rfl rfl rfl) (fun _ _ _ _ h => h))))) rfl)
      (pss_one (ps_ret (pe_fld (pv 0) rfl)))) pss_nil)
      (pss_cons (ps_expr (pe_bm PySem.F.plainAttrs_list PySem.F.slot_list_append PySem.F.type_list_append mt_append (pe_fld (pv 0) rfl) (pa_cons (pv 1) pa_nil)))
      (pss_cons (ps_fld (pv 0) (pe_ifExp (pt_cmpR op_eq (pv 1) pe_int (nomark _)) (pe_op op_add (pe_fld (pv 0) rfl) pe_int) pe_int) rfl)
      (pss_one (ps_ret (pe_or (pe_cmpR op_notN (pe_fld (pv 0) rfl) pe_non (nomark _)) (pe_one (pe_meth0 (pv 0) T.cl_Growing T.mt_Growing_measure (ok_Growing_measure T) (hr.mono (by decide)) T.b_Growing_measure .nil pass0)))))))))), enter h fun F xs cs post hE hw => ?_⟩)
  subst hE
  obtain ⟨g, c, ⟨a, kd, ct, nt, fi, be, cl⟩, b, rfl, rfl, ⟨hby, hl, hk, hf⟩, b0, b1, q⟩ := hw
  dsimp only at hby hl hk hf
  dsimp only [growC] at q ⊢
  have ll : (ct.map D.int).length = ct.length := List.length_map ..
  refine ws_seq ?_
  refine ws_if ?_
  walk_at "D"
  refine we_fld ?_
  walk_at "D"
  refine ⟨_, _, _, _, .tag (j := 0) rfl, T.cl_Growing, T.na_Growing_kind, rfl, ?_⟩
  cases kd with
  | none =>
    walk_at "D"
    refine ws_fsetT ?_
    walk_at "D"
    refine ⟨0, g, _, _, _, _, rfl, rfl, rfl, rfl, T.cl_Growing, T.na_Growing_kind, rfl, ?_⟩
    walk_at "D"
    refine we_chain ?_
    walk_at "D"
    refine ifC (fun c1 => ?_) (fun c1 => ?_)
    · walk_at "D"
      have e : (growS ⟨a, none, ct, nt, fi, be, cl⟩ b) = (decide (b ≤ 9), ⟨a, some b, ct, nt, fi, be, cl⟩) := by
        show (decide (1 ≤ b) && decide (b ≤ 9), _) = _
        rw [c1, Bool.true_and]
      rw [e] at q
      exact fin_dat rfl q
    · have e : (growS ⟨a, none, ct, nt, fi, be, cl⟩ b) = (false, ⟨a, some b, ct, nt, fi, be, cl⟩) := by
        show (decide (1 ≤ b) && decide (b ≤ 9), _) = _
        rw [c1, Bool.false_and]
      rw [e] at q
      exact fin_dat rfl q
  | some k =>
    walk_at "D"
    refine we_fld ?_
    walk_at "D"
    refine ⟨_, _, _, _, .tag (j := 0) rfl, T.cl_Growing, T.na_Growing_noughts, rfl, ?_⟩
    walk_at "D"
    refine ifC (fun c1 => ?_) (fun c1 => ?_)
    · have c1 : nt = 2 := of_decide_eq_true c1
      have e : growS ⟨a, some k, ct, nt, fi, be, cl⟩ b = (decide (b = 2), ⟨a, some k, ct, 0, fi, be, cl⟩) := if_pos c1
      rw [e] at q
      walk_at "D"
      refine ws_fsetT ?_
      walk_at "D"
      refine ⟨0, g, _, _, _, _, rfl, rfl, rfl, rfl, T.cl_Growing, T.na_Growing_noughts, rfl, ?_⟩
      walk_at "D"
      exact fin_dat rfl q
    · have c3 : ¬ nt = 2 := of_decide_eq_false c1
      clear c1
      walk_at "D"
      refine we_fld ?_
      walk_at "D"
      refine ⟨_, _, _, _, .tag (j := 0) rfl, T.cl_Growing, T.na_Growing_behind, rfl, ?_⟩
      rcases hf with ⟨rfl, rfl⟩ | ⟨f, h, rfl, rfl⟩
      · have e : growS ⟨a, some k, ct, nt, none, none, cl⟩ b = ((measS ct b).1, (GSt.app ⟨a, some k, ct, nt, none, none, cl⟩ b).met (measS ct b).2) := if_neg c3
        rw [e] at q
        walk_at "K"
        refine ws_drop ?_
        refine we_bmT ?_
        walk_at "D"
        refine we_fld ?_
        walk_at "D"
        refine ⟨_, _, _, _, .tag (j := 0) rfl, T.cl_Growing, T.na_Growing_content, rfl, ?_⟩
        refine ⟨⟨1, c, _, rfl, rfl⟩, ?_⟩
        walk_at "D"
        refine wm_appendT (j := 1) rfl rfl (by rw [ll]; omega) ?_
        walk_at "D"
        refine ws_fsetT ?_
        refine WpE.imp (k := fun y ρ1 => y = .dat (.int (if b = 0 then nt + 1 else 0)) ∧ ρ1 = ⟨[some (.dat (.cls g)), some (.dat (.int b))], [.oth (insX g T.c_Growing gN (growF c ⟨a, some k, ct, nt, none, none, cl⟩)), .oth (lstX c (ct.map D.int ++ [.int b]))]⟩) ?_ ?_
        · walk_at "D"
          refine ifC (fun c2 => ?_) (fun c2 => ?_)
          · rw [if_pos (of_decide_eq_true c2)]
            walk_at "D"
            refine we_fld ?_
            walk_at "D"
            refine ⟨_, _, _, _, .tag (j := 0) rfl, T.cl_Growing, T.na_Growing_noughts, rfl, ?_⟩
            walk_at "D"
            exact ⟨rfl, rfl⟩
          · rw [if_neg (of_decide_eq_false c2)]
            walk_at "D"
            exact ⟨rfl, rfl⟩
        rintro y ρ1 ⟨rfl, rfl⟩
        walk_at "D"
        refine ⟨0, g, _, _, _, _, rfl, rfl, rfl, rfl, T.cl_Growing, T.na_Growing_noughts, rfl, ?_⟩
        walk_at "D"
        refine we_fld ?_
        walk_at "D"
        refine ⟨_, _, _, _, .tag (j := 0) rfl, T.cl_Growing, T.na_Growing_behind, rfl, ?_⟩
        walk_at "D"
        refine we_meth ?_
        walk_at "D"
        refine ⟨_, _, .tag (j := 0) rfl, rfl, ?_⟩
        walk_at "D"
        have e2 : ct.map D.int ++ [.int b] = (ct ++ [b]).map D.int := by rw [List.map_append]; rfl
        rw [e2]
        refine wspP0 (ds := [.cls g]) (js := [0, 1]) (cs := growC T.c_Growing g c (GSt.app ⟨a, some k, ct, nt, none, none, cl⟩ b)) rfl (by decide) rfl ⟨g, c, _, ct, b, rfl, rfl, rfl, ?_, ?_, ?_⟩
        · intro y m
          rcases List.mem_append.mp m with m | m
          · exact hby y m
          · rw [List.mem_singleton.mp m]; exact ⟨b0, b1⟩
        · show (ct ++ [b]).length ≤ _
          rw [List.length_append]
          show ct.length + 1 ≤ _
          omega
        · exact ⟨rfl, rfl, fin_dat rfl q⟩
      · walk_at "D"
        refine we_fld ?_
        walk_at "D"
        refine ⟨_, _, _, _, .tag (j := 0) rfl, T.cl_Growing, T.na_Growing_content, rfl, ?_⟩
        walk_at "D"
        refine wc_lenL (.tag (j := 1) rfl) ?_
        rw [ll]
        walk_at "D"
        refine we_fld ?_
        walk_at "D"
        refine ⟨_, _, _, _, .tag (j := 0) rfl, T.cl_Growing, T.na_Growing_behind, rfl, ?_⟩
        walk_at "D"
        refine wr_I0i (i := h) ?_
        walk_at "D"
        refine ifC (fun c4 => ?_) (fun c4 => ?_)
        · have c4 : (ct.length : Int) = h + 2 := of_decide_eq_true c4
          have e : growS ⟨a, some k, ct, nt, some f, some h, cl⟩ b = (decide (b = 255) && rightS k ct f h, ⟨a, some k, ct, nt, some f, some h, decide (b = 255) && rightS k ct f h⟩) := (if_neg c3).trans (if_pos c4)
          rw [e] at q
          walk_at "K"
          refine ws_fsetT ?_
          refine WpE.imp (k := fun y ρ1 => y = .dat (.bl (decide (b = 255) && rightS k ct f h)) ∧ ρ1 = ⟨[some (.dat (.cls g)), some (.dat (.int b))], growC T.c_Growing g c ⟨a, some k, ct, nt, some f, some h, cl⟩⟩) ?_ ?_
          · walk_at "D"
            refine ifC (fun c5 => ?_) (fun c5 => ?_)
            · have c5 : b = 255 := of_decide_eq_true c5
              rw [decide_eq_true c5, Bool.true_and]
              walk_at "D"
              refine we_meth ?_
              walk_at "D"
              refine ⟨_, _, .tag (j := 0) rfl, rfl, ?_⟩
              walk_at "D"
              refine wspP0 (ds := [.cls g]) (js := [0, 1]) (cs := growC T.c_Growing g c ⟨a, some k, ct, nt, some f, some h, cl⟩) rfl (by decide) rfl ⟨g, c, _, k, f, h, rfl, rfl, rfl, rfl, rfl, ?_, ?_, rfl, rfl, rfl, rfl⟩
              · intro y m
                rcases List.mem_cons.mp m with rfl | m
                · exact hk y rfl
                · exact hby y m
              · show ct.length ≤ _
                omega
            · have c5 : ¬ b = 255 := of_decide_eq_false c5
              rw [decide_eq_false c5, Bool.false_and]
              exact ⟨rfl, rfl⟩
          rintro y ρ1 ⟨rfl, rfl⟩
          walk_at "D"
          refine ⟨0, g, _, _, _, _, rfl, rfl, rfl, rfl, T.cl_Growing, T.na_Growing_closed, rfl, ?_⟩
          walk_at "D"
          refine we_fld ?_
          walk_at "D"
          refine ⟨_, _, _, _, .tag (j := 0) rfl, T.cl_Growing, T.na_Growing_closed, rfl, ?_⟩
          walk_at "D"
          exact fin_dat rfl q
        · have c4 : ¬ (ct.length : Int) = h + 2 := of_decide_eq_false c4
          have e : growS ⟨a, some k, ct, nt, some f, some h, cl⟩ b = (true, GSt.app ⟨a, some k, ct, nt, some f, some h, cl⟩ b) := (if_neg c3).trans (if_neg c4)
          rw [e] at q
          walk_at "K"
          refine ws_drop ?_
          refine we_bmT ?_
          walk_at "D"
          refine we_fld ?_
          walk_at "D"
          refine ⟨_, _, _, _, .tag (j := 0) rfl, T.cl_Growing, T.na_Growing_content, rfl, ?_⟩
          refine ⟨⟨1, c, _, rfl, rfl⟩, ?_⟩
          walk_at "D"
          refine wm_appendT (j := 1) rfl rfl (by rw [ll]; omega) ?_
          walk_at "D"
          refine ws_fsetT ?_
          refine WpE.imp (k := fun y ρ1 => y = .dat (.int (if b = 0 then nt + 1 else 0)) ∧ ρ1 = ⟨[some (.dat (.cls g)), some (.dat (.int b))], [.oth (insX g T.c_Growing gN (growF c ⟨a, some k, ct, nt, some f, some h, cl⟩)), .oth (lstX c (ct.map D.int ++ [.int b]))]⟩) ?_ ?_
          · walk_at "D"
            refine ifC (fun c2 => ?_) (fun c2 => ?_)
            · rw [if_pos (of_decide_eq_true c2)]
              walk_at "D"
              refine we_fld ?_
              walk_at "D"
              refine ⟨_, _, _, _, .tag (j := 0) rfl, T.cl_Growing, T.na_Growing_noughts, rfl, ?_⟩
              walk_at "D"
              exact ⟨rfl, rfl⟩
            · rw [if_neg (of_decide_eq_false c2)]
              walk_at "D"
              exact ⟨rfl, rfl⟩
          rintro y ρ1 ⟨rfl, rfl⟩
          walk_at "D"
          refine ⟨0, g, _, _, _, _, rfl, rfl, rfl, rfl, T.cl_Growing, T.na_Growing_noughts, rfl, ?_⟩
          walk_at "D"
          refine we_fld ?_
          walk_at "D"
          refine ⟨_, _, _, _, .tag (j := 0) rfl, T.cl_Growing, T.na_Growing_behind, rfl, ?_⟩
          walk_at "D"
          have e2 : ct.map D.int ++ [.int b] = (ct ++ [b]).map D.int := by rw [List.map_append]; rfl
          rw [e2]
          exact fin_dat rfl q
end

section
variable {P : Program} {w : World} {K : PySem.W.Frag} {mg : Str → Option Value} {base : Heap}
/-- what follows begins with the cells that were there before; a new list may have become data -/
inductive Fz (n : Nat) (ρ : En) : En → Prop
  | tr {ρ' : En} : Tr n ρ ρ' → Fz n ρ ρ'
  | fz {ρ' : En} (j : Nat) (ds : List D) : ρ.ce[j]? = some (.lst ds) → Tr n (ρ.frz j ds) ρ' → Fz n ρ ρ'
theorem ws_seqZ {K : PySem.W.Frag} {F : Fx} {ρ : En} {ks : KS} {a b : TS} (h : ∀ R, R = b → WpS K F a ρ { nx := fun ρ1 => ∃ ρ3, Fz ρ.ce.length ρ1 ρ3 ∧ WpS K F R ρ3 ks, rt := ks.rt, bk := ks.bk, ct := ks.ct }) : WpS K F (tSeq a b) ρ ks := fun as σ H G e D q =>
  h b rfl as σ H G e { D with nx := b D } ⟨fun ρ1 as1 σ1 H1 G1 ⟨ρ3, t, hk⟩ e1 g1 => by
    cases t with
    | tr t =>
      obtain ⟨as', e', _, g'⟩ := t.run2 e1 e1 g1 (Nat.le_of_eq e.ln) (by have := e.pr.length_le; rw [e.ln] at this; exact this)
      exact hk as' σ1 H1 G1 e' D (q.grow K F g')
    | fz j ds hj t =>
      have hl : j < as1.length := by rw [e1.ln]; exact (List.getElem?_eq_some_iff.mp hj).1
      obtain ⟨vs, e2, g2, _⟩ := e1.frz hj (List.getElem?_eq_getElem hl)
      obtain ⟨as', e', _, g'⟩ := t.run2 e2 e2 (g1.trans g2) (Nat.le_of_eq e.ln) (by have := e.pr.length_le; rw [e.ln] at this; exact this)
      exact hk as' σ1 H1 _ e' D (q.grow K F g'), q.rt, q.bk, q.ct, q.fr⟩
/-- a statement whose ends are told by P, then the rest for each of them -/
theorem ws_seqP {α : Type} {K : PySem.W.Frag} {F : Fx} {ρ : En} {ks : KS} {a b : TS} (P : α → Prop) (env : α → En) (h1 : ∀ x, P x → WpS K F b (env x) ks) (h2 : WpS K F a ρ { nx := fun ρ1 => ∃ x, P x ∧ Fz ρ.ce.length ρ1 (env x), rt := ks.rt, bk := ks.bk, ct := ks.ct }) : WpS K F (tSeq a b) ρ ks :=
  ws_seqZ fun R hR => WpS.imp h2 (fun ρ1 ⟨x, px, f⟩ => ⟨_, f, hR ▸ h1 x px⟩) (fun _ _ z => z) (fun _ z => z) (fun _ z => z)
/-! ### a row that comes by parts -/
def GSt.bod (st : GSt) : List Int := match st.first, st.behind with
  | some f, some h => cutI st.content (some f) (some h)
  | _, _ => []
def boxD (st : GSt) : D := .tup [.int st.at_, oD st.kind, .lst (st.bod.map D.int)]
def stepF (re no : Int) (gr : Option GSt) (b : Int) : Option GSt × Option GSt :=
  if b = 1 ∧ 2 ≤ no then (some (GSt.init (re - 2)), none)
  else match gr with
    | none => (none, none)
    | some st =>
      if (growS st b).1 = true then
        if (growS st b).2.closed = true then (none, some (growS st b).2) else (some (growS st b).2, none)
      else (none, none)
def runF : Int → Int → Option GSt → List Int → List GSt
  | _, _, _, [] => []
  | re, no, gr, b :: r => (stepF re no gr b).2.toList ++ runF (re + 1) (if b = 0 then no + 1 else 0) (stepF re no gr b).1 r
structure GI (m : Nat) (st : GSt) : Prop where
  by_ : Byts st.content
  ln : st.content.length + m ≤ 90000
  kd : ∀ k, st.kind = some k → 0 ≤ k ∧ k ≤ 255
  fi : (st.first = none ∧ st.behind = none) ∨ ∃ f h, st.first = some f ∧ st.behind = some h
  op : st.closed = false
theorem GI.ok {m : Nat} {st : GSt} (h : GI m st) : GOk st := ⟨h.by_, by have := h.ln; omega, h.kd, h.fi⟩
theorem GI.init {m : Nat} (a : Int) (h : m ≤ 90000) : GI m (GSt.init a) := ⟨(fun _ m => nomatch m), by show 0 + m ≤ _; omega, (fun _ z => nomatch z), .inl ⟨rfl, rfl⟩, rfl⟩
theorem Byts.app {ct : List Int} {b : Int} (h : Byts ct) (b0 : 0 ≤ b) (b1 : b ≤ 255) : Byts (ct ++ [b]) := by
  intro y m
  rcases List.mem_append.mp m with m | m
  · exact h y m
  · rw [List.mem_singleton.mp m]; exact ⟨b0, b1⟩
theorem GI.app {m : Nat} {st : GSt} {b : Int} (h : GI (m + 1) st) (b0 : 0 ≤ b) (b1 : b ≤ 255) : GI m (st.app b) := ⟨h.by_.app b0 b1, by have := h.ln; show (st.content ++ [b]).length + m ≤ _; rw [List.length_append]; show st.content.length + 1 + m ≤ _; omega, h.kd, h.fi, h.op⟩
theorem GI.less {m : Nat} {st : GSt} (h : GI (m + 1) st) : GI m st := ⟨h.by_, by have := h.ln; omega, h.kd, h.fi, h.op⟩
theorem GI.met {m : Nat} {st : GSt} (h : GI m st) (hf : st.first = none ∧ st.behind = none) : ∀ x, GI m (st.met x)
  | none => h
  | some (p, q) => ⟨h.by_, h.ln, h.kd, .inr ⟨p, q, rfl, rfl⟩, h.op⟩
theorem grow_end {m : Nat} {st : GSt} {b : Int} (h : GI (m + 1) st) (b0 : 0 ≤ b) (b1 : b ≤ 255) (g : (growS st b).1 = true) : ((growS st b).2.closed = true ∧ ∃ k f h, (growS st b).2.kind = some k ∧ (growS st b).2.first = some f ∧ (growS st b).2.behind = some h) ∨ ((growS st b).2.closed = false ∧ GI m (growS st b).2) := by
  cases hk : st.kind with
  | none =>
    have e : growS st b = (decide (1 ≤ b) && decide (b ≤ 9), { st with kind := some b }) := by unfold growS; rw [hk]
    rw [e]
    exact .inr ⟨h.op, h.by_, h.less.ln, fun k hk => by cases hk; exact ⟨b0, b1⟩, h.fi, h.op⟩
  | some k =>
    by_cases n2 : st.noughts = 2
    · have e : growS st b = (decide (b = 2), { st with noughts := 0 }) := by unfold growS; rw [hk]; exact if_pos n2
      rw [e]
      exact .inr ⟨h.op, h.by_, h.less.ln, h.kd, h.fi, h.op⟩
    · rcases h.fi with ⟨f1, f2⟩ | ⟨f, q, f1, f2⟩
      · have e : growS st b = ((measS st.content b).1, (st.app b).met (measS st.content b).2) := by unfold growS; rw [hk, f1, f2]; exact if_neg n2
        rw [e]
        have := (h.app b0 b1).met (x := (measS st.content b).2) ⟨f1, f2⟩
        exact .inr ⟨this.op, this⟩
      · by_cases l2 : (st.content.length : Int) = q + 2
        · have e : growS st b = (decide (b = 255) && rightS k st.content f q, { st with closed := decide (b = 255) && rightS k st.content f q }) := by unfold growS; rw [hk, f1, f2]; exact (if_neg n2).trans (if_pos l2)
          rw [e] at g ⊢
          exact .inl ⟨g, k, f, q, hk, f1, f2⟩
        · have e : growS st b = (true, st.app b) := by unfold growS; rw [hk, f1, f2]; exact (if_neg n2).trans (if_neg l2)
          rw [e]
          have := h.app b0 b1
          exact .inr ⟨this.op, this⟩
end
/-! ### what a growing box comes to -/
def runG : GSt → List Int → Option (GSt × List Int)
  | _, [] => none
  | st, b :: r => if (growS st b).1 = true then if (growS st b).2.closed = true then some ((growS st b).2, r) else runG (growS st b).2 r else none
def ownG : Option GSt → List Int → List GSt
  | none, _ => []
  | some st, r => ((runG st r).map Prod.fst).toList
def nx0 (no b : Int) : Int := if b = 0 then no + 1 else 0
def bxF : Int → Int → List Int → List GSt
  | _, _, [] => []
  | re, no, b :: r => (if b = 1 ∧ 2 ≤ no then ownG (some (GSt.init (re - 2))) r else []) ++ bxF (re + 1) (nx0 no b) r
def ZI (no : Int) (st : GSt) : Prop := (st.kind = none ∧ no = 0 ∧ st.noughts = 0) ∨ ∃ k, st.kind = some k ∧ no ≤ st.noughts ∧ st.noughts ≤ 2
theorem met_nought (st : GSt) (x : Option (Int × Int)) : (st.met x).noughts = st.noughts ∧ (st.met x).kind = st.kind ∧ (st.met x).content = st.content ∧ (st.met x).closed = st.closed ∧ (st.met x).at_ = st.at_ := by
  cases x with
  | none => exact ⟨rfl, rfl, rfl, rfl, rfl⟩
  | some x => exact ⟨rfl, rfl, rfl, rfl, rfl⟩
theorem ZI.dead {no : Int} {st : GSt} (h : ZI no st) (n2 : 2 ≤ no) : (growS st 1).1 = false := by
  rcases h with ⟨_, h, _⟩ | ⟨k, hk, h1, h2⟩
  · omega
  · have e : growS st 1 = (decide ((1 : Int) = 2), { st with noughts := 0 }) := by unfold growS; rw [hk]; exact if_pos (by omega)
    rw [e]
    rfl
theorem growS_none {st : GSt} {b : Int} (hk : st.kind = none) : growS st b = (decide (1 ≤ b) && decide (b ≤ 9), { st with kind := some b }) := by unfold growS; rw [hk]
theorem growS_two {st : GSt} {b k : Int} (hk : st.kind = some k) (n2 : st.noughts = 2) : growS st b = (decide (b = 2), { st with noughts := 0 }) := by unfold growS; rw [hk]; exact if_pos n2
theorem growS_meas {st : GSt} {b k : Int} (hk : st.kind = some k) (n2 : st.noughts ≠ 2) (f : st.first = none ∧ st.behind = none) : growS st b = ((measS st.content b).1, (st.app b).met (measS st.content b).2) := by unfold growS; rw [hk, f.1, f.2]; exact if_neg n2
theorem growS_full {st : GSt} {b k f h : Int} (hk : st.kind = some k) (n2 : st.noughts ≠ 2) (f1 : st.first = some f) (f2 : st.behind = some h) (l : (st.content.length : Int) = h + 2) : growS st b = (decide (b = 255) && rightS k st.content f h, { st with closed := decide (b = 255) && rightS k st.content f h }) := by unfold growS; rw [hk, f1, f2]; exact (if_neg n2).trans (if_pos l)
theorem growS_more {st : GSt} {b k f h : Int} (hk : st.kind = some k) (n2 : st.noughts ≠ 2) (f1 : st.first = some f) (f2 : st.behind = some h) (l : ¬ (st.content.length : Int) = h + 2) : growS st b = (true, st.app b) := by unfold growS; rw [hk, f1, f2]; exact (if_neg n2).trans (if_neg l)
theorem ZI.next {no : Int} {st : GSt} {b : Int} (h : ZI no st) (hf : (st.first = none ∧ st.behind = none) ∨ ∃ f h, st.first = some f ∧ st.behind = some h) (g : (growS st b).1 = true) (cl : (growS st b).2.closed = false) : ZI (nx0 no b) (growS st b).2 := by
  rcases h with ⟨hk, h0, h1⟩ | ⟨k, hk, h1, h2⟩
  · rw [growS_none hk] at g ⊢
    have g : (decide (1 ≤ b) && decide (b ≤ 9)) = true := g
    rw [Bool.and_eq_true] at g
    have := of_decide_eq_true g.1
    refine .inr ⟨b, rfl, ?_, ?_⟩
    · show nx0 no b ≤ st.noughts
      unfold nx0
      rw [if_neg (by omega)]
      omega
    · show st.noughts ≤ 2
      omega
  · by_cases n2 : st.noughts = 2
    · rw [growS_two hk n2] at g ⊢
      have g : b = 2 := of_decide_eq_true g
      refine .inr ⟨k, hk, ?_, (by decide : (0 : Int) ≤ 2)⟩
      show nx0 no b ≤ 0
      unfold nx0
      rw [if_neg (by omega)]
      omega
    · have app : ∀ x, ZI (nx0 no b) ((st.app b).met x) := fun x => by
        refine .inr ⟨k, (met_nought _ x).2.1.trans hk, ?_, ?_⟩
        · rw [(met_nought _ x).1]
          show nx0 no b ≤ if b = 0 then st.noughts + 1 else 0
          unfold nx0
          split <;> omega
        · rw [(met_nought _ x).1]
          show (if b = 0 then st.noughts + 1 else 0) ≤ 2
          split <;> omega
      rcases hf with hf | ⟨f, q, f1, f2⟩
      · rw [growS_meas hk n2 hf]
        exact app _
      · by_cases l : (st.content.length : Int) = q + 2
        · rw [growS_full hk n2 f1 f2 l] at g cl
          have g : (decide (b = 255) && rightS k st.content f q) = true := g
          have cl : (decide (b = 255) && rightS k st.content f q) = false := cl
          rw [g] at cl
          cases cl
        · rw [growS_more hk n2 f1 f2 l]
          exact app none
/-- P1a: the boxes of all STARTs -/
theorem runF_bx : ∀ (r : List Int) (re no : Int) (gr : Option GSt), (∀ st, gr = some st → ZI no st ∧ GI r.length st) → Byts r → r.length ≤ 90000 → runF re no gr r = ownG gr r ++ bxF re no r
  | [], re, no, gr, h, _, _ => by cases gr <;> rfl
  | b :: r, re, no, gr, h, hb, hl => by
    have hb3 := hb b List.mem_cons_self
    have hb4 : Byts r := fun y m => hb y (List.mem_cons_of_mem _ m)
    have hl4 : r.length ≤ 90000 := by rw [List.length_cons] at hl; omega
    show (stepF re no gr b).2.toList ++ runF (re + 1) (nx0 no b) (stepF re no gr b).1 r = ownG gr (b :: r) ++ ((if b = 1 ∧ 2 ≤ no then ownG (some (GSt.init (re - 2))) r else []) ++ bxF (re + 1) (nx0 no b) r)
    by_cases c : b = 1 ∧ 2 ≤ no
    · have e : stepF re no gr b = (some (GSt.init (re - 2)), none) := if_pos c
      rw [e, if_pos c]
      have e2 : ownG gr (b :: r) = [] := by
        cases gr with
        | none => rfl
        | some st =>
          have := (h st rfl).1.dead c.2
          rw [← c.1] at this
          show ((if (growS st b).1 = true then _ else none : Option (GSt × List Int)).map Prod.fst).toList = []
          rw [if_neg (by rw [this]; exact Bool.false_ne_true)]
          rfl
      rw [e2]
      refine runF_bx r (re + 1) (nx0 no b) _ (fun st hs => ?_) hb4 hl4
      cases hs
      refine ⟨.inl ⟨rfl, ?_, rfl⟩, GI.init _ hl4⟩
      unfold nx0
      rw [if_neg (by omega)]
    · rw [if_neg c]
      cases gr with
      | none =>
        have e : stepF re no none b = (none, none) := if_neg c
        rw [e]
        exact runF_bx r (re + 1) (nx0 no b) none (fun st hs => nomatch hs) hb4 hl4
      | some st =>
        obtain ⟨zi, gi⟩ := h st rfl
        have e0 : stepF re no (some st) b = if (growS st b).1 = true then if (growS st b).2.closed = true then (none, some (growS st b).2) else (some (growS st b).2, none) else (none, none) := if_neg c
        have eo : ownG (some st) (b :: r) = ((if (growS st b).1 = true then if (growS st b).2.closed = true then some ((growS st b).2, r) else runG (growS st b).2 r else none : Option (GSt × List Int)).map Prod.fst).toList := rfl
        by_cases g : (growS st b).1 = true
        · rw [if_pos g] at e0 eo
          rcases grow_end gi hb3.1 hb3.2 g with ⟨cl, _⟩ | ⟨cl, gi2⟩
          · rw [if_pos cl] at e0 eo
            rw [e0, eo]
            show [(growS st b).2] ++ runF (re + 1) (nx0 no b) none r = _
            rw [runF_bx r (re + 1) (nx0 no b) none (fun st hs => nomatch hs) hb4 hl4]
            rfl
          · rw [if_neg (by rw [cl]; exact Bool.false_ne_true)] at e0 eo
            rw [e0, eo]
            show runF (re + 1) (nx0 no b) (some (growS st b).2) r = _
            rw [runF_bx r (re + 1) (nx0 no b) _ (fun st2 hs => by cases hs; exact ⟨zi.next gi.fi g cl, gi2⟩) hb4 hl4]
            rfl
        · rw [if_neg g] at e0 eo
          rw [e0, eo]
          exact runF_bx r (re + 1) (nx0 no b) none (fun st hs => nomatch hs) hb4 hl4
/-- what stands at the begin of a row -/
def stB (at_ : Int) (l : List Int) : List GSt := if l.take 3 = [0, 0, 1] then ownG (some (GSt.init at_)) (l.drop 3) else []
def bx : Int → List Int → List GSt
  | _, [] => []
  | a, b :: r => stB a (b :: r) ++ bx (a + 1) r
theorem bxF_bx : ∀ (r : List Int) (re no : Int), 0 ≤ no → bxF re no r = if no = 0 then bx re r else if no = 1 then bx (re - 1) (0 :: r) else bx (re - 2) (0 :: 0 :: r)
  | [], re, no, h => by
    have z : ∀ a, stB a [0] = [] := fun a => if_neg (by decide)
    have z2 : ∀ a, stB a [0, 0] = [] := fun a => if_neg (by decide)
    split
    · rfl
    · split
      · show [] = stB _ [0] ++ []
        rw [z]; rfl
      · show [] = stB _ [0, 0] ++ (stB _ [0] ++ [])
        rw [z, z2]; rfl
  | b :: r, re, no, h => by
    show (if b = 1 ∧ 2 ≤ no then ownG (some (GSt.init (re - 2))) r else []) ++ bxF (re + 1) (nx0 no b) r = _
    have hn : 0 ≤ nx0 no b := by unfold nx0; split <;> omega
    rw [bxF_bx r (re + 1) (nx0 no b) hn]
    have t3 : ∀ (a : Int) (x y c : Int) (s : List Int), stB a (x :: y :: c :: s) = if x = 0 ∧ y = 0 ∧ c = 1 then ownG (some (GSt.init a)) s else [] := fun a x y c s => by
      unfold stB
      by_cases q : x = 0 ∧ y = 0 ∧ c = 1
      · obtain ⟨rfl, rfl, rfl⟩ := q
        rw [if_pos (show List.take 3 (0 :: 0 :: 1 :: s) = [0, 0, 1] from rfl), if_pos ⟨rfl, rfl, rfl⟩]
        rfl
      · rw [if_neg q, if_neg fun z => ?_]
        have z : [x, y, c] = [0, 0, 1] := z
        simp only [List.cons.injEq] at z
        exact q ⟨z.1, z.2.1, z.2.2.1⟩
    have no0 : ∀ (a x : Int) (s : List Int), x ≠ 0 → stB a (x :: s) = [] := fun a x s q => if_neg fun z => by
      rw [List.take_succ_cons] at z
      exact q (List.cons.inj z).1
    have no1 : ∀ (a x y : Int) (s : List Int), y ≠ 0 → stB a (x :: y :: s) = [] := fun a x y s q => if_neg fun z => by
      rw [List.take_succ_cons, List.take_succ_cons] at z
      exact q (List.cons.inj (List.cons.inj z).2).1
    unfold nx0
    by_cases b0 : b = 0
    · subst b0
      rw [if_neg (by omega), if_pos rfl, if_neg (show ¬ no + 1 = 0 by omega)]
      by_cases n0 : no = 0
      · subst n0
        rw [if_pos rfl, if_pos (by omega), show re + 1 - 1 = re by omega]
        rfl
      · rw [if_neg n0, if_neg (show ¬ no + 1 = 1 by omega)]
        by_cases n1 : no = 1
        · subst n1
          rw [if_pos rfl, show re + 1 - 2 = re - 1 by omega]
          rfl
        · rw [if_neg n1]
          show [] ++ bx (re + 1 - 2) (0 :: 0 :: r) = stB (re - 2) (0 :: 0 :: 0 :: r) ++ bx (re - 2 + 1) (0 :: 0 :: r)
          rw [t3, if_neg (by omega), show re + 1 - 2 = re - 2 + 1 by omega]
    · rw [if_neg b0, if_pos rfl]
      by_cases n0 : no = 0
      · subst n0
        rw [if_pos rfl, if_neg (by omega)]
        show [] ++ bx (re + 1) r = stB re (b :: r) ++ bx (re + 1) r
        rw [no0 _ _ _ b0]
      · rw [if_neg n0]
        by_cases n1 : no = 1
        · subst n1
          rw [if_pos rfl, if_neg (by omega)]
          show [] ++ bx (re + 1) r = stB (re - 1) (0 :: b :: r) ++ (stB (re - 1 + 1) (b :: r) ++ bx (re - 1 + 1 + 1) r)
          rw [no1 _ _ _ _ b0, no0 _ _ _ b0, show re - 1 + 1 + 1 = re + 1 by omega]
          rfl
        · rw [if_neg n1]
          show _ = stB (re - 2) (0 :: 0 :: b :: r) ++ (stB (re - 2 + 1) (0 :: b :: r) ++ (stB (re - 2 + 1 + 1) (b :: r) ++ bx (re - 2 + 1 + 1 + 1) r))
          rw [t3, no1 _ _ _ _ b0, no0 _ _ _ b0, show re - 2 + 1 + 1 + 1 = re + 1 by omega]
          by_cases b1 : b = 1
          · subst b1
            rw [if_pos (by omega), if_pos ⟨rfl, rfl, rfl⟩]
            rfl
          · rw [if_neg (by omega), if_neg (by omega)]
            rfl
theorem runF_all {ns : List Int} (hb : Byts ns) (hl : ns.length ≤ 90000) : runF 0 0 none ns = bx 0 ns := by
  rw [runF_bx ns 0 0 none (fun st hs => nomatch hs) hb hl, bxF_bx ns 0 0 (by decide), if_pos rfl]
  rfl
/-! ### the law's own reading -/
/-- the bytes unstuffed, each with the rest behind it and its 2 -/
def U : List Int → Int → List (Int × List Int)
  | [], _ => []
  | [b], z => if b = 0 ∧ z = 1 then [] else [(b, [])]
  | b :: c :: r, z => if b = 0 ∧ z = 1 then (if c = 2 then (b, r) :: U r 0 else []) else (b, c :: r) :: U (c :: r) (if b = 0 then 1 else 0)
theorem goN_app : ∀ (l X : List Int) (a p n q : Int), goN l a p = some (n, q) → 0 ≤ a → goN (l ++ X) a p = some (n, q) ∧ a * 128 ≤ n ∧ p < q ∧ q ≤ p + l.length
  | [], _, _, _, _, _, h, _ => nomatch h
  | f :: l, X, a, p, n, q, h, a0 => by
    rw [goN] at h
    rw [List.cons_append, goN]
    have fm := Int.emod_nonneg f (b := 128) (by decide)
    by_cases c : a * 128 + f % 128 > 1000000000000000000000000000000000000000000000000000000000000
    · rw [if_pos c] at h; cases h
    · rw [if_neg c] at h ⊢
      by_cases d : f < 128
      · rw [if_pos d] at h ⊢
        cases h
        rw [List.length_cons]
        exact ⟨rfl, by omega, by omega, by omega⟩
      · rw [if_neg d] at h ⊢
        obtain ⟨h1, h2, h3, h4⟩ := goN_app l X _ _ n q h (by omega)
        rw [List.length_cons]
        exact ⟨h1, by omega, by omega, by omega⟩
theorem numA_app {l : List Int} {n q : Int} (X : List Int) (h : numA l 0 = some (n, q)) : numA (l ++ X) 0 = some (n, q) ∧ 0 ≤ n ∧ 0 < q ∧ q ≤ l.length := by
  cases l with
  | nil => cases h
  | cons f l =>
    rw [numA] at h
    rw [List.cons_append, numA]
    by_cases c : f = 128
    · rw [if_pos c] at h; cases h
    · rw [if_neg c] at h ⊢
      obtain ⟨h1, h2, h3, h4⟩ := goN_app (f :: l) X 0 0 n q h (by decide)
      exact ⟨h1, by omega, h3, by omega⟩
theorem goN_hi : ∀ (l : List Int) (a p : Int), (∀ x ∈ l, 128 ≤ x) → goN l a p = none
  | [], _, _, _ => rfl
  | f :: l, a, p, h => by
    have := h f List.mem_cons_self
    rw [goN, goN_hi l _ _ fun x m => h x (List.mem_cons_of_mem _ m)]
    split
    · rfl
    · rw [if_neg (by omega)]
theorem numA_hi {l : List Int} (h : ∀ x ∈ l, 128 ≤ x) : numA l 0 = none := by
  cases l with
  | nil => rfl
  | cons f l =>
    rw [numA, goN_hi _ _ _ h]
    split <;> rfl
/-- no body has such a length -/
def BadL (F : List Int) : Prop := ∀ n p, numA F 0 = some (n, p) → 60000 < n
theorem meas_cases {ct : List Int} {b : Int} (hm : ct.length < 3) (all : ∀ x ∈ ct, 128 ≤ x ∧ x ≤ 255) (b0 : 0 ≤ b) (b1 : b ≤ 255) :
    (measS ct b = (true, none) ∧ (ct ++ [b]).length < 3 ∧ 128 ≤ b) ∨ (∃ n p : Int, numA (ct ++ [b]) 0 = some (n, p) ∧ 0 ≤ n ∧ n ≤ 60000 ∧ ((ct ++ [b]).length : Int) ≤ p + n + 2 ∧ measS ct b = (true, some (p, p + n))) ∨ (measS ct b = (false, none) ∧ ∀ X, BadL (ct ++ [b] ++ X)) := by
  by_cases c : 128 ≤ b ∧ (ct ++ [b]).length < 3
  · exact .inl ⟨if_pos c, c.2, c.1⟩
  · have e : measS ct b = match numA (ct ++ [b]) 0 with | none => (false, none) | some (n, p) => if n > 60000 then (false, none) else (true, some (p, p + n)) := if_neg c
    cases hr : numA (ct ++ [b]) 0 with
    | none =>
      rw [hr] at e
      refine .inr (.inr ⟨e, fun X n p hX => ?_⟩)
      by_cases hb : 128 ≤ b
      · -- three bytes and no end
        have l3 : ct.length = 2 := by
          have : ¬ (ct ++ [b]).length < 3 := fun z => c ⟨hb, z⟩
          rw [List.length_append, List.length_singleton] at this
          omega
        match ct, l3, all with
        | [x, y], _, all =>
          have hx := all x List.mem_cons_self
          have hy := all y (List.mem_cons_of_mem _ List.mem_cons_self)
          have hX : numA (x :: y :: b :: X) 0 = some (n, p) := hX
          rw [numA] at hX
          by_cases x8 : x = 128
          · rw [if_pos x8] at hX; cases hX
          · rw [if_neg x8, goN, if_neg (by omega), if_neg (by omega), goN, if_neg (by omega), if_neg (by omega), goN, if_neg (by omega), if_neg (by omega)] at hX
            have := (goN_app X [] _ _ n p hX (by omega)).2.1
            omega
      · -- the first is 128
        have fine : ∀ (l : List Int) (a q : Int), l.length < 3 → (∀ x ∈ l, 128 ≤ x ∧ x ≤ 255) → 0 ≤ a → a * 128 * 128 * 128 < 1000000000000 → ∃ n p, goN (l ++ [b]) a q = some (n, p) := by
          intro l a q hl hal a0 a1
          match l, hl, hal with
          | [], _, _ => exact ⟨_, _, by rw [List.nil_append, goN, if_neg (by omega), if_pos (by omega)]⟩
          | [x], _, hal =>
            have hx := hal x List.mem_cons_self
            exact ⟨_, _, by rw [List.cons_append, List.nil_append, goN, if_neg (by omega), if_neg (by omega), goN, if_neg (by omega), if_pos (by omega)]⟩
          | [x, y], _, hal =>
            have hx := hal x List.mem_cons_self
            have hy := hal y (List.mem_cons_of_mem _ List.mem_cons_self)
            exact ⟨_, _, by rw [List.cons_append, List.cons_append, List.nil_append, goN, if_neg (by omega), if_neg (by omega), goN, if_neg (by omega), if_neg (by omega), goN, if_neg (by omega), if_pos (by omega)]⟩
        obtain ⟨n1, p1, h1⟩ := fine ct 0 0 hm all (by decide) (by decide)
        cases ct with
        | nil =>
          have hr : numA [b] 0 = none := hr
          have h1 : goN [b] 0 0 = some (n1, p1) := h1
          rw [numA, if_neg (by omega), h1] at hr
          cases hr
        | cons x ct =>
          have hr : numA (x :: (ct ++ [b])) 0 = none := hr
          have h1 : goN (x :: (ct ++ [b])) 0 0 = some (n1, p1) := h1
          have hX : numA (x :: (ct ++ [b] ++ X)) 0 = some (n, p) := hX
          rw [numA] at hr hX
          by_cases x8 : x = 128
          · rw [if_pos x8] at hX; cases hX
          · rw [if_neg x8, h1] at hr; cases hr
    | some y =>
      obtain ⟨n, p⟩ := y
      rw [hr] at e
      have fs := numA_app [] hr
      by_cases big : n > 60000
      · refine .inr (.inr ⟨e.trans (if_pos big), fun X n2 p2 hX => ?_⟩)
        rw [(numA_app X hr).1] at hX
        cases hX
        exact big
      · refine .inr (.inl ⟨n, p, rfl, fs.2.1, by omega, ?_, e.trans (if_neg big)⟩)
        have goL : ∀ (l : List Int) (a q : Int), (∀ x ∈ l, 128 ≤ x ∧ x ≤ 255) → goN (l ++ [b]) a q = some (n, p) → p = q + l.length + 1 := by
          intro l
          induction l with
          | nil =>
            intro a q _ h
            rw [List.nil_append, goN] at h
            split at h
            · cases h
            · split at h
              · cases h
                show q + 1 = q + ((0 : Nat) : Int) + 1
                omega
              · cases h
          | cons x l ih =>
            intro a q hal h
            have hx := hal x List.mem_cons_self
            rw [List.cons_append, goN] at h
            split at h
            · cases h
            · rw [if_neg (by omega)] at h
              have := ih _ _ (fun y m => hal y (List.mem_cons_of_mem _ m)) h
              rw [List.length_cons]
              omega
        have : p = 0 + ct.length + 1 := by
          cases ct with
          | nil =>
            have hr : numA [b] 0 = some (n, p) := hr
            rw [numA] at hr
            split at hr
            · cases hr
            · exact goL [] 0 0 all hr
          | cons x ct =>
            have hr : numA (x :: (ct ++ [b])) 0 = some (n, p) := hr
            rw [numA] at hr
            split at hr
            · cases hr
            · exact goL (x :: ct) 0 0 all hr
        rw [List.length_append, List.length_singleton]
        omega
def lawOn (k : Int) (V : List (Int × List Int)) : Option (List Int × List Int) :=
  match numA (V.map Prod.fst) 0 with
  | none => none
  | some (n, p) =>
    if n > 60000 ∨ p + n + 2 > V.length then none
    else match V[(p + n + 1).toNat]? with
      | none => none
      | some x => if cutI (V.map Prod.fst) (some (p + n)) (some (p + n + 2)) = sumS k (cutI (V.map Prod.fst) (some p) (some (p + n))) ∧ x.2.head? = some 255 then some (cutI (V.map Prod.fst) (some p) (some (p + n)), x.2.tail) else none
theorem lawOn_bad {k : Int} {V : List (Int × List Int)} (h : BadL (V.map Prod.fst)) : lawOn k V = none := by
  unfold lawOn
  cases e : numA (V.map Prod.fst) 0 with
  | none => rfl
  | some x =>
    obtain ⟨n, p⟩ := x
    have := h n p e
    exact if_pos (.inl this)
theorem sIx_in {m d : Nat} {v : Int} (v0 : 0 ≤ v) (vl : v ≤ m) : HT.sIx m d (some v) = v.toNat := by
  show (if v < 0 then (v + (m : Int)).toNat else min v.toNat m) = v.toNat
  rw [if_neg (by omega)]
  omega
theorem cutI_nat (F : List Int) {a b : Int} (a0 : 0 ≤ a) (ab : a ≤ b) (bl : b ≤ F.length) : cutI F (some a) (some b) = (F.drop a.toNat).take (b.toNat - a.toNat) := by
  unfold cutI
  rw [sIx_in a0 (by omega), sIx_in (by omega) bl]
theorem cutI_end (F : List Int) {a : Int} (a0 : 0 ≤ a) (bl : a ≤ F.length) : cutI F (some a) none = F.drop a.toNat := by
  unfold cutI
  rw [sIx_in a0 bl, HT.sIx_none]
  exact List.take_of_length_le (by rw [List.length_drop]; omega)
theorem cutI_app (F X : List Int) {a b : Int} (a0 : 0 ≤ a) (ab : a ≤ b) (bl : b ≤ F.length) : cutI (F ++ X) (some a) (some b) = cutI F (some a) (some b) := by
  rw [cutI_nat _ a0 ab (by rw [List.length_append]; omega), cutI_nat _ a0 ab bl, List.drop_append_of_le_length (by omega), List.take_append_of_le_length (by rw [List.length_drop]; omega)]
/-- the state of a growing box behind some bytes and their stuffings -/
structure Stt (k a : Int) (ct : List Int) (z : Int) (st : GSt) : Prop where
  at_ : st.at_ = a
  kind : st.kind = some k
  content : st.content = ct
  nought : st.noughts = z
  open_ : st.closed = false
  ph : (st.first = none ∧ st.behind = none ∧ ct.length < 3 ∧ ∀ x ∈ ct, 128 ≤ x ∧ x ≤ 255) ∨ ∃ n p : Int, st.first = some p ∧ st.behind = some (p + n) ∧ numA ct 0 = some (n, p) ∧ 0 ≤ n ∧ n ≤ 60000 ∧ (ct.length : Int) ≤ p + n + 2
def outG (x : GSt × List Int) : Int × Option Int × List Int × List Int := (x.1.at_, x.1.kind, x.1.bod, x.2)
def outL (a k : Int) (y : List Int × List Int) : Int × Option Int × List Int × List Int := (a, some k, y.1, y.2)
theorem lawOn_short {k a : Int} {V0 : List (Int × List Int)} {z : Int} {st : GSt} (h : Stt k a (V0.map Prod.fst) z st) (nf : ∀ q, st.behind = some q → (V0.length : Int) ≠ q + 2) : lawOn k V0 = none := by
  rcases h.ph with ⟨_, _, _, all⟩ | ⟨n, p, f1, f2, hn, n0, n1, hl⟩
  · unfold lawOn
    rw [numA_hi fun x m => (all x m).1]
  · unfold lawOn
    rw [hn]
    have := nf _ f2
    rw [List.length_map] at hl
    exact if_pos (.inr (by omega))
theorem runG_cons (st : GSt) (b : Int) (r : List Int) : runG st (b :: r) = if (growS st b).1 = true then if (growS st b).2.closed = true then some ((growS st b).2, r) else runG (growS st b).2 r else none := rfl
theorem run_full {k a z q : Int} {r : List Int} {st : GSt} {V0 : List (Int × List Int)} (h : Stt k a (V0.map Prod.fst) z st) (hz : z = 0 ∨ z = 1) (hq : st.behind = some q) (hl : (V0.length : Int) = q + 2) (hlast : ∀ x, V0.getLast? = some x → x.2 = r) (X : List (Int × List Int)) : (runG st r).map outG = (lawOn k (V0 ++ X)).map (outL a k) := by
  rcases h.ph with ⟨_, f2, _, _⟩ | ⟨n, p, f1, f2, hn, n0, n1, _⟩
  · rw [f2] at hq; cases hq
  · rw [f2] at hq
    cases hq
    have fs := numA_app (X.map Prod.fst) hn
    have ll : (V0.map Prod.fst).length = V0.length := List.length_map ..
    have e1 : numA ((V0 ++ X).map Prod.fst) 0 = some (n, p) := by rw [List.map_append]; exact fs.1
    have p0 := fs.2.2.1
    obtain ⟨x, hx⟩ : ∃ x, V0.getLast? = some x := by
      cases hV : V0.getLast? with
      | some x => exact ⟨x, rfl⟩
      | none =>
        rw [List.getLast?_eq_none_iff] at hV
        subst hV
        have : ((0 : Nat) : Int) = p + n + 2 := hl
        omega
    have hxr := hlast x hx
    have e2 : (V0 ++ X)[(p + n + 1).toNat]? = some x := by
      rw [List.getElem?_append_left (by omega)]
      rw [List.getLast?_eq_getElem?] at hx
      rw [show (p + n + 1).toNat = V0.length - 1 by omega]
      exact hx
    have e3 : cutI ((V0 ++ X).map Prod.fst) (some (p + n)) (some (p + n + 2)) = cutI (V0.map Prod.fst) (some (p + n)) none := by
      rw [List.map_append, cutI_app _ _ (by omega) (by omega) (by omega), cutI_nat _ (by omega) (by omega) (by omega), cutI_end _ (by omega) (by omega)]
      exact List.take_of_length_le (by rw [List.length_drop]; omega)
    have e4 : cutI ((V0 ++ X).map Prod.fst) (some p) (some (p + n)) = cutI (V0.map Prod.fst) (some p) (some (p + n)) := by
      rw [List.map_append, cutI_app _ _ (by omega) (by omega) (by omega)]
    have eL : lawOn k (V0 ++ X) = if cutI (V0.map Prod.fst) (some (p + n)) none = sumS k (cutI (V0.map Prod.fst) (some p) (some (p + n))) ∧ r.head? = some 255 then some (cutI (V0.map Prod.fst) (some p) (some (p + n)), r.tail) else none := by
      unfold lawOn
      rw [e1]
      dsimp only
      rw [if_neg (by rw [List.length_append]; omega), e2]
      dsimp only
      rw [e3, e4, hxr]
    rw [eL]
    cases r with
    | nil =>
      rw [if_neg fun z => by cases z.2]
      rfl
    | cons b r =>
      have eg := growS_full (b := b) h.kind (by rw [h.nought]; omega) f1 f2 (by rw [h.content, ll]; exact hl)
      rw [h.content] at eg
      rw [runG_cons, eg]
      by_cases c : decide (b = 255) && rightS k (V0.map Prod.fst) p (p + n)
      · rw [if_pos c, if_pos c]
        have c := c
        rw [Bool.and_eq_true] at c
        have c1 : b = 255 := of_decide_eq_true c.1
        have c2 : cutI (V0.map Prod.fst) (some (p + n)) none = sumS k (cutI (V0.map Prod.fst) (some p) (some (p + n))) := of_decide_eq_true c.2
        rw [if_pos ⟨c2, by rw [c1]; rfl⟩]
        show some _ = some _
        unfold outG outL GSt.bod
        rw [f1, f2]
        dsimp only
        rw [h.at_, h.kind]
        rfl
      · rw [if_neg c, if_neg fun y => c ?_]
        · rfl
        · have y2 : b = 255 := by have := y.2; injection this
          rw [Bool.and_eq_true]
          exact ⟨decide_eq_true y2, decide_eq_true y.1⟩
theorem U_cons (b : Int) (r : List Int) (z : Int) : U (b :: r) z = if b = 0 ∧ z = 1 then (match r with | [] => [] | c :: r' => if c = 2 then (b, r') :: U r' 0 else []) else (b, r) :: U r (if b = 0 then 1 else 0) := by
  cases r with
  | nil => rfl
  | cons c r => rfl
theorem map_snoc (V0 : List (Int × List Int)) (x : Int × List Int) : (V0 ++ [x]).map Prod.fst = V0.map Prod.fst ++ [x.1] := by rw [List.map_append]; rfl
theorem last_snoc (V0 : List (Int × List Int)) (x : Int × List Int) : ∀ y, (V0 ++ [x]).getLast? = some y → y.2 = x.2 := by
  intro y h
  rw [List.getLast?_concat] at h
  cases h
  rfl
/-- one more byte in a box that is not whole -/
theorem Stt.step {k a z b : Int} {ct : List Int} {st : GSt} (h : Stt k a ct z st) (hz : z = 0 ∨ z = 1) (nf : ∀ q, st.behind = some q → (ct.length : Int) ≠ q + 2) (b0 : 0 ≤ b) (b1 : b ≤ 255) :
    ((growS st b).1 = false ∧ ∀ X, BadL (ct ++ [b] ++ X)) ∨ ((growS st b).1 = true ∧ (growS st b).2.closed = false ∧ Stt k a (ct ++ [b]) (if b = 0 then z + 1 else 0) (growS st b).2) := by
  have n2 : st.noughts ≠ 2 := by rw [h.nought]; omega
  rcases h.ph with ⟨f1, f2, hm, all⟩ | ⟨n, p, f1, f2, hn, n0, n1, hl⟩
  · rw [growS_meas h.kind n2 ⟨f1, f2⟩, h.content]
    rcases meas_cases hm all b0 b1 with ⟨e, l3, b8⟩ | ⟨n, p, hn, n0, n1, hl, e⟩ | ⟨e, bad⟩
    · rw [e]
      refine .inr ⟨rfl, h.open_, h.at_, h.kind, ?_, ?_, h.open_, .inl ⟨f1, f2, l3, fun x m => ?_⟩⟩
      · show st.content ++ [b] = _
        rw [h.content]
      · show (if b = 0 then st.noughts + 1 else 0) = _
        rw [h.nought]
      · rcases List.mem_append.mp m with m | m
        · exact all x m
        · rw [List.mem_singleton.mp m]; exact ⟨b8, b1⟩
    · rw [e]
      refine .inr ⟨rfl, h.open_, h.at_, h.kind, ?_, ?_, h.open_, .inr ⟨n, p, rfl, rfl, hn, n0, n1, hl⟩⟩
      · show st.content ++ [b] = _
        rw [h.content]
      · show (if b = 0 then st.noughts + 1 else 0) = _
        rw [h.nought]
    · rw [e]
      exact .inl ⟨rfl, bad⟩
  · have := nf _ f2
    rw [growS_more h.kind n2 f1 f2 (by rw [h.content]; omega)]
    refine .inr ⟨rfl, h.open_, h.at_, h.kind, ?_, ?_, h.open_, .inr ⟨n, p, f1, f2, (numA_app [b] hn).1, n0, n1, ?_⟩⟩
    · show st.content ++ [b] = _
      rw [h.content]
    · show (if b = 0 then st.noughts + 1 else 0) = _
      rw [h.nought]
    · rw [List.length_append, List.length_singleton]
      omega
theorem runG_law (k a : Int) : ∀ (N : Nat) (r : List Int) (z : Int) (st : GSt) (V0 : List (Int × List Int)), r.length < N → Stt k a (V0.map Prod.fst) z st → (z = 0 ∨ z = 1) → (∀ x, V0.getLast? = some x → x.2 = r) → Byts r → (runG st r).map outG = (lawOn k (V0 ++ U r z)).map (outL a k) := by
  intro N
  induction N with
  | zero => intro r z st V0 hN; omega
  | succ N ih =>
    intro r z st V0 hN h hz hlast hb
    by_cases nf : ∀ q, st.behind = some q → (V0.length : Int) ≠ q + 2
    · have short := lawOn_short h nf
      cases r with
      | nil =>
        show none = Option.map _ (lawOn k (V0 ++ []))
        rw [List.append_nil, short]
        rfl
      | cons b r =>
        rw [List.length_cons] at hN
        have hb3 := hb b List.mem_cons_self
        have hb4 : Byts r := fun y m => hb y (List.mem_cons_of_mem _ m)
        rw [runG_cons, U_cons]
        rcases h.step hz (by rw [List.length_map]; exact nf) hb3.1 hb3.2 with ⟨g, bad⟩ | ⟨g, cl, s1⟩
        · rw [g, if_neg Bool.false_ne_true]
          have dead : ∀ (x : List Int) (X : List (Int × List Int)), lawOn k (V0 ++ (b, x) :: X) = none := fun x X => lawOn_bad (by
            rw [List.map_append, List.map_cons]
            have := bad (X.map Prod.fst)
            rw [List.append_assoc] at this
            exact this)
          split
          · cases r with
            | nil => rw [List.append_nil, short]; rfl
            | cons c r =>
              dsimp only
              split
              · rw [dead]; rfl
              · rw [List.append_nil, short]; rfl
          · rw [dead]; rfl
        · rw [g, if_pos rfl, cl, if_neg Bool.false_ne_true]
          by_cases c : b = 0 ∧ z = 1
          · obtain ⟨rfl, rfl⟩ := c
            rw [if_pos ⟨rfl, rfl⟩]
            have s1n : (growS st 0).2.noughts = 2 := s1.nought
            cases r with
            | nil => rw [List.append_nil, short]; rfl
            | cons c r =>
              rw [runG_cons, growS_two s1.kind s1n]
              dsimp only
              by_cases c2 : c = 2
              · rw [decide_eq_true c2, if_pos rfl, if_pos c2]
                rw [if_neg (by rw [cl]; exact Bool.false_ne_true)]
                have := ih r 0 { (growS st 0).2 with noughts := 0 } (V0 ++ [((0 : Int), r)]) (by rw [List.length_cons] at hN; omega) (by
                  rw [map_snoc]
                  exact ⟨s1.at_, s1.kind, s1.content, rfl, s1.open_, s1.ph⟩) (.inl rfl) (last_snoc _ _) (fun y m => hb4 y (List.mem_cons_of_mem _ m))
                rw [this, List.append_assoc]
                rfl
              · rw [decide_eq_false c2, if_neg Bool.false_ne_true, if_neg c2, List.append_nil, short]
                rfl
          · rw [if_neg c]
            have ez : (if b = 0 then z + 1 else 0 : Int) = if b = 0 then 1 else 0 := by split <;> omega
            rw [ez] at s1
            have := ih r (if b = 0 then 1 else 0) (growS st b).2 (V0 ++ [(b, r)]) (by omega) (by
              rw [map_snoc]
              exact s1) (by split <;> omega) (last_snoc _ _) hb4
            rw [this, List.append_assoc]
            rfl
    · obtain ⟨q, hq⟩ := Classical.not_forall.mp nf
      have hq2 := Classical.not_imp.mp hq
      exact run_full h hz hq2.1 (Classical.not_not.mp hq2.2) hlast _
/-- what stands at a row's begin, by the law -/
def boxL (l : List Int) : Option (Int × List Int × List Int) :=
  if l.take 3 = [0, 0, 1] then
    match l.drop 3 with
    | [] => none
    | k :: r => if 1 ≤ k ∧ k ≤ 9 then (lawOn k (U r 0)).map fun y => (k, y.1, y.2) else none
  else none
theorem stB_law {a : Int} {l : List Int} (hb : Byts l) : (stB a l).map boxD = ((boxL l).map fun y => D.tup [.int a, .int y.1, .lst (y.2.1.map D.int)]).toList := by
  unfold stB boxL
  by_cases c : l.take 3 = [0, 0, 1]
  · rw [if_pos c, if_pos c]
    have hb2 : Byts (l.drop 3) := fun y m => hb y (List.mem_of_mem_drop m)
    cases hr : l.drop 3 with
    | nil => rfl
    | cons k r =>
      rw [hr] at hb2
      dsimp only
      have eg : growS (GSt.init a) k = (decide (1 ≤ k) && decide (k ≤ 9), { GSt.init a with kind := some k }) := growS_none rfl
      have er : ownG (some (GSt.init a)) (k :: r) = ((runG (GSt.init a) (k :: r)).map Prod.fst).toList := rfl
      rw [er, runG_cons, eg]
      by_cases kk : 1 ≤ k ∧ k ≤ 9
      · have kb : (decide (1 ≤ k) && decide (k ≤ 9)) = true := by rw [decide_eq_true kk.1, decide_eq_true kk.2]; rfl
        rw [kb, if_pos rfl, if_pos kk]
        rw [if_neg (show ¬ ({ GSt.init a with kind := some k } : GSt).closed = true from Bool.false_ne_true)]
        have := runG_law k a (r.length + 1) r 0 { GSt.init a with kind := some k } [] (Nat.lt_succ_self _) ⟨rfl, rfl, rfl, rfl, rfl, .inl ⟨rfl, rfl, by decide, fun _ m => nomatch m⟩⟩ (.inl rfl) (fun _ z => nomatch z) fun y m => hb2 y (List.mem_cons_of_mem _ m)
        rw [List.nil_append] at this
        cases h1 : runG { GSt.init a with kind := some k } r with
        | none =>
          rw [h1] at this
          cases h2 : lawOn k (U r 0) with
          | none => rfl
          | some y => rw [h2] at this; cases this
        | some x =>
          rw [h1] at this
          cases h2 : lawOn k (U r 0) with
          | none => rw [h2] at this; cases this
          | some y =>
            rw [h2] at this
            have this : outG x = outL a k y := by injection this
            have i1 : x.1.at_ = a := congrArg Prod.fst this
            have i2 : x.1.kind = some k := congrArg (fun z => z.2.1) this
            have i3 : x.1.bod = y.1 := congrArg (fun z => z.2.2.1) this
            show [boxD x.1] = [D.tup [.int a, .int k, .lst (y.1.map D.int)]]
            unfold boxD
            rw [i1, i2, i3]
            rfl
      · rw [if_neg kk]
        have kb : (decide (1 ≤ k) && decide (k ≤ 9)) = false := by
          cases z : (decide (1 ≤ k) && decide (k ≤ 9)) with
          | false => rfl
          | true => rw [Bool.and_eq_true] at z; exact absurd ⟨of_decide_eq_true z.1, of_decide_eq_true z.2⟩ kk
        rw [kb, if_neg Bool.false_ne_true]
        rfl
  · rw [if_neg c, if_neg c]
    rfl
/-- all boxes of a row by the law, from a place on -/
def lawBx : Int → List Int → List D
  | _, [] => []
  | a, b :: r => ((boxL (b :: r)).map fun y => D.tup [.int a, .int y.1, .lst (y.2.1.map D.int)]).toList ++ lawBx (a + 1) r
theorem bx_law : ∀ (l : List Int) (a : Int), Byts l → (bx a l).map boxD = lawBx a l
  | [], _, _ => rfl
  | b :: r, a, h => by
    show (stB a (b :: r) ++ bx (a + 1) r).map boxD = _
    rw [List.map_append, stB_law h, bx_law r (a + 1) fun y m => h y (List.mem_cons_of_mem _ m)]
    rfl
theorem found_law {ns : List Int} (hb : Byts ns) (hl : ns.length ≤ 90000) : (runF 0 0 none ns).map boxD = lawBx 0 ns := by rw [runF_all hb hl, bx_law ns 0 hb]

section
variable {P : Program} {w : World} {K : PySem.W.Frag} {mg : Str → Option Value} {base : Heap}
/-! ### the law's own sum, stuffing, numbers, bytes -/
theorem wc_intB {K : PySem.W.Frag} {F : Fx} {ρ : En} {k : AV → En → Prop} {b : Bool} (hk : k (.dat (.int (if b then 1 else 0))) ρ) : WpC K F (fun xs H Q => (∃ i, xs = [V.int i] ∧ Q (.int i) H) ∨ ∃ k, xs = [.bl k] ∧ Q (.int (if k then 1 else 0)) H) [.dat (.bl b)] ρ k := fun as σ H G vs e r Q q => by
  cases r with
  | cons r1 r2 =>
    cases r2
    have : _ = V.bl b := Rep.blE r1
    subst this
    exact .inr ⟨b, rfl, q _ ρ _ as H G hk e .refl (Rep.int _)⟩
def wLSum : PW0 := fun xs cs post _ => ∃ (ns : List Int) (a : Int), xs = [.dat (.lst (ns.map D.int)), .dat (.int a)] ∧ cs = [] ∧ Byts ns ∧ 0 ≤ a ∧ a < 65521 ∧ post (.dat (.int (chkS ns a))) []
theorem ok_l_sum (T : Txt K mg) : FnOk P w K mg base CX0 1 T.a_l_sum T.d_l_sum ["_law_row", "_law_number"] (spG K wLSum) := by
  refine T.F_l_sum.ok sc_l_sum (fun vs H Q E h => spG_len h fun xs cs post exc ⟨a, b, e, _⟩ => by rw [e]; rfl) (fun cdv A outer s H vs Q E hr h => ⟨_, (pss_cons (ps_for PassesOwn.never rfl (pi_list (pv 0)) (pg_name (i := 2) sc_l_sum.nd rfl (Or.inl rfl))
        (pss_one (ps_set (i := 1) sc_l_sum.nd rfl (Or.inl rfl) (pe_op op_mod (pe_op op_add (pe_op op_mul (pv 1) pe_int) (pv 2)) pe_int))))
      (pss_one (ps_ret (pv 1)))), enter h fun F xs cs post hE hw => ?_⟩)
  obtain ⟨ns, a, rfl, rfl, hb, a0, a1, q⟩ := hw
  walk_at "D"
  refine loop_by (fun es ρ => ∃ (rest : List Int) (c : Int) (x : Option AV), es = rest.map D.int ∧ ρ = ⟨[some (.dat (.lst (ns.map D.int))), some (.dat (.int c)), x], []⟩ ∧ chkS rest c = chkS ns a ∧ 0 ≤ c ∧ c < 65521 ∧ Byts rest) ⟨ns, a, none, rfl, rfl, rfl, a0, a1, hb⟩ ?_ ?_
  · rintro ρ ⟨rest, c, x, e1, rfl, e2, _, _, _⟩
    have e3 : rest = [] := by cases rest with | nil => rfl | cons => cases e1
    subst e3
    have e2 : c = chkS ns a := e2
    subst e2
    refine ⟨.dat _, ?_⟩
    walk_at "D"
    exact fin_dat rfl q
  · rintro d es ρ ⟨rest, c, x, e1, rfl, e2, c0, c1, br⟩
    cases rest with
    | nil => cases e1
    | cons b rest =>
      obtain ⟨rfl, rfl⟩ := List.cons.inj e1
      have hb := br b List.mem_cons_self
      refine ⟨.dat _, ?_⟩
      walk_at "D"
      refine wr_Ii (.inl ⟨by omega, by omega⟩) ?_
      walk_at "D"
      refine wr_Ii (by decide) ?_
      walk_at "D"
      exact now ⟨rest, _, _, rfl, rfl, e2, Int.emod_nonneg _ (by decide), Int.emod_lt_of_pos _ (by decide), fun y m => br y (List.mem_cons_of_mem _ m)⟩
def stI : List Int → Int → List Int
  | [], _ => []
  | b :: r, z => if b = 0 ∧ z = 1 then b :: 2 :: stI r 0 else b :: stI r (if b = 0 then 1 else 0)
theorem stI_len : ∀ (l : List Int) (z : Int), (stI l z).length ≤ 2 * l.length
  | [], _ => Nat.le_refl _
  | b :: r, z => by
    unfold stI
    split
    · have := stI_len r 0
      simp only [List.length_cons]; omega
    · have := stI_len r (if b = 0 then 1 else 0)
      simp only [List.length_cons]; omega
theorem stI_byts : ∀ {l : List Int} (z : Int), Byts l → Byts (stI l z)
  | [], _, _ => fun _ m => nomatch m
  | b :: r, z, h => by
    have hb := h b List.mem_cons_self
    have hr : Byts r := fun y m => h y (List.mem_cons_of_mem _ m)
    unfold stI
    split
    · intro y m
      rcases List.mem_cons.mp m with rfl | m
      · exact hb
      rcases List.mem_cons.mp m with rfl | m
      · decide
      · exact stI_byts 0 hr y m
    · intro y m
      rcases List.mem_cons.mp m with rfl | m
      · exact hb
      · exact stI_byts _ hr y m
def wLStuffed : PW0 := fun xs cs post _ => ∃ ns : List Int, xs = [.dat (.lst (ns.map D.int))] ∧ cs = [] ∧ Byts ns ∧ ns.length ≤ 80000 ∧ post (.new ((stI ns 0).map D.int)) []
theorem ok_l_stuffed (T : Txt K mg) : FnOk P w K mg base CX0 1 T.a_l_stuffed T.d_l_stuffed ["_law_row"] (spG K wLStuffed) := by
  refine T.F_l_stuffed.ok sc_l_stuffed (fun vs H Q E h => spG_len h fun xs cs post exc ⟨a, e, _⟩ => by rw [e]; rfl) (fun cdv A outer s H vs Q E hr h => ⟨_, (pss_cons (ps_set (i := 1) sc_l_stuffed.nd rfl (Or.inl rfl) (pe_lst pa_nil))
      (pss_cons (ps_set (i := 2) sc_l_stuffed.nd rfl (Or.inl rfl) pe_int)
      (pss_cons (ps_for PassesOwn.never rfl (pi_list (pv 0)) (pg_name (i := 3) sc_l_stuffed.nd rfl (Or.inl rfl))
        (pss_cons (ps_expr (pe_bm PySem.F.plainAttrs_list PySem.F.slot_list_append PySem.F.type_list_append mt_append (pv 1) (pa_cons (pv 3) pa_nil)))
      (pss_cons (ps_set (i := 2) sc_l_stuffed.nd rfl (Or.inl rfl) (pe_op op_mul (pe_op op_add (pv 2) pe_int) (pe_callTy call_int1 (by rfl) T.m_int (by decide +kernel) (pa_cons (pe_cmpR op_eq (pv 3) pe_int (nomark _)) pa_nil))))
      (pss_one (ps_if (pt_cmpR op_eq (pv 2) pe_int (nomark _)) (pss_cons (ps_expr (pe_bm PySem.F.plainAttrs_list PySem.F.slot_list_append PySem.F.type_list_append mt_append (pv 1) (pa_cons pe_int pa_nil)))
      (pss_one (ps_set (i := 2) sc_l_stuffed.nd rfl (Or.inl rfl) pe_int))) pss_nil)))))
      (pss_one (ps_ret (pv 1)))))), enter h fun F xs cs post hE hw => ?_⟩)
  obtain ⟨ns, rfl, rfl, hb, hl, q⟩ := hw
  have sl := stI_len ns 0
  walk_at "D"
  refine loop_by (fun es ρ => ∃ (rest : List Int) (z : Int) (acc : List Int) (x : Option AV), es = rest.map D.int ∧ ρ = ⟨[some (.dat (.lst (ns.map D.int))), some (.cel 0), some (.dat (.int z)), x], [.lst (acc.map D.int)]⟩ ∧ acc ++ stI rest z = stI ns 0 ∧ (z = 0 ∨ z = 1)) ⟨ns, 0, [], none, rfl, rfl, rfl, .inl rfl⟩ ?_ ?_
  · rintro ρ ⟨rest, z, acc, x, e1, rfl, e2, _⟩
    have e3 : rest = [] := by cases rest with | nil => rfl | cons => cases e1
    subst e3
    have e2 : acc = stI ns 0 := by rw [← e2]; exact (List.append_nil _).symm
    subst e2
    refine ⟨.dat _, ?_⟩
    walk_at "D"
    exact ⟨_, .cel (Nat.zero_le _) rfl, rfl, q⟩
  · rintro d es ρ ⟨rest, z, acc, x, e1, rfl, e2, hz⟩
    cases rest with
    | nil => cases e1
    | cons b rest =>
      obtain ⟨rfl, rfl⟩ := List.cons.inj e1
      have al : acc.length ≤ 160000 := by
        have := congrArg List.length e2
        rw [List.length_append] at this
        omega
      have ma : ∀ c : Int, acc.map D.int ++ [D.int c] = (acc ++ [c]).map D.int := fun c => by rw [List.map_append]; rfl
      refine ⟨.dat _, ?_⟩
      walk_at "D"
      · rw [List.length_map]; omega
      walk_at "D"
      refine wc_intB ?_
      have ez : (z + 1) * (if eqS (D.int b) (D.int 0) = true then 1 else 0) = if b = 0 then z + 1 else 0 := by
        by_cases c : b = 0
        · rw [if_pos (show eqS (D.int b) (D.int 0) = true from decide_eq_true c), if_pos c, Int.mul_one]
        · rw [if_neg (by rw [show eqS (D.int b) (D.int 0) = false from decide_eq_false c]; exact Bool.false_ne_true), if_neg c, Int.mul_zero]
      walk_at "D"
      refine wr_Ii (.inl ⟨by omega, by omega⟩) ?_
      rw [ez]
      walk_at "D"
      refine ifC (fun c => ?_) (fun c => ?_)
      · have c : (if b = 0 then z + 1 else 0) = 2 := of_decide_eq_true c
        have cc : b = 0 ∧ z = 1 := by
          by_cases y : b = 0
          · rw [if_pos y] at c; exact ⟨y, by omega⟩
          · rw [if_neg y] at c; cases c
        have e2 : acc ++ (if b = 0 ∧ z = 1 then b :: 2 :: stI rest 0 else b :: stI rest (if b = 0 then 1 else 0)) = stI ns 0 := e2
        rw [if_pos cc] at e2
        walk_at "D"
        · rw [List.length_append, List.length_map, List.length_singleton]; omega
        walk_at "D"
        refine now ⟨rest, 0, acc ++ [b] ++ [2], some (.dat (.int b)), rfl, ?_, ?_, .inl rfl⟩
        · rw [List.map_append, List.map_append]
          rfl
        · rw [← e2, List.append_assoc, List.append_assoc]
          rfl
      · have c : ¬ (if b = 0 then z + 1 else 0) = 2 := of_decide_eq_false c
        have e2 : acc ++ (if b = 0 ∧ z = 1 then b :: 2 :: stI rest 0 else b :: stI rest (if b = 0 then 1 else 0)) = stI ns 0 := e2
        have ncc : ¬ (b = 0 ∧ z = 1) := fun y => c (by rw [if_pos y.1, y.2]; rfl)
        have e0 : (if b = 0 then z + 1 else 0) = if b = 0 then 1 else 0 := by split <;> omega
        rw [if_neg ncc] at e2
        rw [e0]
        walk_at "D"
        refine now ⟨rest, (if b = 0 then 1 else 0), acc ++ [b], some (.dat (.int b)), rfl, ?_, ?_, by split <;> omega⟩
        · rw [List.map_append]
          rfl
        · rw [← e2, List.append_assoc]
          rfl
def wLNumAt : PW0 := fun xs cs post _ => ∃ ns : List Int, xs = [.dat (.lst (ns.map D.int)), .dat (.int 0)] ∧ cs = [] ∧ Byts ns ∧ ns.length ≤ 100000 ∧ post (.dat (resD (numA ns 0))) []
theorem ok_l_number_at (T : Txt K mg) : FnOk P w K mg base CX0 1 T.a_l_number_at T.d_l_number_at ["_law_row", "_law_at"] (spG K wLNumAt) := by
  refine T.F_l_number_at.ok sc_l_number_at (fun vs H Q E h => spG_len h fun xs cs post exc ⟨a, e, _⟩ => by rw [e]; rfl) (fun cdv A outer s H vs Q E hr h => ⟨_, (pss_cons (ps_if (PW.pt (pw_or (pt_cmpR op_ge (pv 1) (pe_callB call_len_seq (by rfl) T.m_len (by decide +kernel) (pa_cons (pv 0) pa_nil)) (nomark _)) (pw_or1 (pt_cmpR op_eq (pe_ix ix_list (pv 0) (pv 1) (fun _ _ => rfl)) pe_int (nomark _))))) (pss_one (ps_ret pe_non)) pss_nil)
      (pss_cons (ps_set (i := 2) sc_l_number_at.nd rfl (Or.inl rfl) pe_int)
      (pss_cons (ps_for PassesOwn.never rfl (pi_range2 (by rfl) T.m_range (pa_cons (pv 1) (pa_cons (pe_callB call_len_seq (by rfl) T.m_len (by decide +kernel) (pa_cons (pv 0) pa_nil)) pa_nil))) (pg_name (i := 3) sc_l_number_at.nd rfl (Or.inl rfl))
        (pss_cons (ps_set (i := 2) sc_l_number_at.nd rfl (Or.inl rfl) (pe_op op_add (pe_op op_mul (pv 2) pe_int) (pe_op op_mod (pe_ix ix_list (pv 0) (pv 3) (fun _ _ => rfl)) pe_int)))
      (pss_cons (ps_if (pt_cmpR op_gt (pv 2) (pe_op op_pow pe_int pe_int) (nomark _)) (pss_one (ps_ret pe_non)) pss_nil)
      (pss_one (ps_if (pt_cmpR op_lt (pe_ix ix_list (pv 0) (pv 3) (fun _ _ => rfl)) pe_int (nomark _)) (pss_one (ps_ret (pe_tup (pa_cons (pv 2) (pa_cons (pe_op op_add (pv 3) pe_int) pa_nil))))) pss_nil)))))
      (pss_one (ps_ret pe_non))))), enter h fun F xs cs post hE hw => ?_⟩)
  obtain ⟨ns, rfl, rfl, hb, hl0, q⟩ := hw
  cases ns with
  | nil =>
    walk_at "D"
    exact fin_dat rfl q
  | cons f0 r0 =>
    have ll : ((f0 :: r0).map D.int).length = (f0 :: r0).length := List.length_map ..
    have lp : 0 < (f0 :: r0).length := Nat.zero_lt_succ _
    have at0 : atI ((f0 :: r0).map D.int) 0 = some (D.int f0) := at_int (ns := f0 :: r0) (j := 0) lp rfl
    refine ws_seq ?_
    refine ws_if ?_
    refine WpT.imp (kb := fun t ρ1 => t = decide (f0 = 128) ∧ ρ1 = ⟨[some (.dat (.lst ((f0 :: r0).map D.int))), some (.dat (.int 0)), none, none], []⟩) ?_ ?_
    · walk_at "D"
      refine wr_ixL (.dat _) at0 ?_
      walk_at "D"
      exact ⟨rfl, rfl⟩
    · rintro t ρ1 ⟨rfl, rfl⟩
      refine ifC (fun c => ?_) (fun c => ?_)
      · have e : numA (f0 :: r0) 0 = none := if_pos (of_decide_eq_true c)
        rw [e] at q
        walk_at "D"
        exact fin_dat rfl q
      · have e : numA (f0 :: r0) 0 = goN (f0 :: r0) 0 0 := if_neg (of_decide_eq_false c)
        rw [e] at q
        generalize f0 :: r0 = ns at *
        walk_at "D"
        rw [List.length_map]
        rw [show ((ns.length : Int) - 0).toNat = ns.length by omega]
        refine ⟨⟨by omega, by omega, by omega, by omega⟩, ?_⟩
        refine loop_rng (fun i ρ => ∃ (a : Int) (x : Option AV), ρ = ⟨[some (.dat (.lst (ns.map D.int))), some (.dat (.int 0)), some (.dat (.int a)), x], []⟩ ∧ post (.dat (resD (goN (ns.drop i) a (i : Int)))) []) ⟨0, _, rfl, q⟩ ?_ ?_
        · rintro ρ ⟨a, x, rfl, q⟩
          refine ⟨trivial, ?_⟩
          rw [List.drop_of_length_le (Nat.le_refl _)] at q
          walk_at "D"
          exact fin_dat rfl q
        · rintro i ρ hi ⟨a, x, rfl, q⟩
          refine ⟨trivial, ?_⟩
          have hd := drop_at (ns := ns) (j := i) hi
          have hat : atI (ns.map D.int) (0 + (i : Int)) = some (D.int ns[i]) := at_int hi (by omega)
          generalize hf : ns[i] = f at *
          have fb : 0 ≤ f ∧ f ≤ 255 := hb f (by rw [← hf]; exact List.getElem_mem hi)
          rw [hd, goN] at q
          walk_at "D"
          refine wr_Ii (.inr (by decide)) ?_
          walk_at "D"
          refine wr_ixL (.dat _) hat ?_
          walk_at "D"
          refine wr_Ii (by decide) ?_
          walk_at "D"
          refine wr_Ii ⟨by decide, by decide, by decide⟩ ?_
          rw [show (10 : Int) ^ (60 : Int).toNat = 1000000000000000000000000000000000000000000000000000000000000 by decide]
          walk_at "D"
          refine ifC (fun c => ?_) (fun c => ?_)
          · rw [if_pos (of_decide_eq_true c)] at q
            walk_at "D"
            exact fin_dat rfl q
          · rw [if_neg (of_decide_eq_false c)] at q
            walk_at "D"
            refine wr_ixL (.dat _) hat ?_
            walk_at "D"
            refine ifC (fun c => ?_) (fun c => ?_)
            · rw [if_pos (of_decide_eq_true c)] at q
              walk_at "D"
              rw [show (0 : Int) + (i : Int) + 1 = (i : Int) + 1 by omega]
              exact fin_dat rfl q
            · rw [if_neg (of_decide_eq_false c)] at q
              walk_at "D"
              exact now ⟨_, _, rfl, q⟩
end

section
variable {P : Program} {w : World} {K : PySem.W.Frag} {mg : Str → Option Value} {base : Heap}
/-! ### the law's own figures -/
def wCell : PW0 := fun xs cs post _ => ∃ (ns : List Int) (k : Int), xs = [.dat (.scr (ns.map D.int)), .dat (.int k)] ∧ cs = [] ∧ 0 ≤ k ∧ ∀ n, post (.dat (.int n)) []
theorem ok_l_cell_at (T : Txt K mg) : FnOk P w K mg base CX0 1 T.a_l_cell_at T.d_l_cell_at ["_law_script", "_law_k"] (spG K wCell) := by
  refine T.F_l_cell_at.ok sc_l_cell_at (fun vs H Q E h => spG_len h fun xs cs post exc ⟨a, b, e, _⟩ => by rw [e]; rfl) (fun cdv A outer s H vs Q E hr h => ⟨_, (pss_cons (ps_if (pt_cmpR op_lt (pv 1) (pe_callB call_len_seq (by rfl) T.m_len (by decide +kernel) (pa_cons (pv 0) pa_nil)) (nomark _)) (pss_one (ps_ret (pe_ix ix_list (pv 0) (pv 1) (fun _ _ => rfl)))) pss_nil)
      (pss_one (ps_ret pe_int))), enter h fun F xs cs post hE hw => ?_⟩)
  obtain ⟨ns, k, rfl, rfl, k0, q⟩ := hw
  walk_at "D"
  refine ifC (fun c => ?_) (fun c => ?_)
  · have c := of_decide_eq_true c
    rw [List.length_map] at c
    walk_at "D"
    have hl : k.toNat < ns.length := by omega
    have ha : atI (ns.map D.int) k = some (D.int ns[k.toNat]) := by
      have e : ((k.toNat : Nat) : Int) = k := by omega
      have := atI_nat (xs := ns.map D.int) (j := k.toNat) (v := D.int ns[k.toNat]) (by rw [List.getElem?_map, List.getElem?_eq_getElem hl]; rfl)
      rw [e] at this
      exact this
    refine wr_ixL (.scr _) ha ?_
    exact fin_dat rfl (q _)
  · walk_at "D"
    exact fin_dat rfl (q _)
theorem fig_short (n : Nat) (h : (n : Int) ≤ 10 ^ 60) : (figN n).length ≤ 31 := by
  rw [fig_len]
  have : (tlN (n / 128)).length ≤ 30 := tlN_len 30 _ (by
    have : n < 10 ^ 60 + 1 := by omega
    have : (10 : Nat) ^ 60 + 1 < 128 ^ 30 := by decide
    omega)
  omega
def wFig : PW0 := fun xs cs post _ => ∃ n : Nat, xs = [.dat (.int n)] ∧ cs = [] ∧ (n : Int) ≤ 10 ^ 60 ∧ post (.new ((figN n).map D.int)) []
theorem ok_l_figures (T : Txt K mg) : FnOk P w K mg base CX0 1 T.a_l_figures T.d_l_figures ["_law_number"] (spG K wFig) := by
  refine T.F_l_figures.ok sc_l_figures (fun vs H Q E h => spG_len h fun xs cs post exc ⟨a, e, _⟩ => by rw [e]; rfl) (fun cdv A outer s H vs Q E hr h => ⟨_, (pss_cons (ps_set (i := 1) sc_l_figures.nd rfl (Or.inl rfl) (pe_lst (pa_cons (pe_op op_mod (pv 0) pe_int) pa_nil)))
      (pss_cons (ps_while PassesOwn.never (pt_cmpR op_ge (pv 0) pe_int (nomark _)) (pss_cons (ps_set (i := 0) sc_l_figures.nd rfl (Or.inl rfl) (pe_op op_fdiv (pv 0) pe_int))
      (pss_one (ps_set (i := 1) sc_l_figures.nd rfl (Or.inl rfl) (pe_op op_catF (pe_lst (pa_cons (pe_op op_add pe_int (pe_op op_mod (pv 0) pe_int)) pa_nil)) (pv 1))))))
      (pss_one (ps_ret (pv 1))))), enter h fun F xs cs post hE hw => ?_⟩)
  obtain ⟨n, rfl, rfl, hn, q⟩ := hw
  have hs := fig_short n hn
  walk_at "D"
  refine wr_Ii (by decide) ?_
  walk_at "D"
  rw [show ((n : Int) % 128) = ((n % 128 : Nat) : Int) by omega]
  refine ws_while (fun m ρ => ∃ (ds : List Int) (cs : List Cell) (j : Nat), ρ = ⟨[some (.dat (.int (m : Int))), some (.cel j)], cs⟩ ∧ cs[j]? = some (.lst (ds.map D.int)) ∧ (tlN (m / 128)).reverse ++ ds = figN n) n ⟨[((n % 128 : Nat) : Int)], _, 0, rfl, rfl, rfl⟩ ?_
  rintro m ρ ⟨ds, cs, j, rfl, hc, hd⟩
  walk_at "D"
  refine ifC (fun c => ?_) (fun c => ?_)
  · have c := of_decide_eq_true c
    have m0 : m / 128 ≠ 0 := by omega
    rw [tlN_s m0, List.reverse_cons, List.append_assoc] at hd
    have hl : ds.length ≤ 31 := by
      have := congrArg List.length hd
      rw [List.length_append, List.length_append] at this
      omega
    walk_at "D"
    refine wr_Ii ⟨by decide, by decide⟩ ?_
    walk_at "D"
    refine wr_Ii (by decide) ?_
    walk_at "D"
    walk_at "nrm"
    have hj : j < cs.length := (List.getElem?_eq_some_iff.mp hc).1
    refine wr_cat (ds := [.int (128 + (m : Int) / 128 % 128)]) (es := ds.map D.int) (.cel (by simp)) (.cel (by rw [List.getElem?_append_left hj]; exact hc)) (by rw [List.length_map]; simp only [List.length]; omega) ?_
    walk_at "D"
    have e1 : ((m : Int) / 128) = ((m / 128 : Nat) : Int) := by omega
    have e2 : (128 + ((m / 128 : Nat) : Int) % 128) = ((128 + m / 128 % 128 : Nat) : Int) := by omega
    rw [e1, e2]
    refine ⟨m / 128, by omega, ((128 + m / 128 % 128 : Nat) : Int) :: ds, (cs ++ [Cell.lst [.int ((128 + m / 128 % 128 : Nat) : Int)]]) ++ [Cell.lst (.int ((128 + m / 128 % 128 : Nat) : Int) :: ds.map D.int)], (cs ++ [Cell.lst [.int ((128 + m / 128 % 128 : Nat) : Int)]]).length, rfl, ?_, hd⟩
    rw [List.getElem?_concat_length]
    rfl
  · have c := of_decide_eq_false c
    rw [show m / 128 = 0 by omega, tlN_0] at hd
    have hd : ds = figN n := hd
    subst hd
    walk_at "D"
    exact ⟨_, .cel (Nat.zero_le _) hc, rfl, q⟩
theorem wsp_fig {F : Fx} {ρ : En} {k : AV → En → Prop} {E : L2.St → XK} {n : Nat} {x : AV} (hx : x = .dat (.int n)) (hn : (n : Int) ≤ 10 ^ 60) (hk : k (.cel ρ.ce.length) (ρ.add ((figN n).map D.int))) : WpSp K F (spG K wFig) E [x] ρ k := by
  subst hx
  exact wspE (.dat .nil) ⟨n, rfl, rfl, hn, rfl, hk⟩
/-! ### the law's own bytes and boxes -/
def wLBytes : PW0 := fun xs cs post _ => ∃ m : Int, xs = [.cel 0, .dat (.int m)] ∧ cs = [.drw] ∧ 0 ≤ m ∧ m ≤ 900 ∧ ∀ ns : List Int, Byts ns → (ns.length : Int) = m → post (.new (ns.map D.int)) [.drw]
theorem ok_l_bytes (T : Txt K mg) : FnOk P w K mg base CX0 2 T.a_l_bytes T.d_l_bytes ["_law_state", "_law_many"] (spG K wLBytes) := by
  refine T.F_l_bytes.ok sc_l_bytes (fun vs H Q E h => spG_len h fun xs cs post exc ⟨a, e, _⟩ => by rw [e]; rfl) (fun cdv A outer s H vs Q E hr h => ⟨_, (pss_cons (ps_set (i := 2) sc_l_bytes.nd rfl (Or.inl rfl) (pe_call (ok_l_digit T) (hr.mono (by decide)) (by rfl) T.g_l_digit T.F_l_digit.kp T.b_l_digit .nil pass0 (pa_cons (pv 0) (pa_cons pe_int pa_nil))))
      (pss_cons (ps_set (i := 3) sc_l_bytes.nd rfl (Or.inl rfl) (pe_lst pa_nil))
      (pss_cons (ps_for PassesOwn.never rfl (pi_range1 (by rfl) T.m_range (pa_cons (pv 1) pa_nil)) (pg_name (i := 4) sc_l_bytes.nd rfl (Or.inl rfl))
        (pss_cons (ps_set (i := 5) sc_l_bytes.nd rfl (Or.inl rfl) (pe_call (ok_l_digit T) (hr.mono (by decide)) (by rfl) T.g_l_digit T.F_l_digit.kp T.b_l_digit .nil pass0 (pa_cons (pv 0) (pa_cons pe_int pa_nil))))
      (pss_one (ps_expr (pe_bm PySem.F.plainAttrs_list PySem.F.slot_list_append PySem.F.type_list_append mt_append (pv 3) (pa_cons (pe_ix ix_list (pe_lst (pa_cons (pv 5) (pa_cons (pe_op op_mod (pv 5) pe_int) (pa_cons (pe_ix ix_list (pe_lst (pa_cons pe_int (pa_cons pe_int (pa_cons pe_int (pa_cons pe_int (pa_cons pe_int (pa_cons (pv 5) pa_nil))))))) (pe_op op_mod (pv 5) pe_int) (fun _ _ => rfl)) pa_nil)))) (pv 2) (fun _ _ => rfl)) pa_nil))))))
      (pss_one (ps_ret (pv 3)))))), enter h fun F xs cs post hE hw => ?_⟩)
  obtain ⟨m, rfl, rfl, m0, m1, q⟩ := hw
  walk_at "D"
  refine wsp_digit rfl (by decide) (by decide) fun p p0 p1 => ?_
  walk_at "D"
  refine ⟨by omega, ?_⟩
  refine loop_rng (fun i ρ => ∃ (acc : List Int) (x y : Option AV), ρ = ⟨[some (.cel 0), some (.dat (.int m)), some (.dat (.int p)), some (.cel 1), x, y], [.drw, .lst (acc.map D.int)]⟩ ∧ Byts acc ∧ acc.length = i) ⟨[], _, _, rfl, (fun _ m => nomatch m), rfl⟩ ?_ ?_
  · rintro ρ ⟨acc, x, y, rfl, hb, hl⟩
    refine ⟨trivial, ?_⟩
    walk_at "D"
    exact ⟨_, .cel (j := 1) (Nat.le_of_ble_eq_true rfl) rfl, rfl, q acc hb (by omega)⟩
  · rintro i ρ hi ⟨acc, x, y, rfl, hb, hl⟩
    refine ⟨trivial, ?_⟩
    walk_at "D"
    refine wsp_digit rfl (by decide) (by decide) fun b b0 b1 => ?_
    walk_at "D"
    refine wr_Ii (by decide) ?_
    walk_at "D"
    refine wr_Ii (by decide) ?_
    walk_at "D"
    refine wr_ixA (by walk_at "il") (Int.emod_nonneg _ (by decide)) (by show b % 6 < ((6 : Nat) : Int); omega) fun d1 h1 => ?_
    obtain ⟨c1, rfl, c10, c11⟩ : ∃ c : Int, d1 = .int c ∧ 0 ≤ c ∧ c ≤ 255 := by
      simp only [List.mem_cons, List.mem_append, List.not_mem_nil, or_false] at h1
      rcases h1 with rfl | rfl | rfl | rfl | rfl | rfl
      all_goals exact ⟨_, rfl, by omega, by omega⟩
    walk_at "D"
    refine wr_ixA (by walk_at "il") p0 (by show p < ((3 : Nat) : Int); exact p1) fun d2 h2 => ?_
    obtain ⟨c2, rfl, c20, c21⟩ : ∃ c : Int, d2 = .int c ∧ 0 ≤ c ∧ c ≤ 255 := by
      simp only [List.mem_cons, List.mem_append, List.not_mem_nil, or_false] at h2
      rcases h2 with rfl | rfl | rfl
      all_goals exact ⟨_, rfl, by omega, by omega⟩
    walk_at "D"
    · rw [List.length_map]; omega
    walk_at "D"
    refine now ⟨acc ++ [c2], some (.dat (.int (0 + (i : Int)))), some (.dat (.int b)), ?_, hb.app c20 c21, by rw [List.length_append, hl]; rfl⟩
    rw [List.map_append]
    rfl
def boxedI (k : Int) (body : List Int) : List Int := [0, 0, 1, k] ++ stI (figN body.length ++ body ++ sumS k body) 0 ++ [255]
theorem sumS_byts (k : Int) (body : List Int) : Byts (sumS k body) := by
  have := chkS_lt (k :: body) (a := 1) (by decide)
  intro b m
  unfold sumS at m
  rcases List.mem_cons.mp m with rfl | m
  · omega
  · rw [List.mem_singleton.mp m]; omega
theorem Byts.cat {a b : List Int} (h : Byts a) (g : Byts b) : Byts (a ++ b) := fun y m => (List.mem_append.mp m).elim (h y) (g y)
theorem boxedI_byts {k : Int} {body : List Int} (k0 : 0 ≤ k) (k1 : k ≤ 255) (h : Byts body) : Byts (boxedI k body) := by
  refine Byts.cat (Byts.cat ?_ (stI_byts 0 (Byts.cat (Byts.cat (fig_byts _) h) (sumS_byts k body)))) ?_
  · intro y m
    simp only [List.mem_cons, List.not_mem_nil, or_false] at m
    omega
  · intro y m
    rw [List.mem_singleton.mp m]
    decide
def wLBoxed : PW0 := fun xs cs post _ => ∃ (k : Int) (ns : List Int), xs = [.dat (.int k), .dat (.lst (ns.map D.int))] ∧ cs = [] ∧ 0 ≤ k ∧ k ≤ 255 ∧ Byts ns ∧ ns.length ≤ 900 ∧ post (.new ((boxedI k ns).map D.int)) []
theorem ok_l_boxed (T : Txt K mg) : FnOk P w K mg base CX0 2 T.a_l_boxed T.d_l_boxed ["_law_kind", "_law_body"] (spG K wLBoxed) := by
  refine T.F_l_boxed.ok sc_l_boxed (fun vs H Q E h => spG_len h fun xs cs post exc ⟨a, b, e, _⟩ => by rw [e]; rfl) (fun cdv A outer s H vs Q E hr h => ⟨_, (pss_cons (ps_set (i := 2) sc_l_boxed.nd rfl (Or.inl rfl) (pe_op op_catF (pe_op op_catF (pe_call (ok_l_figures T) (hr.mono (by decide)) (by rfl) T.g_l_figures T.F_l_figures.kp T.b_l_figures .nil pass0 (pa_cons (pe_callB call_len_seq (by rfl) T.m_len (by decide +kernel) (pa_cons (pv 1) pa_nil)) pa_nil)) (pv 1)) (pe_callTy call_list_of (by rfl) T.m_list (by decide +kernel) (pa_cons (pe_callB call_divmod (by rfl) T.m_divmod (by decide +kernel) (pa_cons (pe_call (ok_l_sum T) (hr.mono (by decide)) (by rfl) T.g_l_sum T.F_l_sum.kp T.b_l_sum .nil pass0 (pa_cons (pe_op op_catF (pe_lst (pa_cons (pv 0) pa_nil)) (pv 1)) (pa_cons pe_int pa_nil))) (pa_cons pe_int pa_nil))) pa_nil))))
      (pss_one (ps_ret (pe_op op_catF (pe_op op_catF (pe_lst (pa_cons pe_int (pa_cons pe_int (pa_cons pe_int (pa_cons (pv 0) pa_nil))))) (pe_call (ok_l_stuffed T) (hr.mono (by decide)) (by rfl) T.g_l_stuffed T.F_l_stuffed.kp T.b_l_stuffed .nil pass0 (pa_cons (pv 2) pa_nil))) (pe_lst (pa_cons pe_int pa_nil)))))), enter h fun F xs cs post hE hw => ?_⟩)
  obtain ⟨k, ns, rfl, rfl, k0, k1, hb, hl, q⟩ := hw
  have lf := fig_short ns.length (by omega)
  walk_at "D"
  rw [List.length_map]
  refine wsp_fig rfl (by omega) ?_
  walk_at "D"
  refine wr_cat (ds := (figN ns.length).map D.int) (es := ns.map D.int) (.cel rfl) (.dat _) (by rw [List.length_map, List.length_map]; omega) ?_
  walk_at "D"
  refine wr_cat (ds := [.int k]) (es := ns.map D.int) (.cel rfl) (.dat _) (by rw [List.length_map]; simp only [List.length]; omega) ?_
  walk_at "D"
  walk_at "c"
  refine ⟨k :: ns, 1, rfl, rfl, fun y m => by
    rcases List.mem_cons.mp m with rfl | m
    · exact ⟨k0, k1⟩
    · exact hb y m, by decide, by decide, aft_hard rfl ?_⟩
  walk_at "D"
  refine wc_divmod ⟨by decide, by decide⟩ ?_
  walk_at "D"
  refine wr_cat (ds := (figN ns.length).map D.int ++ ns.map D.int) (es := (sumS k ns).map D.int) (.cel rfl) (.cel rfl) (by rw [List.length_append, List.length_map, List.length_map]; simp only [List.length, sumS, List.map]; omega) ?_
  have cl : (figN ns.length ++ ns ++ sumS k ns).length ≤ 1000 := by
    rw [List.length_append, List.length_append]
    simp only [List.length, sumS]
    omega
  have cb : Byts (figN ns.length ++ ns ++ sumS k ns) := Byts.cat (Byts.cat (fig_byts _) hb) (sumS_byts k ns)
  have ec : (figN ns.length).map D.int ++ ns.map D.int ++ (sumS k ns).map D.int = (figN ns.length ++ ns ++ sumS k ns).map D.int := by rw [List.map_append, List.map_append]
  rw [ec]
  unfold boxedI at q
  generalize figN ns.length ++ ns ++ sumS k ns = ct at cl cb q
  have sl := stI_len ct 0
  walk_at "D"
  walk_at "c"
  refine ⟨ct, rfl, rfl, cb, by omega, aft_hards (hards_int _) ?_⟩
  walk_at "D"
  refine wr_cat (ds := [.int 0, .int 0, .int 1, .int k]) (es := (stI ct 0).map D.int) (.cel rfl) (.cel rfl) (by rw [List.length_map]; simp only [List.length]; omega) ?_
  walk_at "D"
  refine wr_cat (ds := [.int 0, .int 0, .int 1, .int k] ++ (stI ct 0).map D.int) (es := [.int 255]) (.cel rfl) (.cel rfl) (by rw [List.length_append, List.length_map]; simp only [List.length]; omega) ?_
  refine ⟨_, .cel (Nat.zero_le _) rfl, rfl, ?_⟩
  rw [show [D.int 0, .int 0, .int 1, .int k] ++ (stI ct 0).map D.int ++ [.int 255] = ([0, 0, 1, k] ++ stI ct 0 ++ [255]).map D.int by rw [List.map_append, List.map_append]; rfl]
  exact q
def fsD (V : List (Int × List Int)) : List D := V.map fun x => D.int x.1
def plD (N : Nat) (V : List (Int × List Int)) : List D := V.map fun x => D.int ((N : Int) - (x.2.length : Int))
theorem fsD_snoc (V : List (Int × List Int)) (b : Int) (r : List Int) : fsD (V ++ [(b, r)]) = fsD V ++ [.int b] := by unfold fsD; rw [List.map_append]; rfl
theorem plD_snoc (N : Nat) (V : List (Int × List Int)) (b : Int) (r : List Int) : plD N (V ++ [(b, r)]) = plD N V ++ [.int ((N : Int) - (r.length : Int))] := by unfold plD; rw [List.map_append]; rfl
theorem cut_last (xs : List D) (d : D) : cutD (xs ++ [d]) none (some (-1)) = xs := by
  unfold cutD
  have e : HT.sIx (xs ++ [d]).length (xs ++ [d]).length (some (-1)) = xs.length := by
    show (if (-1 : Int) < 0 then (-1 + ((xs ++ [d]).length : Int)).toNat else min (-1 : Int).toNat (xs ++ [d]).length) = xs.length
    rw [if_pos (by decide), List.length_append, List.length_singleton]
    omega
  rw [e, HT.sIx_none, List.drop_zero, Nat.sub_zero, List.take_left]
theorem set_last (xs : List D) (d e : D) : (xs ++ [d]).set xs.length e = xs ++ [e] := by
  rw [List.set_append_right _ _ (Nat.le_refl _), Nat.sub_self]
  rfl
theorem ix_last (xs : List D) (d : D) : ixN (xs ++ [d]).length (-1) = some xs.length := by
  unfold ixN
  rw [List.length_append, List.length_singleton]
  simp
  omega
def tailU (b : Int) : List Int → List (Int × List Int)
  | [] => []
  | c :: r => if c = 2 then (b, r) :: U r 0 else []
theorem U_tail (b : Int) (r : List Int) (z : Int) : U (b :: r) z = if b = 0 ∧ z = 1 then tailU b r else (b, r) :: U r (if b = 0 then 1 else 0) := by
  rw [U_cons]
  cases r with
  | nil => rfl
  | cons c r => rfl
/-- what the law reads of a row: the bytes, and the places behind them -/
def wLContents : PW0 := fun xs cs post _ => ∃ (ns : List Int) (j : Nat), xs = [.dat (.lst (ns.map D.int)), .dat (.int j)] ∧ cs = [] ∧ Byts ns ∧ ns.length ≤ 80000 ∧ post (.dat (.tup [.lst (fsD (U (ns.drop j) 0)), .lst (plD ns.length (U (ns.drop j) 0))])) []
theorem ok_l_contents (T : Txt K mg) : FnOk P w K mg base CX0 1 T.a_l_contents T.d_l_contents ["_law_row", "_law_at"] (spG K wLContents) := by
  refine T.F_l_contents.ok sc_l_contents (fun vs H Q E h => spG_len h fun xs cs post exc ⟨a, b, e, _⟩ => by rw [e]; rfl) (fun cdv A outer s H vs Q E hr h => ⟨_, (pss_cons (ps_set (i := 2) sc_l_contents.nd rfl (Or.inl rfl) (pe_lst pa_nil))
      (pss_cons (ps_set (i := 3) sc_l_contents.nd rfl (Or.inl rfl) (pe_lst pa_nil))
      (pss_cons (ps_set (i := 4) sc_l_contents.nd rfl (Or.inl rfl) pe_int)
      (pss_cons (ps_while PassesOwn.never (pt_cmpR op_lt (pv 1) (pe_callB call_len_seq (by rfl) T.m_len (by decide +kernel) (pa_cons (pv 0) pa_nil)) (nomark _)) (pss_cons (ps_if (pt_cmpR op_lt (pv 4) pe_int (nomark _)) (pss_cons (ps_expr (pe_bm PySem.F.plainAttrs_list PySem.F.slot_list_append PySem.F.type_list_append mt_append (pv 2) (pa_cons (pe_ix ix_list (pv 0) (pv 1) (fun _ _ => rfl)) pa_nil)))
      (pss_cons (ps_expr (pe_bm PySem.F.plainAttrs_list PySem.F.slot_list_append PySem.F.type_list_append mt_append (pv 3) (pa_cons (pe_op op_add (pv 1) pe_int) pa_nil)))
      (pss_one (ps_set (i := 4) sc_l_contents.nd rfl (Or.inl rfl) (pe_op op_mul (pe_op op_add (pv 4) pe_int) (pe_callTy call_int1 (by rfl) T.m_int (by decide +kernel) (pa_cons (pe_cmpR op_eq (pe_ix ix_list (pv 0) (pv 1) (fun _ _ => rfl)) pe_int (nomark _)) pa_nil))))))) (pss_one (ps_if (pt_cmpR op_eq (pe_ix ix_list (pv 0) (pv 1) (fun _ _ => rfl)) pe_int (nomark _)) (pss_cons (ps_asg (pe_op op_add (pv 1) pe_int) (pg_sub (pv 3) (pe_un un_neg pe_int) set_list))
      (pss_one (ps_set (i := 4) sc_l_contents.nd rfl (Or.inl rfl) pe_int))) (pss_one (ps_ret (pe_tup (pa_cons (pe_slice sl_list (pv 2) po_none (po_some (pe_un un_neg pe_int))) (pa_cons (pe_slice sl_list (pv 3) po_none (po_some (pe_un un_neg pe_int))) pa_nil))))))))
      (pss_one (ps_set (i := 1) sc_l_contents.nd rfl (Or.inl rfl) (pe_op op_add (pv 1) pe_int)))))
      (pss_cons (ps_if (pt_cmpR op_eq (pv 4) pe_int (nomark _)) (pss_one (ps_ret (pe_tup (pa_cons (pe_slice sl_list (pv 2) po_none (po_some (pe_un un_neg pe_int))) (pa_cons (pe_slice sl_list (pv 3) po_none (po_some (pe_un un_neg pe_int))) pa_nil))))) pss_nil)
      (pss_one (ps_ret (pe_tup (pa_cons (pv 2) (pa_cons (pv 3) pa_nil)))))))))), enter h fun F xs cs post hE hw => ?_⟩)
  obtain ⟨ns, j0, rfl, rfl, hb, hl, q⟩ := hw
  walk_at "D"
  refine ws_while (fun m ρ => ∃ (i : Nat) (z : Int) (A1 A2 : List D), ρ = ⟨[some (.dat (.lst (ns.map D.int))), some (.dat (.int (i : Int))), some (.cel 0), some (.cel 1), some (.dat (.int z))], [.lst A1, .lst A2]⟩ ∧ m = ns.length - i ∧ A1.length ≤ 100000 ∧ (((z = 0 ∨ z = 1) ∧ ∃ V, A1 = fsD V ∧ A2 = plD ns.length V ∧ V.length + (ns.length - i) ≤ 80000 ∧ V ++ U (ns.drop i) z = U (ns.drop j0) 0) ∨ (z = 2 ∧ ∃ V b p, A1 = fsD V ++ [.int b] ∧ A2 = plD ns.length V ++ [.int p] ∧ V.length + 1 + (ns.length - i) ≤ 80000 ∧ V ++ tailU b (ns.drop i) = U (ns.drop j0) 0))) (ns.length - j0) ⟨j0, 0, [], [], rfl, rfl, Nat.zero_le _, .inl ⟨.inl rfl, [], rfl, rfl, by show 0 + _ ≤ _; omega, rfl⟩⟩ ?_
  rintro m ρ ⟨i, z, A1, A2, rfl, rfl, hA, hI⟩
  walk_at "D"
  rw [List.length_map]
  refine ifC (fun c => ?_) (fun c => ?_)
  · have hi : i < ns.length := by have := of_decide_eq_true c; omega
    have hd := drop_at (ns := ns) (j := i) hi
    have hat : atI (ns.map D.int) (i : Int) = some (D.int ns[i]) := at_int hi rfl
    generalize hf : ns[i] = b at *
    have eN : (ns.length : Int) - ((ns.drop (i + 1)).length : Int) = (i : Int) + 1 := by rw [List.length_drop]; omega
    rcases hI with ⟨hz, V, rfl, rfl, hV, hU⟩ | ⟨rfl, V, y, p, rfl, rfl, hV, hU⟩
    · have lV1 : (fsD V).length = V.length := List.length_map ..
      have lV2 : (plD ns.length V).length = V.length := List.length_map ..
      have ez : (z + 1) * (if eqS (D.int b) (D.int 0) = true then 1 else 0) = if b = 0 then z + 1 else 0 := by
        by_cases c : b = 0
        · rw [if_pos (show eqS (D.int b) (D.int 0) = true from decide_eq_true c), if_pos c, Int.mul_one]
        · rw [if_neg (by rw [show eqS (D.int b) (D.int 0) = false from decide_eq_false c]; exact Bool.false_ne_true), if_neg c, Int.mul_zero]
      walk_at "D"
      refine ifT (decide_eq_true (show z < 2 by omega)) ?_
      walk_at "D"
      refine wr_ixL (.dat _) hat ?_
      walk_at "D"
      · omega
      walk_at "D"
      · omega
      walk_at "D"
      refine wr_ixL (.dat _) hat ?_
      walk_at "D"
      refine wc_intB ?_
      walk_at "D"
      refine wr_Ii (.inl ⟨by omega, by omega⟩) ?_
      rw [ez]
      walk_at "D"
      refine ⟨ns.length - (i + 1), by omega, i + 1, (if b = 0 then z + 1 else 0), fsD V ++ [.int b], plD ns.length V ++ [.int ((i : Int) + 1)], rfl, rfl, by rw [List.length_append, List.length_singleton]; omega, ?_⟩
      rw [hd, U_tail] at hU
      by_cases cc : b = 0 ∧ z = 1
      · rw [if_pos cc] at hU
        exact .inr ⟨by rw [if_pos cc.1, cc.2]; rfl, V, b, _, rfl, rfl, by omega, hU⟩
      · rw [if_neg cc] at hU
        have e0 : (if b = 0 then z + 1 else 0 : Int) = if b = 0 then 1 else 0 := by split <;> omega
        rw [e0]
        refine .inl ⟨by split <;> omega, V ++ [(b, ns.drop (i + 1))], (fsD_snoc ..).symm, by rw [plD_snoc, eN], by rw [List.length_append, List.length_singleton]; omega, ?_⟩
        rw [List.append_assoc]
        exact hU
    · have lV2 : (plD ns.length V).length = V.length := List.length_map ..
      walk_at "D"
      refine wr_ixL (.dat _) hat ?_
      walk_at "D"
      rw [hd] at hU
      refine ifC (fun c2 => ?_) (fun c2 => ?_)
      · have c2 : b = 2 := of_decide_eq_true c2
        have hU : V ++ (if b = 2 then (y, ns.drop (i + 1)) :: U (ns.drop (i + 1)) 0 else []) = U (ns.drop j0) 0 := hU
        rw [if_pos c2] at hU
        walk_at "D"
        refine sub_in rfl rfl (by walk_at "fz") rfl (ix_last _ _) ?_
        rw [set_last]
        walk_at "D"
        refine ⟨ns.length - (i + 1), by omega, i + 1, 0, fsD V ++ [.int y], plD ns.length V ++ [.int ((i : Int) + 1)], rfl, rfl, hA, .inl ⟨.inl rfl, V ++ [(y, ns.drop (i + 1))], (fsD_snoc ..).symm, by rw [plD_snoc, eN], by rw [List.length_append, List.length_singleton]; omega, ?_⟩⟩
        rw [List.append_assoc]
        exact hU
      · have c2 : ¬ b = 2 := of_decide_eq_false c2
        have hU : V ++ (if b = 2 then (y, ns.drop (i + 1)) :: U (ns.drop (i + 1)) 0 else []) = U (ns.drop j0) 0 := hU
        rw [if_neg c2, List.append_nil] at hU
        rw [← hU] at q
        walk_at "D"
        rw [cut_last, cut_last]
        exact fin_dat rfl q
  · have hi : ns.length ≤ i := by have := of_decide_eq_false c; omega
    have hd : ns.drop i = [] := List.drop_of_length_le hi
    rw [hd] at hI
    rcases hI with ⟨hz, V, rfl, rfl, hV, hU⟩ | ⟨rfl, V, y, p, rfl, rfl, hV, hU⟩
    · have hU : V ++ [] = U (ns.drop j0) 0 := hU
      rw [List.append_nil] at hU
      rw [← hU] at q
      walk_at "D"
      refine ifF (decide_eq_false (show ¬ z = 2 by omega)) ?_
      walk_at "D"
      exact fin_dat rfl q
    · have hU : V ++ [] = U (ns.drop j0) 0 := hU
      rw [List.append_nil] at hU
      rw [← hU] at q
      walk_at "D"
      rw [cut_last, cut_last]
      exact fin_dat rfl q
end

section
variable {P : Program} {w : World} {K : PySem.W.Frag} {mg : Str → Option Value} {base : Heap}
/-! ### the law's own reading of a box -/
theorem fsD_map (V : List (Int × List Int)) : fsD V = (V.map Prod.fst).map D.int := by unfold fsD; rw [List.map_map]; rfl
theorem U_suf : ∀ (l : List Int) (z : Int) (x : Int × List Int), x ∈ U l z → x.1 ∈ l ∧ ∃ pre, pre ++ x.2 = l ∧ 0 < pre.length := by
  intro l
  induction hn : l.length using Nat.strongRecOn generalizing l with
  | _ n ih =>
    intro z x m
    cases l with
    | nil => cases m
    | cons b r =>
      rw [List.length_cons] at hn
      rw [U_tail] at m
      by_cases c : b = 0 ∧ z = 1
      · rw [if_pos c] at m
        cases r with
        | nil => cases m
        | cons y r =>
          have m : x ∈ (if y = 2 then (b, r) :: U r 0 else []) := m
          by_cases c2 : y = 2
          · rw [if_pos c2] at m
            rcases List.mem_cons.mp m with rfl | m
            · exact ⟨List.mem_cons_self, [b, y], rfl, Nat.zero_lt_succ _⟩
            · obtain ⟨h1, pre, h2, h3⟩ := ih r.length (by rw [List.length_cons] at hn; omega) r rfl 0 x m
              exact ⟨List.mem_cons_of_mem _ (List.mem_cons_of_mem _ h1), b :: y :: pre, by rw [← h2]; rfl, Nat.zero_lt_succ _⟩
          · rw [if_neg c2] at m; cases m
      · rw [if_neg c] at m
        rcases List.mem_cons.mp m with rfl | m
        · exact ⟨List.mem_cons_self, [b], rfl, Nat.zero_lt_succ _⟩
        · obtain ⟨h1, pre, h2, h3⟩ := ih r.length (by omega) r rfl _ x m
          exact ⟨List.mem_cons_of_mem _ h1, b :: pre, by rw [← h2]; rfl, Nat.zero_lt_succ _⟩
theorem U_len : ∀ (l : List Int) (z : Int), (U l z).length ≤ l.length := by
  intro l
  induction hn : l.length using Nat.strongRecOn generalizing l with
  | _ n ih =>
    intro z
    cases l with
    | nil => exact Nat.zero_le _
    | cons b r =>
      rw [List.length_cons] at hn
      rw [U_tail]
      split
      · cases r with
        | nil => exact Nat.zero_le _
        | cons y r =>
          rw [List.length_cons] at hn
          show (if y = 2 then (b, r) :: U r 0 else []).length ≤ _
          split
          · have := ih r.length (by omega) r rfl 0
            rw [List.length_cons]; omega
          · exact Nat.zero_le _
      · have := ih r.length (by omega) r rfl (if b = 0 then 1 else 0)
        rw [List.length_cons]; omega
theorem drop_suf {A s ns : List Int} (h : A ++ s = ns) : ns.drop (ns.length - s.length) = s := by
  subst h
  rw [List.length_append, Nat.add_sub_cancel]
  exact List.drop_left
def resBx (N : Nat) : Option (Int × List Int × List Int) → D
  | none => .non
  | some (k, body, rest) => .tup [.int k, .lst (body.map D.int), .int ((N : Int) - (rest.length : Int))]
theorem cutm (m : Nat) {ns : List Int} {j : Nat} (hj : j ≤ ns.length) : cutD (ns.map D.int) (some (j : Int)) (some ((j : Int) + (m : Int))) = ((ns.drop j).take m).map D.int := by
  rw [cut_int]
  congr 1
  unfold cutI
  rw [sIx_in (v := (j : Int)) (by omega) (by omega)]
  have e : HT.sIx ns.length ns.length (some ((j : Int) + (m : Int))) = min (j + m) ns.length := by
    show (if (j : Int) + (m : Int) < 0 then ((j : Int) + (m : Int) + (ns.length : Int)).toNat else min ((j : Int) + (m : Int)).toNat ns.length) = _
    rw [if_neg (by omega), show ((j : Int) + (m : Int)).toNat = j + m by omega]
  rw [e, show ((j : Int)).toNat = j by omega]
  by_cases c : j + m ≤ ns.length
  · rw [show min (j + m) ns.length - j = m by omega]
  · rw [List.take_of_length_le (by rw [List.length_drop]; omega), List.take_of_length_le (by rw [List.length_drop]; omega)]
theorem cut3 {ns : List Int} {j : Nat} (hj : j ≤ ns.length) : cutD (ns.map D.int) (some (j : Int)) (some ((j : Int) + 3)) = ((ns.drop j).take 3).map D.int := cutm 3 hj
theorem cut1 {ns : List Int} {j : Nat} (hj : j ≤ ns.length) : cutD (ns.map D.int) (some (j : Int)) (some ((j : Int) + 1)) = ((ns.drop j).take 1).map D.int := cutm 1 hj
def wLBoxAt : PW0 := fun xs cs post _ => ∃ (ns : List Int) (j : Nat), xs = [.dat (.lst (ns.map D.int)), .dat (.int j)] ∧ cs = [] ∧ Byts ns ∧ ns.length ≤ 80000 ∧ j ≤ ns.length ∧ post (.dat (resBx ns.length (boxL (ns.drop j)))) []
theorem ok_l_box_at (T : Txt K mg) : FnOk P w K mg base CX0 2 T.a_l_box_at T.d_l_box_at ["_law_row", "_law_at"] (spG K wLBoxAt) := by
  refine T.F_l_box_at.ok sc_l_box_at (fun vs H Q E h => spG_len h fun xs cs post exc ⟨a, b, e, _⟩ => by rw [e]; rfl) (fun cdv A outer s H vs Q E hr h => ⟨_, (pss_cons (ps_if (PW.pt (pw_or (pt_cmpR (op_neD hr.units) (pe_slice sl_list (pv 0) (po_some (pv 1)) (po_some (pe_op op_add (pv 1) pe_int))) (pe_lst (pa_cons pe_int (pa_cons pe_int (pa_cons pe_int pa_nil)))) (nomark _)) (pw_or (pt_cmpR op_lt (pe_callB call_len_seq (by rfl) T.m_len (by decide +kernel) (pa_cons (pv 0) pa_nil)) (pe_op op_add (pv 1) pe_int) (nomark _)) (pw_or1 (pt_not (pt_chain op_le op_le pe_int (pe_ix ix_list (pv 0) (pe_op op_add (pv 1) pe_int) (fun _ _ => rfl)) pe_int)))))) (pss_one (ps_ret pe_non)) pss_nil)
      (pss_cons (ps_asg (pe_call (ok_l_contents T) (hr.mono (by decide)) (by rfl) T.g_l_contents T.F_l_contents.kp T.b_l_contents .nil pass0 (pa_cons (pv 0) (pa_cons (pe_op op_add (pv 1) pe_int) pa_nil))) (pg_tup rfl (pgs_cons (pg_name (i := 2) sc_l_box_at.nd rfl (Or.inl rfl)) (pgs_cons (pg_name (i := 3) sc_l_box_at.nd rfl (Or.inl rfl)) pgs_nil))))
      (pss_cons (ps_set (i := 4) sc_l_box_at.nd rfl (Or.inl rfl) (pe_call (ok_l_number_at T) (hr.mono (by decide)) (by rfl) T.g_l_number_at T.F_l_number_at.kp T.b_l_number_at .nil pass0 (pa_cons (pv 2) (pa_cons pe_int pa_nil))))
      (pss_cons (ps_if (PW.pt (pw_or (pt_cmpR op_isN (pv 4) pe_non (nomark _)) (pw_or (pt_cmpR op_gt (pe_ix ix_tup (pv 4) pe_int (fun _ _ => rfl)) pe_int (nomark _)) (pw_or1 (pt_cmpR op_gt (pe_op op_add (pe_op op_add (pe_ix ix_tup (pv 4) pe_int (fun _ _ => rfl)) (pe_ix ix_tup (pv 4) pe_int (fun _ _ => rfl))) pe_int) (pe_callB call_len_seq (by rfl) T.m_len (by decide +kernel) (pa_cons (pv 2) pa_nil)) (nomark _)))))) (pss_one (ps_ret pe_non)) pss_nil)
      (pss_cons (ps_set (i := 5) sc_l_box_at.nd rfl (Or.inl rfl) (pe_op op_add (pe_op op_add (pe_ix ix_tup (pv 4) pe_int (fun _ _ => rfl)) (pe_ix ix_tup (pv 4) pe_int (fun _ _ => rfl))) pe_int))
      (pss_cons (ps_set (i := 6) sc_l_box_at.nd rfl (Or.inl rfl) (pe_slice sl_list (pv 2) (po_some (pe_ix ix_tup (pv 4) pe_int (fun _ _ => rfl))) (po_some (pe_op op_sub (pv 5) pe_int))))
      (pss_cons (ps_set (i := 7) sc_l_box_at.nd rfl (Or.inl rfl) (pe_ix ix_list (pv 3) (pe_op op_sub (pv 5) pe_int) (fun _ _ => rfl)))
      (pss_cons (ps_if (PW.pt (pw_or (pt_cmpR (op_neD hr.units) (pe_slice sl_list (pv 2) (po_some (pe_op op_sub (pv 5) pe_int)) (po_some (pv 5))) (pe_callTy call_list_of (by rfl) T.m_list (by decide +kernel) (pa_cons (pe_callB call_divmod (by rfl) T.m_divmod (by decide +kernel) (pa_cons (pe_call (ok_l_sum T) (hr.mono (by decide)) (by rfl) T.g_l_sum T.F_l_sum.kp T.b_l_sum .nil pass0 (pa_cons (pe_op op_catF (pe_lst (pa_cons (pe_ix ix_list (pv 0) (pe_op op_add (pv 1) pe_int) (fun _ _ => rfl)) pa_nil)) (pv 6)) (pa_cons pe_int pa_nil))) (pa_cons pe_int pa_nil))) pa_nil)) (nomark _)) (pw_or1 (pt_cmpR (op_neD hr.units) (pe_slice sl_list (pv 0) (po_some (pv 7)) (po_some (pe_op op_add (pv 7) pe_int))) (pe_lst (pa_cons pe_int pa_nil)) (nomark _))))) (pss_one (ps_ret pe_non)) pss_nil)
      (pss_one (ps_ret (pe_tup (pa_cons (pe_ix ix_list (pv 0) (pe_op op_add (pv 1) pe_int) (fun _ _ => rfl)) (pa_cons (pv 6) (pa_cons (pe_op op_add (pv 7) pe_int) pa_nil)))))))))))))), enter h fun F xs cs post hE hw => ?_⟩)
  obtain ⟨ns, j, rfl, rfl, hb, hl, hj, q⟩ := hw
  have ll : (ns.map D.int).length = ns.length := List.length_map ..
  have l3 : (ns.drop j).drop 3 = ns.drop (j + 3) := by rw [List.drop_drop]
  unfold boxL at q
  walk_at "D"
  rw [cut3 hj]
  refine wr_neD 1 (.cel rfl) (.cel rfl) (by rw [fine]; exact fines_intsG 0 _) (by rw [fine]; exact fines_intsG 0 [0, 0, 1]) (by decide) ?_
  rw [show eqD (D.lst (((ns.drop j).take 3).map D.int)) (D.lst [.int 0, .int 0, .int 1]) = decide ((ns.drop j).take 3 = [0, 0, 1]) from eqD_ints _ [0, 0, 1]]
  by_cases c1 : (ns.drop j).take 3 = [0, 0, 1]
  · rw [if_pos c1, l3] at q
    rw [decide_eq_true c1]
    walk_at "D"
    rw [ll]
    cases hr : ns.drop (j + 3) with
    | nil =>
      rw [hr] at q
      have : ns.length ≤ j + 3 := by
        have := congrArg List.length hr
        rw [List.length_drop] at this
        simp only [List.length] at this
        omega
      refine ifT (decide_eq_true (by omega)) ?_
      walk_at "D"
      exact fin_dat rfl q
    | cons k r =>
      rw [hr] at q
      dsimp only at q
      have hj4 : j + 3 < ns.length := by
        have := congrArg List.length hr
        rw [List.length_drop, List.length_cons] at this
        omega
      have hk : ns[j + 3] = k := by
        have := drop_at (ns := ns) (j := j + 3) hj4
        rw [hr] at this
        exact (List.cons.inj this).1.symm
      have hr4 : ns.drop (j + 4) = r := by
        have := drop_at (ns := ns) (j := j + 3) hj4
        rw [hr] at this
        exact (List.cons.inj this).2.symm
      have hat : atI (ns.map D.int) ((j : Int) + 3) = some (D.int k) := by rw [← hk]; exact at_int hj4 (by omega)
      refine ifF (decide_eq_false (by omega)) ?_
      walk_at "D"
      refine we_chain ?_
      walk_at "D"
      refine wr_ixL (.dat _) hat ?_
      walk_at "D"
      by_cases kk : 1 ≤ k ∧ k ≤ 9
      · rw [if_pos kk] at q
        refine ifT (decide_eq_true kk.1) ?_
        walk_at "D"
        rw [decide_eq_true kk.2]
        walk_at "D"
        walk_at "c"
        refine ⟨ns, j + 4, rfl, rfl, hb, hl, rfl, ?_⟩
        rw [hr4, fsD_map]
        have hbr : Byts r := fun y m => hb y (by rw [← hr4] at m; exact List.mem_of_mem_drop m)
        have lr : r.length ≤ ns.length := by rw [← hr4, List.length_drop]; omega
        have lV := U_len r 0
        have bV : Byts ((U r 0).map Prod.fst) := fun y m => by
          obtain ⟨x, hx, rfl⟩ := List.mem_map.mp m
          exact hbr _ (U_suf r 0 x hx).1
        have sV : ∀ x ∈ U r 0, ∃ pre, pre ++ x.2 = r ∧ 0 < pre.length := fun x hx => (U_suf r 0 x hx).2
        unfold lawOn at q
        generalize U r 0 = V at q lV bV sV
        have lF : (V.map Prod.fst).length = V.length := List.length_map ..
        have lD : ((V.map Prod.fst).map D.int).length = V.length := by rw [List.length_map, lF]
        walk_at "D"
        walk_at "c"
        refine ⟨V.map Prod.fst, rfl, rfl, bV, by omega, rfl, ?_⟩
        cases hn : numA (V.map Prod.fst) 0 with
        | none =>
          rw [hn] at q
          walk_at "D"
          exact fin_dat rfl q
        | some x =>
          obtain ⟨n, p⟩ := x
          have fs := numA_app [] hn
          rw [hn] at q
          dsimp only [resD] at q ⊢
          have p0 := fs.2.2.1
          have n0 := fs.2.1
          walk_at "D"
          refine ifC (fun c2 => ?_) (fun c2 => ?_)
          · have c2 := of_decide_eq_true c2
            rw [if_pos (.inl (by omega))] at q
            walk_at "D"
            exact fin_dat rfl q
          · have c2 := of_decide_eq_false c2
            walk_at "D"
            rw [lD]
            refine ifC (fun c3 => ?_) (fun c3 => ?_)
            · have c3 := of_decide_eq_true c3
              rw [if_pos (.inr (by omega))] at q
              walk_at "D"
              exact fin_dat rfl q
            · have c3 := of_decide_eq_false c3
              rw [if_neg (by omega)] at q
              walk_at "D"
              rw [show p + n + 2 - 2 = p + n by omega, cut_int]
              walk_at "D"
              obtain ⟨x, hx⟩ : ∃ x, V[(p + n + 1).toNat]? = some x := ⟨_, List.getElem?_eq_getElem (by omega)⟩
              have hat2 : atI (plD ns.length V) (p + n + 2 - 1) = some (.int ((ns.length : Int) - (x.2.length : Int))) := by
                have := atI_nat (xs := plD ns.length V) (j := (p + n + 1).toNat) (v := D.int ((ns.length : Int) - (x.2.length : Int))) (by unfold plD; rw [List.getElem?_map, hx]; rfl)
                rw [show (((p + n + 1).toNat : Nat) : Int) = p + n + 2 - 1 by omega] at this
                exact this
              rw [hx] at q
              dsimp only at q
              obtain ⟨pre, hp, hpl⟩ := sV x (List.mem_of_getElem? hx)
              have hxl : x.2.length < r.length := by rw [← hp, List.length_append]; omega
              have hdx : ns.drop (ns.length - x.2.length) = x.2 := by
                have e1 : (ns.take (j + 4) ++ pre) ++ x.2 = ns := by rw [List.append_assoc, hp, ← hr4, List.take_append_drop]
                exact drop_suf e1
              refine wr_ixL (.dat _) hat2 ?_
              rw [show (ns.length : Int) - (x.2.length : Int) = ((ns.length - x.2.length : Nat) : Int) by omega]
              walk_at "D"
              rw [show p + n + 2 - 2 = p + n by omega, cut_int]
              walk_at "D"
              refine wr_ixL (.dat _) hat ?_
              walk_at "D"
              have lb : (cutI (V.map Prod.fst) (some p) (some (p + n))).length ≤ 80000 := by have := cutI_len (V.map Prod.fst) (some p) (some (p + n)); omega
              have bb : Byts (cutI (V.map Prod.fst) (some p) (some (p + n))) := fun y m => bV y (cutI_mem m)
              generalize cutI (V.map Prod.fst) (some p) (some (p + n)) = body at q lb bb
              generalize cutI (V.map Prod.fst) (some (p + n)) (some (p + n + 2)) = two at q
              refine wr_cat (ds := [.int k]) (es := body.map D.int) (.cel rfl) (.cel rfl) (by rw [List.length_map]; simp only [List.length]; omega) ?_
              walk_at "D"
              walk_at "c"
              refine ⟨k :: body, 1, rfl, rfl, fun y m => by
                rcases List.mem_cons.mp m with rfl | m
                · omega
                · exact bb y m, by decide, by decide, aft_hard rfl ?_⟩
              walk_at "D"
              refine wc_divmod ⟨by decide, by decide⟩ ?_
              walk_at "D"
              refine wr_neD 1 (.cel rfl) (.cel rfl) (by rw [fine]; exact fines_intsG 0 _) (by rw [fine]; exact fines_intsG 0 (sumS k body)) (by decide) ?_
              rw [show eqD (D.lst (two.map D.int)) (D.lst [.int (chkS (k :: body) 1 / 256), .int (chkS (k :: body) 1 % 256)]) = decide (two = sumS k body) from eqD_ints _ (sumS k body)]
              by_cases c4 : two = sumS k body
              · rw [decide_eq_true c4]
                walk_at "D"
                rw [cut1 (by omega), hdx]
                refine wr_neD 1 (.cel rfl) (.cel rfl) (by rw [fine]; exact fines_intsG 0 _) (by rw [fine]; exact fines_intsG 0 [255]) (by decide) ?_
                rw [show eqD (D.lst ((x.2.take 1).map D.int)) (D.lst [.int 255]) = decide (x.2.take 1 = [255]) from eqD_ints _ [255]]
                by_cases c5 : x.2.take 1 = [255]
                · obtain ⟨t, ht⟩ : ∃ t, x.2 = 255 :: t := by
                    cases hx2 : x.2 with
                    | nil => rw [hx2] at c5; cases c5
                    | cons y t =>
                      rw [hx2] at c5
                      have c5 : [y] = [255] := c5
                      injection c5 with c5
                      exact ⟨t, by rw [c5]⟩
                  rw [if_pos ⟨c4, by rw [ht]; rfl⟩] at q
                  rw [decide_eq_true c5]
                  walk_at "D"
                  refine wr_ixL (.dat _) hat ?_
                  walk_at "D"
                  have e5 : (ns.length : Int) - (x.2.tail.length : Int) = ((ns.length - x.2.length : Nat) : Int) + 1 := by
                    rw [ht] at hxl ⊢
                    rw [List.length_cons] at hxl ⊢
                    rw [List.tail_cons]
                    omega
                  have q : post (.dat (.tup [.int k, .lst (body.map D.int), .int ((ns.length : Int) - (x.2.tail.length : Int))])) [] := q
                  rw [e5] at q
                  exact fin_dat rfl q
                · rw [if_neg (fun y => c5 (by
                    have y2 := y.2
                    cases hx2 : x.2 with
                    | nil => rw [hx2] at y2; cases y2
                    | cons z t =>
                      rw [hx2] at y2
                      have y2 : some z = some 255 := y2
                      injection y2 with y2
                      rw [y2]
                      rfl))] at q
                  rw [decide_eq_false c5]
                  walk_at "D"
                  exact fin_dat rfl q
              · rw [if_neg (fun y => c4 y.1)] at q
                rw [decide_eq_false c4]
                walk_at "D"
                exact fin_dat rfl q
      · rw [if_neg kk] at q
        refine ifC (fun c2 => ?_) (fun c2 => ?_)
        · have c2 : 1 ≤ k := of_decide_eq_true c2
          walk_at "D"
          rw [decide_eq_false (show ¬ k ≤ 9 by omega)]
          walk_at "D"
          exact fin_dat rfl q
        · walk_at "D"
          exact fin_dat rfl q
  · rw [if_neg c1] at q
    rw [decide_eq_false c1]
    walk_at "D"
    exact fin_dat rfl q
end

section
variable {P : Program} {w : World} {K : PySem.W.Frag} {mg : Str → Option Value} {base : Heap}
/-! ### the box at a place -/
def stR (a : Int) (l : List Int) : Option (GSt × List Int) := if l.take 3 = [0, 0, 1] then runG (GSt.init a) (l.drop 3) else none
def resS (N : Nat) : Option (GSt × List Int) → D
  | none => .non
  | some (st, rest) => .tup [oD st.kind, .lst (st.bod.map D.int), .int ((N : Int) - (rest.length : Int))]
theorem resS_box (N : Nat) {a : Int} {l : List Int} (hb : Byts l) : resS N (stR a l) = resBx N (boxL l) := by
  unfold stR boxL
  by_cases c : l.take 3 = [0, 0, 1]
  · rw [if_pos c, if_pos c]
    have hb2 : Byts (l.drop 3) := fun y m => hb y (List.mem_of_mem_drop m)
    cases hr : l.drop 3 with
    | nil => rfl
    | cons k r =>
      rw [hr] at hb2
      dsimp only
      have eg : growS (GSt.init a) k = (decide (1 ≤ k) && decide (k ≤ 9), { GSt.init a with kind := some k }) := growS_none rfl
      rw [runG_cons, eg]
      by_cases kk : 1 ≤ k ∧ k ≤ 9
      · have kb : (decide (1 ≤ k) && decide (k ≤ 9)) = true := by rw [decide_eq_true kk.1, decide_eq_true kk.2]; rfl
        rw [kb, if_pos rfl, if_pos kk]
        rw [if_neg (show ¬ ({ GSt.init a with kind := some k } : GSt).closed = true from Bool.false_ne_true)]
        have := runG_law k a (r.length + 1) r 0 { GSt.init a with kind := some k } [] (Nat.lt_succ_self _) ⟨rfl, rfl, rfl, rfl, rfl, .inl ⟨rfl, rfl, by decide, fun _ m => nomatch m⟩⟩ (.inl rfl) (fun _ z => nomatch z) fun y m => hb2 y (List.mem_cons_of_mem _ m)
        rw [List.nil_append] at this
        cases h1 : runG { GSt.init a with kind := some k } r with
        | none =>
          rw [h1] at this
          cases h2 : lawOn k (U r 0) with
          | none => rfl
          | some y => rw [h2] at this; cases this
        | some x =>
          rw [h1] at this
          cases h2 : lawOn k (U r 0) with
          | none => rw [h2] at this; cases this
          | some y =>
            rw [h2] at this
            have this : outG x = outL a k y := by injection this
            have i2 : x.1.kind = some k := congrArg (fun z => z.2.1) this
            have i3 : x.1.bod = y.1 := congrArg (fun z => z.2.2.1) this
            have i4 : x.2 = y.2 := congrArg (fun z => z.2.2.2) this
            show D.tup [oD x.1.kind, .lst (x.1.bod.map D.int), .int ((N : Int) - (x.2.length : Int))] = D.tup [.int k, .lst (y.1.map D.int), .int ((N : Int) - (y.2.length : Int))]
            rw [i2, i3, i4]
            rfl
      · rw [if_neg kk]
        have kb : (decide (1 ≤ k) && decide (k ≤ 9)) = false := by
          cases z : (decide (1 ≤ k) && decide (k ≤ 9)) with
          | false => rfl
          | true => rw [Bool.and_eq_true] at z; exact absurd ⟨of_decide_eq_true z.1, of_decide_eq_true z.2⟩ kk
        rw [kb, if_neg Bool.false_ne_true]
        rfl
  · rw [if_neg c, if_neg c]
    rfl
theorem rep_tup {K : PySem.W.Frag} {G : Hp} {p : Addr} {vs : List V} {ds : List D} (h : ∃ o n its, K.lookup p = some o ∧ o.cls = .type "tuple" ∧ o.data = .seq its n ∧ Vals vs its.toList) (hl : vs.length ≤ 100) (r : Reps K G ds vs) : Rep K G (.tup ds) (.ref p) := by
  obtain ⟨o, n, its, h1, h2, h3, h4⟩ := h
  have hl2 := h4.length
  refine .tup (vs := vs) (.inr ⟨o, its, n, h1, h2, h3, ?_, h4⟩) r
  rw [← Array.length_toList, ← hl2]
  exact szb (by omega)
theorem rep_START (T : Txt K mg) : ∀ G, Rep K G (.tup [.int 0, .int 0, .int 1]) (.ref T.ca_START) := fun G => rep_tup T.cs_START (by decide) (.cons (.int _) (.cons (.int _) (.cons (.int _) .nil)))
def wStanding : PW0 := fun xs cs post _ => ∃ (ns : List Int) (j : Nat), xs = [.dat (.lst (ns.map D.int)), .dat (.int j)] ∧ cs = [] ∧ Byts ns ∧ ns.length ≤ 80000 ∧ j ≤ ns.length ∧ post (.dat (resBx ns.length (boxL (ns.drop j)))) []
theorem ok_standing_at (T : Txt K mg) : FnOk P w K mg base (L2.CX P w) 9 T.a_standing_at T.d_standing_at ["row", "at"] (spG K wStanding) := by
  refine T.F_standing_at.okX sc_standing_at (fun vs H Q E h => spG_len h fun xs cs post exc ⟨a, b, e, _⟩ => by rw [e]; rfl) (fun cdv A outer s H vs Q E hr h => ⟨_, (pss_cons (ps_if (pt_cmpR (op_neD hr.units) (pe_slice sl_list (pv 0) (po_some (pv 1)) (po_some (pe_op op_add (pv 1) pe_int))) (pe_callTy call_list_of (by rfl) T.m_list (by decide +kernel) (pa_cons (pe_glob (v := .ref T.ca_START) (by rfl) T.g_START rfl) pa_nil)) (nomark _)) (pss_one (ps_ret pe_non)) pss_nil)
      (pss_cons (ps_set (i := 2) sc_standing_at.nd rfl (Or.inl rfl) (pe_make T.mk_Growing (ok_Growing_init T) (hr.mono (by decide)) (by rfl) T.g_Growing T.b_Growing_init .nil pass0 (pa_cons (pv 1) pa_nil)))
      (pss_cons (ps_for (passes_of rfl) rfl (pi_range2 (by rfl) T.m_range (pa_cons (pe_op op_add (pv 1) pe_int) (pa_cons (pe_callB call_len_seq (by rfl) T.m_len (by decide +kernel) (pa_cons (pv 0) pa_nil)) pa_nil))) (pg_name (i := 3) sc_standing_at.nd rfl (Or.inl rfl))
        (pss_cons (ps_if (pt_not (pt_val (pe_meth (pv 2) T.cl_Growing T.mt_Growing_grow (ok_Growing_grow T) (hr.mono (by decide)) T.b_Growing_grow .nil (passes_call (takes_of rfl rfl rfl rfl) (fun _ _ _ _ h => h)) (pa_cons (pe_ix ix_list (pv 0) (pv 3) (fun _ _ => rfl)) pa_nil)))) (pss_one (ps_ret pe_non)) pss_nil)
      (pss_one (ps_if (pt_val (pe_fld (pv 2) rfl)) (pss_one (ps_ret (pe_tup (pa_cons (pe_fld (pv 2) rfl) (pa_cons (pe_meth0 (pv 2) T.cl_Growing T.mt_Growing_body (ok_Growing_body T) (hr.mono (by decide)) T.b_Growing_body .nil pass0) (pa_cons (pe_op op_add (pv 3) pe_int) pa_nil)))))) pss_nil))))
      (pss_one (ps_ret pe_non))))), enter h fun F xs cs post hE hw => ?_⟩)
  subst hE
  obtain ⟨ns, j, rfl, rfl, hb, hl, hj, q⟩ := hw
  rw [← resS_box ns.length (a := (j : Int)) (fun y m => hb y (List.mem_of_mem_drop m))] at q
  unfold stR at q
  rw [List.drop_drop] at q
  refine ws_seqZ fun R hR => ?_
  walk_at "D"
  rw [cut3 hj]
  walk_at "D"
  refine we_cr (rep_START T) ?_
  walk_at "D"
  refine wr_neD 1 (.cel rfl) (.cel rfl) (by rw [fine]; exact fines_intsG 0 _) (by rw [fine]; exact fines_intsG 0 [0, 0, 1]) (by decide) ?_
  rw [show eqD (D.lst (((ns.drop j).take 3).map D.int)) (D.lst [.int 0, .int 0, .int 1]) = decide ((ns.drop j).take 3 = [0, 0, 1]) from eqD_ints _ [0, 0, 1]]
  by_cases c1 : (ns.drop j).take 3 = [0, 0, 1]
  · rw [if_pos c1] at q
    rw [decide_eq_true c1]
    have l3 : j + 3 ≤ ns.length := by
      have := congrArg List.length c1
      rw [List.length_take, List.length_drop] at this
      have : min 3 (ns.length - j) = 3 := this
      omega
    walk_at "D"
    refine ⟨⟨[some (.dat (.lst (ns.map D.int))), some (.dat (.int j)), none, none], []⟩, .tr .cut, ?_⟩
    subst hR
    refine ws_seq ?_
    refine ws_asg ?_
    refine we_ptr ?_
    refine we_make ?_
    walk_at "D"
    refine ⟨_, _, by walk_at "fz", ?_⟩
    refine wsp1 (j := 0) rfl rfl rfl ⟨j, rfl, rfl, fun c => ⟨_, rfl, rfl, rfl, 0, _, rfl, rfl, rfl, fun g X hX => ?_⟩⟩
    cases hX
    walk_at "D"
    rw [List.length_map]
    refine ⟨⟨by omega, by omega, by omega, by omega⟩, ?_⟩
    rw [show ((ns.length : Int) - ((j : Int) + 3)).toNat = ns.length - (j + 3) by omega]
    refine loop_rng (fun i ρ => ∃ (st : GSt) (a3 : Option AV), ρ = ⟨[some (.dat (.lst (ns.map D.int))), some (.dat (.int j)), some (.dat (.cls g)), a3], growC T.c_Growing g c st⟩ ∧ post (.dat (resS ns.length (runG st (ns.drop (j + 3 + i))))) [] ∧ GI (ns.length - (j + 3 + i)) st) ⟨GSt.init j, _, rfl, q, GI.init _ (by omega)⟩ ?_ ?_
    · rintro ρ ⟨st, a3, rfl, q, gi⟩
      refine ⟨trivial, ?_⟩
      rw [show j + 3 + (ns.length - (j + 3)) = ns.length by omega, List.drop_of_length_le (Nat.le_refl _)] at q
      walk_at "D"
      exact fin_dat rfl q
    · rintro i ρ hi ⟨st, a3, rfl, q, gi⟩
      refine ⟨trivial, ?_⟩
      have hij : j + 3 + i < ns.length := by omega
      have hd := drop_at (ns := ns) (j := j + 3 + i) hij
      have hat : atI (ns.map D.int) ((j : Int) + 3 + (i : Int)) = some (D.int ns[j + 3 + i]) := at_int hij (by omega)
      have bb := hb ns[j + 3 + i] (List.getElem_mem hij)
      rw [hd, runG_cons] at q
      generalize ns[j + 3 + i] = b at hat bb q
      rw [show ns.length - (j + 3 + i) = (ns.length - (j + 3 + (i + 1))) + 1 by omega] at gi
      walk_at "D"
      refine we_meth ?_
      walk_at "D"
      refine ⟨_, _, .tag (j := 0) rfl, rfl, ?_⟩
      walk_at "D"
      refine wr_ixL (.dat _) hat ?_
      walk_at "D"
      refine wspP0 (ds := [.cls g, .int b]) (js := [0, 1]) (cs := growC T.c_Growing g c st) rfl (by decide) rfl ⟨g, c, st, b, rfl, rfl, gi.ok, bb.1, bb.2, rfl, rfl, ?_⟩
      by_cases g1 : (growS st b).1 = true
      · rw [if_pos g1] at q
        rw [g1]
        walk_at "D"
        refine we_fld ?_
        walk_at "D"
        refine ⟨_, _, _, _, .tag (j := 0) rfl, T.cl_Growing, T.na_Growing_closed, rfl, ?_⟩
        walk_at "D"
        rcases grow_end gi bb.1 bb.2 g1 with ⟨cl, k, f, h2, hk, hf, hh⟩ | ⟨cl, gi2⟩
        · rw [if_pos cl] at q
          have q : post (.dat (.tup [oD (growS st b).2.kind, .lst ((growS st b).2.bod.map D.int), .int ((ns.length : Int) - ((ns.drop (j + 3 + i + 1)).length : Int))])) [] := q
          have eb : (growS st b).2.bod = cutI (growS st b).2.content (some f) (some h2) := by
            unfold GSt.bod
            rw [hf, hh]
          rw [eb, List.length_drop, show (ns.length : Int) - ((ns.length - (j + 3 + i + 1) : Nat) : Int) = (j : Int) + 3 + (i : Int) + 1 by omega] at q
          refine ifT cl ?_
          walk_at "D"
          refine we_fld ?_
          walk_at "D"
          refine ⟨_, _, _, _, .tag (j := 0) rfl, T.cl_Growing, T.na_Growing_kind, rfl, ?_⟩
          walk_at "D"
          refine we_meth ?_
          walk_at "D"
          refine ⟨_, _, .tag (j := 0) rfl, rfl, ?_⟩
          walk_at "D"
          refine wspP0 (ds := [.cls g]) (js := [0, 1]) (cs := growC T.c_Growing g c (growS st b).2) rfl (by decide) rfl ⟨g, c, _, f, h2, rfl, rfl, hf, hh, rfl, rfl, ?_⟩
          walk_at "D"
          exact fin_dat rfl q
        · rw [if_neg (by rw [cl]; exact Bool.false_ne_true)] at q
          refine ifF cl ?_
          walk_at "D"
          exact now ⟨(growS st b).2, _, rfl, q, gi2⟩
      · rw [if_neg g1] at q
        rw [show (growS st b).1 = false by cases z : (growS st b).1 with | false => rfl | true => exact absurd z g1]
        walk_at "D"
        exact fin_dat rfl q
  · rw [if_neg c1] at q
    rw [decide_eq_false c1]
    walk_at "D"
    exact fin_dat rfl q
def wBoxAt (C1 C2 : Addr) : PW0 := fun xs cs post exc => ∃ d e, xs = [.dat d, .dat e] ∧ cs = [] ∧ pl d = true ∧ pl e = true ∧ (isRw d = false → exc C1) ∧ (isRw d = true → inR 0 (lnR d) e = false → exc C2) ∧ ∀ (ns : List Int) (j : Nat), d = .lst (ns.map D.int) → e = .int j → Byts ns → j ≤ ns.length → ns.length ≤ 80000 ∧ post (.dat (resBx ns.length (boxL (ns.drop j)))) []
theorem ok_box_at (T : Txt K mg) : FnOk P w K mg base (L2.CX P w) 10 T.a_box_at T.d_box_at ["row", "at"] (spG K (wBoxAt T.c_NoBytes T.c_NoPlace)) := by
  refine T.F_box_at.ok (CX := L2.CX P w) sc_box_at (fun vs H Q E h => spG_len h fun xs cs post exc ⟨a, b, e, _⟩ => by rw [e]; rfl) (fun cdv A outer s H vs Q E hr h => ⟨_, (pss_cons (ps_expr (pe_call (ok_refuse_no_place T) (hr.mono (by decide)) (by rfl) T.g_refuse_no_place T.F_refuse_no_place.kp T.b_refuse_no_place .nil (passes_call (takes_of rfl rfl rfl rfl) (fun _ _ _ _ h => h)) (pa_cons (pv 0) (pa_cons (pv 1) pa_nil))))
      (pss_one (ps_ret (pe_call (ok_standing_at T) (hr.mono (by decide)) (by rfl) T.g_standing_at T.F_standing_at.kp T.b_standing_at .nil (passes_call (takes_of rfl rfl rfl rfl) (fun _ _ _ _ h => h)) (pa_cons (pv 0) (pa_cons (pv 1) pa_nil)))))), enter h fun F xs cs post hE hw => ?_⟩)
  subst hE
  obtain ⟨d, e, rfl, rfl, hp, he, qx, qy, q⟩ := hw
  walk_at "D"
  walk_at "cx"
  refine ⟨d, e, rfl, rfl, hp, he, qx, qy, fun h1 h2 => ⟨rfl, ?_⟩⟩
  obtain ⟨ns, rfl, hb⟩ := rw_of h1
  obtain ⟨i, rfl, i0, i1⟩ := inR_of h2
  have i1 : i ≤ ((ns.map D.int).length : Int) := i1
  rw [List.length_map] at i1
  obtain ⟨j, rfl⟩ : ∃ j : Nat, i = j := ⟨i.toNat, by omega⟩
  obtain ⟨hl, q⟩ := q ns j rfl rfl hb (by omega)
  walk_at "D"
  walk_at "cx"
  refine ⟨ns, j, rfl, rfl, hb, hl, by omega, rfl, ?_⟩
  exact fin_dat rfl q
/-! ### a box's bytes -/
def wStuffed (CN : Addr) : PW0 := fun xs cs post exc => ∃ ns : List Int, xs = [.dat (.lst (ns.map D.int))] ∧ cs = [] ∧ Byts ns ∧ ns.length ≤ 80000 ∧ post (.new ((stI ns 0).map D.int)) []
theorem ok_stuffed (T : Txt K mg) : FnOk P w K mg base (L2.CX P w) 5 T.a_stuffed T.d_stuffed ["row"] (spG K (wStuffed T.c_NoBytes)) := by
  refine T.F_stuffed.okX sc_stuffed (fun vs H Q E h => spG_len h fun xs cs post exc ⟨a, e, _⟩ => by rw [e]; rfl) (fun cdv A outer s H vs Q E hr h => ⟨_, (pss_cons (ps_expr (pe_call (ok_refuse_no_bytes T) (hr.mono (by decide)) (by rfl) T.g_refuse_no_bytes T.F_refuse_no_bytes.kp T.b_refuse_no_bytes .nil (passes_call (takes_of rfl rfl rfl rfl) (fun _ _ _ _ h => h)) (pa_cons (pv 0) pa_nil)))
      (pss_cons (ps_set (i := 1) sc_stuffed.nd rfl (Or.inl rfl) (pe_lst pa_nil))
      (pss_cons (ps_set (i := 2) sc_stuffed.nd rfl (Or.inl rfl) pe_int)
      (pss_cons (ps_for (passes_of rfl) rfl (pi_list (pv 0)) (pg_name (i := 3) sc_stuffed.nd rfl (Or.inl rfl))
        (pss_cons (ps_expr (pe_bm PySem.F.plainAttrs_list PySem.F.slot_list_append PySem.F.type_list_append mt_append (pv 1) (pa_cons (pv 3) pa_nil)))
      (pss_cons (ps_set (i := 2) sc_stuffed.nd rfl (Or.inl rfl) (pe_ifExp (pt_cmpR op_eq (pv 3) pe_int (nomark _)) (pe_op op_add (pv 2) pe_int) pe_int))
      (pss_one (ps_if (pt_cmpR op_eq (pv 2) pe_int (nomark _)) (pss_cons (ps_expr (pe_bm PySem.F.plainAttrs_list PySem.F.slot_list_append PySem.F.type_list_append mt_append (pv 1) (pa_cons (pe_glob (v := .int 2) (by rfl) T.g_STUFFING ⟨_, rfl⟩) pa_nil)))
      (pss_one (ps_set (i := 2) sc_stuffed.nd rfl (Or.inl rfl) pe_int))) pss_nil)))))
      (pss_one (ps_ret (pv 1))))))), enter h fun F xs cs post hE hw => ?_⟩)
  subst hE
  obtain ⟨ns, rfl, rfl, hb, hl, q⟩ := hw
  have sl := stI_len ns 0
  walk_at "D"
  walk_at "cx"
  refine ⟨_, rfl, rfl, by rw [pl]; exact pls_int _, fun _ => ⟨rfl, ?_⟩, fun z => by rw [rw_is hb] at z; cases z⟩
  walk_at "D"
  refine loop_by (fun es ρ => ∃ (rest : List Int) (z : Int) (acc : List Int) (x : Option AV), es = rest.map D.int ∧ ρ = ⟨[some (.dat (.lst (ns.map D.int))), some (.cel 0), some (.dat (.int z)), x], [.lst (acc.map D.int)]⟩ ∧ acc ++ stI rest z = stI ns 0 ∧ (z = 0 ∨ z = 1)) ⟨ns, 0, [], none, rfl, rfl, rfl, .inl rfl⟩ ?_ ?_
  · rintro ρ ⟨rest, z, acc, x, e1, rfl, e2, _⟩
    have e3 : rest = [] := by cases rest with | nil => rfl | cons => cases e1
    subst e3
    have e2 : acc = stI ns 0 := by rw [← e2]; exact (List.append_nil _).symm
    subst e2
    refine ⟨.dat _, ?_⟩
    walk_at "D"
    exact ⟨_, .cel (Nat.zero_le _) rfl, rfl, q⟩
  · rintro d es ρ ⟨rest, z, acc, x, e1, rfl, e2, hz⟩
    cases rest with
    | nil => cases e1
    | cons b rest =>
      obtain ⟨rfl, rfl⟩ := List.cons.inj e1
      have al : acc.length ≤ 160000 := by
        have := congrArg List.length e2
        rw [List.length_append] at this
        omega
      have e2 : acc ++ (if b = 0 ∧ z = 1 then b :: 2 :: stI rest 0 else b :: stI rest (if b = 0 then 1 else 0)) = stI ns 0 := e2
      have fin1 : ∀ y : Int, y = (if b = 0 then z + 1 else 0) → y = 2 → b = 0 ∧ z = 1 := fun y hy c => by
        subst hy
        by_cases y : b = 0
        · rw [if_pos y] at c; exact ⟨y, by omega⟩
        · rw [if_neg y] at c; cases c
      refine ⟨.dat _, ?_⟩
      walk_at "D"
      · rw [List.length_map]; omega
      refine ws_seqP (fun _ : Unit => True) (fun _ => ⟨[some (.dat (.lst (ns.map D.int))), some (.cel 0), some (.dat (.int (if b = 0 then z + 1 else 0))), some (.dat (.int b))], [.lst (acc.map D.int ++ [.int b])]⟩) (fun _ _ => ?_) ?_
      rotate_left
      · walk_at "D"
        refine ifC (fun c => ?_) (fun c => ?_)
        · have c : b = 0 := of_decide_eq_true c
          rw [if_pos c]
          walk_at "D"
          exact ⟨(), trivial, .tr .all⟩
        · have c : ¬ b = 0 := of_decide_eq_false c
          rw [if_neg c]
          walk_at "D"
          exact ⟨(), trivial, .tr .all⟩
      walk_at "D"
      refine ifC (fun c => ?_) (fun c => ?_)
      · have c : (if b = 0 then z + 1 else 0) = 2 := of_decide_eq_true c
        have cc := fin1 _ rfl c
        rw [if_pos cc] at e2
        walk_at "D"
        · rw [List.length_append, List.length_map, List.length_singleton]; omega
        walk_at "D"
        refine now ⟨rest, 0, acc ++ [b] ++ [2], some (.dat (.int b)), rfl, ?_, ?_, .inl rfl⟩
        · rw [List.map_append, List.map_append]
          rfl
        · rw [← e2, List.append_assoc, List.append_assoc]
          rfl
      · have c : ¬ (if b = 0 then z + 1 else 0) = 2 := of_decide_eq_false c
        have ncc : ¬ (b = 0 ∧ z = 1) := fun y => c (by rw [if_pos y.1, y.2]; rfl)
        have e0 : (if b = 0 then z + 1 else 0) = if b = 0 then 1 else 0 := by split <;> omega
        rw [if_neg ncc] at e2
        rw [e0]
        walk_at "D"
        refine now ⟨rest, (if b = 0 then 1 else 0), acc ++ [b], some (.dat (.int b)), rfl, ?_, ?_, by split <;> omega⟩
        · rw [List.map_append]
          rfl
        · rw [← e2, List.append_assoc]
          rfl
def wBox (CK CB : Addr) : PW0 := fun xs cs post exc => ∃ d e, xs = [.dat d, .dat e] ∧ cs = [] ∧ pl d = true ∧ pl e = true ∧ (inR 1 9 d = false → exc CK) ∧ (inR 1 9 d = true → (isRw e = false ∨ 60000 < lnR e) → exc CB) ∧ ∀ (k : Int) (ns : List Int), d = .int k → e = .lst (ns.map D.int) → 1 ≤ k → k ≤ 9 → Byts ns → ns.length ≤ 60000 → post (.new ((boxedI k ns).map D.int)) []
theorem ok_box (T : Txt K mg) : FnOk P w K mg base (L2.CX P w) 7 T.a_box T.d_box ["kind", "body"] (spG K (wBox T.c_NoKind T.c_NoBytes)) := by
  refine T.F_box.okX sc_box (fun vs H Q E h => spG_len h fun xs cs post exc ⟨a, b, e, _⟩ => by rw [e]; rfl) (fun cdv A outer s H vs Q E hr h => ⟨_, (pss_cons (ps_if (pt_not (pt_val (pe_call (ok_is_whole T) (hr.mono (by decide)) (by rfl) T.g_is_whole T.F_is_whole.kp T.b_is_whole .nil pass0 (pa_cons (pv 0) (pa_cons (pe_glob (v := .int 1) (by rfl) T.g_LEAST_KIND ⟨_, rfl⟩) (pa_cons (pe_glob (v := .int 9) (by rfl) T.g_GREATEST_KIND ⟨_, rfl⟩) pa_nil)))))) (pss_one (ps_raise rfl (takes_of rfl rfl rfl rfl) (pmk_own PySem.F.excBase_ValueError T.x_NoKind T.g_NoKind T.k_NoKind (raises_own T.bb_NoKind T.t_NoKind) rfl))) pss_nil)
      (pss_cons (ps_if (PW.pt (pw_or (pt_not (pt_val (pe_call (ok_is_bytes T) (hr.mono (by decide)) (by rfl) T.g_is_bytes T.F_is_bytes.kp T.b_is_bytes .nil pass0 (pa_cons (pv 1) pa_nil)))) (pw_or1 (pt_cmpR op_gt (pe_callB call_len_seq (by rfl) T.m_len (by decide +kernel) (pa_cons (pv 1) pa_nil)) (pe_glob (v := .int 60000) (by rfl) T.g_LONGEST_BODY ⟨_, rfl⟩) (nomark _))))) (pss_one (ps_raise rfl (takes_of rfl rfl rfl rfl) (pmk_own PySem.F.excBase_ValueError T.x_NoBytes T.g_NoBytes T.k_NoBytes (raises_own T.bb_NoBytes T.t_NoBytes) rfl))) pss_nil)
      (pss_one (ps_ret (pe_op op_catF (pe_op op_catF (pe_op op_catF (pe_callTy call_list_of (by rfl) T.m_list (by decide +kernel) (pa_cons (pe_glob (v := .ref T.ca_START) (by rfl) T.g_START rfl) pa_nil)) (pe_lst (pa_cons (pv 0) pa_nil))) (pe_call (ok_stuffed T) (hr.mono (by decide)) (by rfl) T.g_stuffed T.F_stuffed.kp T.b_stuffed .nil (passes_call (takes_of rfl rfl rfl rfl) (fun _ _ _ _ h => h)) (pa_cons (pe_op op_catF (pe_op op_catF (pe_call (ok_written T) (hr.mono (by decide)) (by rfl) T.g_written T.F_written.kp T.b_written .nil (passes_call (takes_of rfl rfl rfl rfl) (fun _ _ _ _ h => h)) (pa_cons (pe_callB call_len_seq (by rfl) T.m_len (by decide +kernel) (pa_cons (pv 1) pa_nil)) pa_nil)) (pv 1)) (pe_call (ok_sum_of T) (hr.mono (by decide)) (by rfl) T.g_sum_of T.F_sum_of.kp T.b_sum_of .nil (passes_call (takes_of rfl rfl rfl rfl) (fun _ _ _ _ h => h)) (pa_cons (pv 0) (pa_cons (pv 1) pa_nil)))) pa_nil))) (pe_lst (pa_cons (pe_glob (v := .int 255) (by rfl) T.g_END ⟨_, rfl⟩) pa_nil))))))), enter h fun F xs cs post hE hw => ?_⟩)
  subst hE
  obtain ⟨d, e, rfl, rfl, hp, he, qx, qy, q⟩ := hw
  walk_at "D"
  walk_at "c"
  refine ⟨d, 1, 9, rfl, rfl, hp, rfl, ?_⟩
  cases hd : inR 1 9 d with
  | false =>
    walk_at "D"
    exact ws_exc fun as σ H G D en => F.hE _ H (qx hd) en.fh
  | true =>
    obtain ⟨k, rfl, k0, k1⟩ := inR_of hd
    walk_at "D"
    walk_at "c"
    refine ⟨e, rfl, rfl, he, rfl, ?_⟩
    cases hrw : isRw e with
    | false =>
      walk_at "D"
      exact ws_exc fun as σ H G D en => F.hE _ H (qy hd (.inl hrw)) en.fh
    | true =>
      obtain ⟨ns, rfl, hb⟩ := rw_of hrw
      walk_at "D"
      rw [List.length_map]
      refine ifC (fun c => ?_) (fun c => ?_)
      · have c := of_decide_eq_true c
        walk_at "D"
        exact ws_exc fun as σ H G DD en => F.hE _ H (qy hd (.inr (by show (60000 : Int) < ((ns.map D.int).length : Int); rw [List.length_map]; exact c))) en.fh
      · have c := of_decide_eq_false c
        have hl : ns.length ≤ 60000 := by omega
        have q := q k ns rfl rfl k0 k1 hb hl
        have lf : (figN ns.length).length ≤ 31 := by
          unfold figN
          rw [List.length_append, List.length_reverse]
          have : (tlN (ns.length / 128)).length ≤ 30 := tlN_len 30 _ (Nat.lt_of_le_of_lt (show ns.length / 128 ≤ 60000 by omega) (by decide))
          show _ + 1 ≤ 31
          omega
        walk_at "D"
        refine we_cr (rep_START T) ?_
        walk_at "D"
        refine wr_cat (ds := [.int 0, .int 0, .int 1]) (es := [.int k]) (.cel rfl) (.cel rfl) (Nat.le_of_ble_eq_true rfl) ?_
        walk_at "D"
        rw [List.length_map]
        walk_at "cx"
        refine ⟨.int (ns.length : Int), rfl, rfl, rfl, fun n e1 e2 => ?_, fun z => absurd (inR_int (lo := 0) (hi := 10 ^ 60) (i := (ns.length : Int)) (by omega) (by omega)) (by rw [z]; decide)⟩
        have e1 : ns.length = n := by have := D.int.inj e1; omega
        subst e1
        refine aft_hards (hards_int _) ?_
        walk_at "D"
        refine wr_cat (ds := (figN ns.length).map D.int) (es := ns.map D.int) (.cel rfl) (.dat _) (by rw [List.length_map, List.length_map]; omega) ?_
        walk_at "D"
        walk_at "cx"
        refine ⟨k, ns, rfl, rfl, fun y m => by
          rcases List.mem_cons.mp m with rfl | m
          · omega
          · exact hb y m, by omega, aft_hards (hards_int _) ?_⟩
        walk_at "D"
        refine wr_cat (ds := (figN ns.length).map D.int ++ ns.map D.int) (es := (sumS k ns).map D.int) (.cel rfl) (.cel rfl) (by rw [List.length_append, List.length_map, List.length_map]; simp only [List.length, sumS, List.map]; omega) ?_
        have cl : (figN ns.length ++ ns ++ sumS k ns).length ≤ 61000 := by
          rw [List.length_append, List.length_append]
          simp only [List.length, sumS]
          omega
        have cb : Byts (figN ns.length ++ ns ++ sumS k ns) := Byts.cat (Byts.cat (fig_byts _) hb) (sumS_byts k ns)
        have ec : (figN ns.length).map D.int ++ ns.map D.int ++ (sumS k ns).map D.int = (figN ns.length ++ ns ++ sumS k ns).map D.int := by rw [List.map_append, List.map_append]
        rw [ec]
        unfold boxedI at q
        generalize figN ns.length ++ ns ++ sumS k ns = ct at cl cb q
        have sl := stI_len ct 0
        walk_at "D"
        walk_at "cx"
        refine ⟨ct, rfl, rfl, cb, by omega, aft_hards (hards_int _) ?_⟩
        walk_at "D"
        refine wr_cat (ds := [.int 0, .int 0, .int 1, .int k]) (es := (stI ct 0).map D.int) (.cel rfl) (.cel rfl) (by rw [List.length_map]; simp only [List.length]; omega) ?_
        walk_at "D"
        refine wr_cat (ds := [.int 0, .int 0, .int 1, .int k] ++ (stI ct 0).map D.int) (es := [.int 255]) (.cel rfl) (.cel rfl) (by rw [List.length_append, List.length_map]; simp only [List.length]; omega) ?_
        refine ⟨_, .cel (Nat.zero_le _) rfl, rfl, ?_⟩
        rw [show [D.int 0, .int 0, .int 1, .int k] ++ (stI ct 0).map D.int ++ [.int 255] = ([0, 0, 1, k] ++ stI ct 0 ++ [255]).map D.int by rw [List.map_append, List.map_append]; rfl]
        exact q
end

local macro_rules | `(tactic| walk_at "cat") => `(tactic| refine wr_cat (by walk_at "il") (by walk_at "il") (by simp only [List.length_append, List.length_map, List.length_cons, List.length_nil]; omega) ?_)
local macro_rules | `(tactic| walk_at "E") => `(tactic| repeat (first
  | (with_reducible refine ws_seq ?_; walk_at "nr2")
  | walk_at "d"
  | refine we_dnew ?_
  | refine ifT rfl ?_
  | refine ifF rfl ?_))
section
variable {P : Program} {w : World} {K : PySem.W.Frag} {mg : Str → Option Value} {base : Heap}
/-! ### a thing laid that nobody looks at -/
section
variable {K : PySem.W.Frag} {F : Fx} {ρ : En}
theorem EnvOk.newH {as : List Addr} {σ : L2.St} {H G : Hp} {p : Addr} {o : HO} (e : EnvOk K F ρ as σ H G) (hp : H p = none) : EnvOk K F ρ as σ (upd H p o) G := by
  refine ⟨fun a u h => upd_old hp (e.gh _ _ h), Same.new e.fh hp, e.fg, e.g0, e.nd, e.pr, e.ln, fun j c a hc ha => ?_, e.sn, e.sl, by obtain ⟨Ts, r⟩ := e.rg; exact ⟨Ts, r.same (fun _ _ _ _ h => upd_old hp h) (fun _ _ _ g => g) (fun _ z => z) fun _ _ z => .inl z⟩⟩
  obtain ⟨f, ⟨u, hu⟩, ok⟩ := e.ce j c a hc ha
  refine ⟨f, ⟨u, upd_old hp hu⟩, ?_⟩
  cases c with
  | gone => trivial
  | reg t X => exact ok
  | lst ds => obtain ⟨g, vs, h, r⟩ := ok; exact ⟨g, vs, upd_old hp h, r⟩
  | ins C9 ns9 ds => obtain ⟨g, dx9, vs, h, ln9, r⟩ := ok; exact ⟨g, dx9, vs, upd_old hp h, ln9, r⟩
  | drw => obtain ⟨g, vs, h, r⟩ := ok; exact ⟨g, vs, upd_old hp h, r⟩
  | oth X => obtain ⟨g, o9, h, r⟩ := ok; exact ⟨g, o9, upd_old hp h, r⟩
end
/-! ### isinstance of a caught error, of one class of several; {k: v} -/
section
variable {K : PySem.W.Frag} {F : Fx} {ρ : En} {k : AV → En → Prop}
theorem reps_cls {G : Hp} {as : List Addr} : ∀ {ys : List Addr} {vs : List V}, RepAs K G as (ys.map fun y => .dat (.cls y)) vs → vs = ys.map V.ref
  | [], _, h => by cases h; rfl
  | y :: ys, _, h => by
    cases h with
    | cons a b => cases (show Rep K G (.cls y) _ from a); rw [reps_cls b]; rfl
theorem paired_cls : ∀ (ys : List Addr), Paired ClsV (ys.map V.ref) (ys.map Value.ref)
  | [] => .nil
  | y :: ys => .cons (.own y) (paired_cls ys)
theorem we_isEs {i : Nat} {e C : Addr} (ys : List Addr) {ta : TA} {b : Bool} (hv : ρ.sl[i]? = some (some (.dat (.cls e)))) (hl : Nat.ble ys.length 1000 = true) (xc : ExcC K C) (ka : PySem.W.kitAny K (.ref C) (ys.map Value.ref) = some b) (hta : WpA K F ta ρ fun avs ρ1 => avs = ys.map (fun y => AV.dat (.cls y)) ∧ k (.dat (.bl b)) ρ1) :
    WpE K F (tCB (rIsEs K (.ref C) none e) (tCons (tVar i) (tCons (tTup ta) tNil))) ρ k := fun as σ H G en Q q => by
  obtain ⟨v, hs, rv⟩ := en.sl i _ hv
  cases (show Rep K G (.cls e) v from rv)
  refine ⟨_, hs, hta as σ H G en _ ?_⟩
  rintro avs ρ1 vs as1 H1 G1 ⟨rfl, hk⟩ e1 g1 r1
  have ev := reps_cls r1
  subst ev
  refine ⟨sz (by rw [List.length_map]; exact hl), fun p hp => ?_⟩
  refine ⟨C, p, ys.map V.ref, ys.map Value.ref, b, rfl, rfl, xc, rfl, upd_same, paired_cls ys, ka, ?_⟩
  exact q _ ρ1 _ as1 _ G1 hk (e1.newH hp) g1 (Rep.bl _)
theorem we_disp1 {x : Str} {i : Nat} {av : AV} (hv : ρ.sl[i]? = some (some av)) (h : k (.dat .dic) ρ) : WpE K F (tDisp [(tC (.str x), tVar i)]) ρ k := fun as σ H G e Q q p hp => by
  obtain ⟨v, hs, rv⟩ := e.sl i _ hv
  obtain ⟨e3, g3⟩ := e.newG (o := .dK (mergeK [] [((.inr x : Key), v)])) hp
  refine ⟨v, hs, upd_same, [(.inr x, v)], rfl, Nat.le_of_ble_eq_true rfl, ?_⟩
  rw [upd_upd]
  exact q _ _ _ _ _ _ h e3 g3 (Rep.dic upd_same)
end
/-! ### a call with keywords; a law's promise -/
theorem we_callN {K : PySem.W.Frag} {F : Fx} {ρ : En} {k : AV → En → Prop} {n m : Nat} {sp : Sp} {gV : List V → List V → List V} {E : XK} {t tk : TA} (h : WpA K F t ρ fun xs ρ1 => WpA K F tk ρ1 fun ys ρ2 => ∃ zs, xs.length = n ∧ ys.length = m ∧ (∀ G as vs ws, RepAs K G as xs vs → RepAs K G as ys ws → RepAs K G as zs (gV vs ws)) ∧ WpSp K F sp (fun _ => E) zs ρ2 k) : WpE K F (L2.tCallN n m sp gV E t tk) ρ k := fun as σ H G e Q q =>
  h as σ H G e _ fun xs ρ1 vs as1 H1 G1 h1 e1 g1 r1 => h1 as1 σ H1 G1 e1 _ fun ys ρ2 ws as2 H2 G2 ⟨zs, l1, l2, hg, h2⟩ e2 g2 r2 => ⟨by rw [r1.length]; exact l1, by rw [r2.length]; exact l2, h2 as2 σ H2 G2 _ e2 (hg _ _ _ _ (r1.mono g2) r2) Q (q.imp (g1.trans g2) fun _ _ z => z)⟩
def spLaw (K : PySem.W.Frag) : Sp := fun vs H Q _ => ∃ (a : Addr) (ns : List Int), vs = [.ref a] ∧ SqL K H a (ns.map V.int) ∧ ns.length ≤ 63 ∧ ∀ H', Q (.bl true) H'
def wLaw : PW0 := fun xs cs post _ => ∃ ns : List Int, xs = [.dat (.scr (ns.map D.int))] ∧ cs = [] ∧ ns.length ≤ 63 ∧ post (.dat (.bl true)) []
theorem law_of {K : PySem.W.Frag} {vs : List V} {H : Hp} {Q : VK} {E : XK} (h : spLaw K vs H Q E) : spG K wLaw vs H Q E := by
  obtain ⟨a, ns, rfl, hs, hl, q⟩ := h
  refine ⟨H, [], fun _ _ => none, [.dat (.scr (ns.map D.int))], [], fun r _ => r = .dat (.bl true), fun _ => False, Same.refl _, ⟨rfl, List.nodup_nil, fun j c a hc => by simp at hc⟩, RegsAt.no (fun j t X z => by simp at z), .cons (Rep.scr hs Reps.ofV) .nil, ⟨ns, rfl, rfl, hl, rfl⟩, ?_, fun _ _ z => z.elim⟩
  intro r cs v H' G' Ts' hp _ _ _ _ _ _ _ rr
  subst hp
  rw [Rep.blE rr]
  exact q H'
theorem cut_ints (ns : List Int) (lo hi : Option Int) : ∃ ms : List Int, cutD (ns.map D.int) lo hi = ms.map D.int ∧ ms.length ≤ ns.length := by
  refine ⟨(ns.drop (HT.sIx ns.length 0 lo)).take (HT.sIx ns.length ns.length hi - HT.sIx ns.length 0 lo), ?_, ?_⟩
  · unfold cutD
    rw [List.length_map, List.map_take, List.map_drop]
  · rw [List.length_take, List.length_drop]
    omega
/-! ### what is no row of bytes -/
def OddR (d : D) : Prop := pl d = true ∧ isRw d = false ∧ lnR d ≤ 50000
theorem pls_app {a b : List D} (h : pls a = true) (k : pls b = true) : pls (a ++ b) = true := by
  induction a with
  | nil => exact k
  | cons x a ih =>
    obtain ⟨h1, h2⟩ := pls_cons h
    show (pl x && pls (a ++ b)) = true
    rw [h1, ih h2]; rfl
def wOddRow : PW0 := fun xs cs post _ => ∃ ns : List Int, xs = [.cel 0, .dat (.lst (ns.map D.int))] ∧ cs = [.drw] ∧ ns.length ≤ 20000 ∧ (∀ d, OddR d → post (.dat d) [.drw]) ∧ (∀ ds, OddR (.lst ds) → post (.new ds) [.drw])
theorem ok_l_odd_row (T : Txt K mg) : FnOk P w K mg base CX0 2 T.a_l_odd_row T.d_l_odd_row ["_law_state", "_law_row"] (spG K wOddRow) := by
  refine T.F_l_odd_row.ok sc_l_odd_row (fun vs H Q E h => spG_len h fun xs cs post exc ⟨a, e, _⟩ => by rw [e]; rfl) (fun cdv A outer s H vs Q E hr h => ⟨_, (pss_cons (ps_if (pt_cmpR op_eq (pe_call (ok_l_digit T) (hr.mono (by decide)) (by rfl) T.g_l_digit T.F_l_digit.kp T.b_l_digit .nil pass0 (pa_cons (pv 0) (pa_cons pe_int pa_nil))) pe_int (nomark _)) (pss_one (ps_ret (pe_ix ix_list (pe_lst (pa_cons pe_non (pa_cons (pe_callTy call_tuple_of (by rfl) T.m_tuple (by decide +kernel) (pa_cons (pv 1) pa_nil)) (pa_cons pe_str (pa_cons pe_int (pa_cons pe_dnewK (pa_cons pe_str (pa_cons pe_int pa_nil)))))))) (pe_call (ok_l_digit T) (hr.mono (by decide)) (by rfl) T.g_l_digit T.F_l_digit.kp T.b_l_digit .nil pass0 (pa_cons (pv 0) (pa_cons pe_int pa_nil))) (fun _ _ => rfl)))) pss_nil)
      (pss_cons (ps_set (i := 2) sc_l_odd_row.nd rfl (Or.inl rfl) (pe_ix ix_list (pe_lst (pa_cons pe_int (pa_cons (pe_un un_neg pe_int) (pa_cons (pe_cmpR op_eq pe_int pe_int (nomark _)) (pa_cons pe_non (pa_cons pe_str (pa_cons (pe_lst (pa_cons pe_int pa_nil)) (pa_cons (pe_tup (pa_cons pe_int pa_nil)) (pa_cons (pe_op op_pow pe_int pe_int) (pa_cons (pe_un un_neg pe_int) (pa_cons (pe_cmpR op_eq pe_int pe_int (nomark _)) pa_nil))))))))))) (pe_call (ok_l_digit T) (hr.mono (by decide)) (by rfl) T.g_l_digit T.F_l_digit.kp T.b_l_digit .nil pass0 (pa_cons (pv 0) (pa_cons pe_int pa_nil))) (fun _ _ => rfl)))
      (pss_cons (ps_set (i := 3) sc_l_odd_row.nd rfl (Or.inl rfl) (pe_call (ok_l_digit T) (hr.mono (by decide)) (by rfl) T.g_l_digit T.F_l_digit.kp T.b_l_digit .nil pass0 (pa_cons (pv 0) (pa_cons (pe_op op_add (pe_callB call_len_seq (by rfl) T.m_len (by decide +kernel) (pa_cons (pv 1) pa_nil)) pe_int) pa_nil))))
      (pss_one (ps_ret (pe_op op_catF (pe_op op_catF (pe_slice sl_list (pv 1) po_none (po_some (pv 3))) (pe_lst (pa_cons (pv 2) pa_nil))) (pe_slice sl_list (pv 1) (po_some (pv 3)) po_none))))))), enter h fun F xs cs post hE hw => ?_⟩)
  obtain ⟨ns, rfl, rfl, hl, q1, q2⟩ := hw
  walk_at "E"
  refine wsp_digit rfl (by decide) (by decide) fun p p0 p1 => ?_
  walk_at "E"
  refine ifC (fun c => ?_) (fun c => ?_)
  · walk_at "E"
    refine wsp_digit rfl (by decide) (by decide) fun g g0 g1 => ?_
    walk_at "E"
    refine wr_ixA (by walk_at "il") g0 (by show g < ((7 : Nat) : Int); exact g1) fun d hd => ?_
    refine fin_dat rfl (q1 d ?_)
    simp only [List.mem_cons, List.not_mem_nil, or_false] at hd
    rcases hd with rfl | rfl | rfl | rfl | rfl | rfl | rfl
    · exact ⟨rfl, rfl, by decide⟩
    · exact ⟨by rw [pl]; exact pls_int ns, rfl, by show (0 : Int) ≤ 50000; decide⟩
    · exact ⟨rfl, rfl, by decide⟩
    · exact ⟨rfl, rfl, by decide⟩
    · exact ⟨rfl, rfl, by decide⟩
    · exact ⟨rfl, rfl, by decide⟩
    · exact ⟨rfl, rfl, by decide⟩
  · walk_at "E"
    refine wr_Ii ⟨by decide, by decide, by decide⟩ ?_
    walk_at "E"
    refine wsp_digit rfl (by decide) (by decide) fun g g0 g1 => ?_
    walk_at "E"
    refine wr_ixA (by walk_at "il") g0 (by show g < ((10 : Nat) : Int); exact g1) fun d hd => ?_
    have od : pl d = true ∧ inR 0 255 d = false := by
      simp only [List.mem_cons, List.not_mem_nil, or_false] at hd
      rcases hd with rfl | rfl | rfl | rfl | rfl | rfl | rfl | rfl | rfl | rfl <;> exact ⟨rfl, by decide⟩
    clear hd
    walk_at "E"
    refine wsp_digit rfl (by rw [List.length_map]; omega) (by rw [List.length_map]; omega) fun a a0 a1 => ?_
    walk_at "E"
    obtain ⟨X, eX, lX⟩ := cut_ints ns none (some a)
    obtain ⟨Y, eY, lY⟩ := cut_ints ns (some a) none
    rw [eX]
    walk_at "E"
    walk_at "cat"
    walk_at "E"
    rw [eY]
    walk_at "E"
    walk_at "cat"
    refine ⟨_, .cel (Nat.le_of_ble_eq_true rfl) rfl, rfl, q2 _ ⟨?_, ?_, ?_⟩⟩
    · exact pls_app (pls_app (pls_int X) (show (pl d && pls []) = true by rw [od.1]; rfl)) (pls_int Y)
    · show (X.map D.int ++ [d] ++ Y.map D.int).all (inR 0 255) = false
      rw [List.all_append, List.all_append, List.all_cons, od.2]
      simp
    · show (((X.map D.int ++ [d] ++ Y.map D.int).length : Nat) : Int) ≤ 50000
      simp only [List.length_append, List.length_map, List.length_cons, List.length_nil]
      omega
/-! ### what is told, or how it is refused -/
def wordS (K : PySem.W.Frag) (w : Str) (X Y Z : Addr) : Suite := fun a cls d => tRet (tTup (tCons (tC (V.str w)) (tCons (tCB (rIsEs K cls d a) (tCons (tVar 1) (tCons (tTup (tCons (tC (V.ref X)) (tCons (tC (V.ref Y)) (tCons (tC (V.ref Z)) tNil)))) tNil))) tNil)))
def wordL (T : Txt K mg) : List (Value × Option Nat × Suite) :=
  [(Value.ref T.c_NoKind, some 1, wordS K "kind" T.c_NoBytes T.c_NoNumber T.c_NoPlace), (Value.ref T.c_NoBytes, some 1, wordS K "bytes" T.c_NoKind T.c_NoNumber T.c_NoPlace), (Value.ref T.c_NoPlace, some 1, wordS K "place" T.c_NoKind T.c_NoNumber T.c_NoBytes),
    (Value.ref T.c_ScrollError, none, fun _ _ _ => tRet (tTup (tCons (tC (V.str "other")) (tCons (tC (V.bl true)) tNil))))]
theorem give_l_word (T : Txt K mg) {A : Around} {st : List Env} {q : Str} (cdg : Value) (f z : Addr) (s : Shared) (H : Hp) (Q : VK) (r : XK → Hp → VK → Prop) (act : ∀ (W : WX) (pn : List (Addr × Obj)) (xe : Value → Shared → Prop) (p1 p2 : Pos), Takes ((cxOf C8.CX0 P w K mg base N_l_word "_law_word" (defScope s_l_word) T.a_l_word cdg A st s H C8.E0).nox.tr pn xe) W → PE ((cxOf C8.CX0 P w K mg base N_l_word "_law_word" (defScope s_l_word) T.a_l_word cdg A st s H C8.E0).nox.tr pn xe) (.Call (.Name "_law_ask" p1) [] [] p2) (tAct f z q r W))
    (h : TTry K N_l_word "told" q (wordL T) r z H Q) :
      ∃ t, PSs (cxOf C8.CX0 P w K mg base N_l_word "_law_word" (defScope s_l_word) T.a_l_word cdg A st s H C8.E0).nox (defBody s_l_word) t ∧ t { nx := fun _ H' => Q .non H', rt := Q } (L2.start N_l_word [.ref f]) H :=
  ⟨_, (pss_one (ps_tryT rfl rfl takes0
        (fun W pn xe tk po => (pss_one (ps_ret (pe_tup (pa_cons pe_str (pa_cons (act W pn xe _ _ tk) pa_nil))))))
        (.named (i := 1) sc_l_word.nd rfl rfl ⟨rfl, by decide, .inl T.g_NoKind⟩ (fun a oe cls d pn hz hf => (pss_one (ps_ret (pe_tup (pa_cons pe_str (pa_cons (pe_callB (call_isEs (K := K) rfl hz hf) (by rfl) T.m_isinstance (by decide +kernel) (pa_cons (pv 1) (pa_cons (pe_tup (pa_cons (pe_glob (v := .ref T.c_NoBytes) (by rfl) T.g_NoBytes rfl) (pa_cons (pe_glob (v := .ref T.c_NoNumber) (by rfl) T.g_NoNumber rfl) (pa_cons (pe_glob (v := .ref T.c_NoPlace) (by rfl) T.g_NoPlace rfl) pa_nil)))) pa_nil))) pa_nil)))))) (.named (i := 1) sc_l_word.nd rfl rfl ⟨rfl, by decide, .inl T.g_NoBytes⟩ (fun a oe cls d pn hz hf => (pss_one (ps_ret (pe_tup (pa_cons pe_str (pa_cons (pe_callB (call_isEs (K := K) rfl hz hf) (by rfl) T.m_isinstance (by decide +kernel) (pa_cons (pv 1) (pa_cons (pe_tup (pa_cons (pe_glob (v := .ref T.c_NoKind) (by rfl) T.g_NoKind rfl) (pa_cons (pe_glob (v := .ref T.c_NoNumber) (by rfl) T.g_NoNumber rfl) (pa_cons (pe_glob (v := .ref T.c_NoPlace) (by rfl) T.g_NoPlace rfl) pa_nil)))) pa_nil))) pa_nil)))))) (.named (i := 1) sc_l_word.nd rfl rfl ⟨rfl, by decide, .inl T.g_NoPlace⟩ (fun a oe cls d pn hz hf => (pss_one (ps_ret (pe_tup (pa_cons pe_str (pa_cons (pe_callB (call_isEs (K := K) rfl hz hf) (by rfl) T.m_isinstance (by decide +kernel) (pa_cons (pv 1) (pa_cons (pe_tup (pa_cons (pe_glob (v := .ref T.c_NoKind) (by rfl) T.g_NoKind rfl) (pa_cons (pe_glob (v := .ref T.c_NoNumber) (by rfl) T.g_NoNumber rfl) (pa_cons (pe_glob (v := .ref T.c_NoBytes) (by rfl) T.g_NoBytes rfl) pa_nil)))) pa_nil))) pa_nil)))))) (.bare ⟨rfl, by decide, .inl T.g_ScrollError⟩ (fun a oe cls d pn hz hf => (pss_one (ps_ret (pe_tup (pa_cons pe_str (pa_cons pe_bl pa_nil)))))) .nil)))))), h f⟩
section
variable {F : Fx} {ρ : En} {k : AV → En → Prop} {f : Addr}
theorem word_suite {T : Txt K mg} {C X Y Z e : Addr} {w : Str} {cc : List Cell} {ks : KS} (hx : ExcC K C) (h1 : PySem.W.kitOne K (.ref C) (.ref X) = some false) (h2 : PySem.W.kitOne K (.ref C) (.ref Y) = some false) (h3 : PySem.W.kitOne K (.ref C) (.ref Z) = some false) (hk : ks.rt (.dat (.tup [.str w, .bl false])) ⟨[some (.dat (.cls f)), some (.dat (.cls e))], cc⟩) : WpS K F (wordS K w X Y Z e (.ref C) none) ⟨[some (.dat (.cls f)), some (.dat (.cls e))], cc⟩ ks := by
  unfold wordS
  refine ws_ret ?_
  refine we_tup ?_
  refine wa_cons ?_
  refine we_cs ?_
  refine wa_cons ?_
  refine' we_isEs [X, Y, Z] ?hv1 rfl hx (b := false) (kitAny_cons h1 (fun _ => kitAny_cons h2 (fun _ => kitAny_cons h3 (fun _ => rfl) (fun z => nomatch z)) (fun z => nomatch z)) (fun z => nomatch z)) ?hz1
  (case hv1 => exact rfl)
  walk_at "D"
  refine we_cr (fun _ => Rep.cls _) ?_
  walk_at "D"
  refine we_cr (fun _ => Rep.cls _) ?_
  walk_at "D"
  refine we_cr (fun _ => Rep.cls _) ?_
  walk_at "D"
  refine ⟨rfl, ?_⟩
  walk_at "D"
  exact hk
theorem mix_kind (T : Txt K mg) (hk : k (.dat (.tup [.str "kind", .bl false])) ρ) : Mix K F T.c_NoKind False (wordL T) ⟨[some (.dat (.cls f)), none], ρ.ce⟩ (ksW ρ k) :=
  ⟨true, T.em_NoKind_NoKind, fun e => word_suite (T := T) T.xc_NoKind T.io_NoKind_NoBytes T.io_NoKind_NoNumber T.io_NoKind_NoPlace ⟨rfl, _, rfl, hk⟩⟩
theorem mix_bytes (T : Txt K mg) (hk : k (.dat (.tup [.str "bytes", .bl false])) ρ) : Mix K F T.c_NoBytes False (wordL T) ⟨[some (.dat (.cls f)), none], ρ.ce⟩ (ksW ρ k) :=
  ⟨false, T.em_NoBytes_NoKind, true, T.em_NoBytes_NoBytes, fun e => word_suite (T := T) T.xc_NoBytes T.io_NoBytes_NoKind T.io_NoBytes_NoNumber T.io_NoBytes_NoPlace ⟨rfl, _, rfl, hk⟩⟩
theorem mix_place (T : Txt K mg) (hk : k (.dat (.tup [.str "place", .bl false])) ρ) : Mix K F T.c_NoPlace False (wordL T) ⟨[some (.dat (.cls f)), none], ρ.ce⟩ (ksW ρ k) :=
  ⟨false, T.em_NoPlace_NoKind, false, T.em_NoPlace_NoBytes, true, T.em_NoPlace_NoPlace, fun e => word_suite (T := T) T.xc_NoPlace T.io_NoPlace_NoKind T.io_NoPlace_NoNumber T.io_NoPlace_NoBytes ⟨rfl, _, rfl, hk⟩⟩
end
end
/-! ### comprehensions and loops whose invariants speak of the heap at their begin -/
theorem lcL {K : PySem.W.Frag} {a : Addr} {xs : List V} {g : TG} {tt : TT} {te : TE} {vs : List Nat} {σ : L2.St} {H1 : Hp} {D : Addr} {Qd : Hp → Prop} (Pv : Hp → Nat → Hp → Prop) (h0 : Pv H1 0 (upd H1 D (.lst []))) (hl : ∀ i H, i ≤ xs.length → Pv H1 i H → SqL K H a xs)
    (hs : ∀ i x H, xs[i]? = some x → Pv H1 i H → g x (wipe σ vs) H fun σ2 H2 => wipe σ2 vs = wipe σ vs ∧ tt σ2 H2 fun b H3 =>
      if b = true then te σ2 H3 fun y H4 => ∃ acc, H4 D = some (.lst acc) ∧ acc.length < sizeLine ∧ Pv H1 (i + 1) (upd H4 D (.lst (acc ++ [y]))) else Pv H1 (i + 1) H3) (hd : ∀ H, Pv H1 xs.length H → Qd H) :
    ∃ W : Nat → Nat → Hp → Prop, (∃ m, W 0 m (upd H1 D (.lst []))) ∧ ∀ i m H, W i m H →
      ((Itl K a).stop i H ∧ Qd H) ∨ ((Itl K a).go i H ∧ ∃ Nx : Hp → Prop, (∀ H', Nx H' → ∃ m', m' < m ∧ W (i + 1) m' H') ∧ ∀ x H', (Itl K a).yld i H x H' → g x (wipe σ vs) H' fun σ2 H2 => wipe σ2 vs = wipe σ vs ∧ tt σ2 H2 fun b H3 =>
        if b = true then te σ2 H3 fun y H4 => ∃ acc, H4 D = some (.lst acc) ∧ acc.length < sizeLine ∧ Nx (upd H4 D (.lst (acc ++ [y]))) else Nx H3) := lc_list (Pv H1) h0 hl hs hd
theorem lcR {lo : Int} {n : Nat} {g : TG} {tt : TT} {te : TE} {vs : List Nat} {σ : L2.St} {H1 : Hp} {D : Addr} {Qd : Hp → Prop} (Pv : Hp → Nat → Hp → Prop) (h0 : Pv H1 0 (upd H1 D (.lst [])))
    (hs : ∀ i H, i < n → Pv H1 i H → g (.int (lo + i)) (wipe σ vs) H fun σ2 H2 => wipe σ2 vs = wipe σ vs ∧ tt σ2 H2 fun b H3 =>
      if b = true then te σ2 H3 fun y H4 => ∃ acc, H4 D = some (.lst acc) ∧ acc.length < sizeLine ∧ Pv H1 (i + 1) (upd H4 D (.lst (acc ++ [y]))) else Pv H1 (i + 1) H3) (hd : ∀ H, Pv H1 n H → Qd H) :
    ∃ W : Nat → Nat → Hp → Prop, (∃ m, W 0 m (upd H1 D (.lst []))) ∧ ∀ i m H, W i m H →
      ((Itr lo n).stop i H ∧ Qd H) ∨ ((Itr lo n).go i H ∧ ∃ Nx : Hp → Prop, (∀ H', Nx H' → ∃ m', m' < m ∧ W (i + 1) m' H') ∧ ∀ x H', (Itr lo n).yld i H x H' → g x (wipe σ vs) H' fun σ2 H2 => wipe σ2 vs = wipe σ vs ∧ tt σ2 H2 fun b H3 =>
        if b = true then te σ2 H3 fun y H4 => ∃ acc, H4 D = some (.lst acc) ∧ acc.length < sizeLine ∧ Nx (upd H4 D (.lst (acc ++ [y]))) else Nx H3) := lc_range (Pv H1) h0 hs hd
theorem forL {K : PySem.W.Frag} {a : Addr} {xs : List V} {g : TG} {tb : TS} {D : Ends} {σ : L2.St} {H : Hp} (Pv : Hp → Nat → L2.St → Hp → Prop) (h0 : Pv H 0 σ H) (hl : ∀ i σ H', i ≤ xs.length → Pv H i σ H' → SqL K H' a xs)
    (hs : ∀ i x σ H', xs[i]? = some x → Pv H i σ H' → g x σ H' fun σ2 H2 => tb { D with nx := Pv H (i + 1), ct := Pv H (i + 1), bk := D.nx } σ2 H2) (hd : ∀ σ H', Pv H xs.length σ H' → D.nx σ H') :
    ∃ W : Nat → Nat → L2.St → Hp → Prop, (∃ m, W 0 m σ H) ∧ ∀ i m σ H, W i m σ H →
      ((Itl K a).stop i H ∧ D.nx σ H) ∨ ((Itl K a).go i H ∧ ∃ N : L2.St → Hp → Prop, (∀ σ' H', N σ' H' → ∃ m', m' < m ∧ W (i + 1) m' σ' H') ∧ ∀ x H', (Itl K a).yld i H x H' → g x σ H' fun σ2 H2 => tb { D with nx := N, ct := N, bk := D.nx } σ2 H2) := for_list (Pv H) h0 hl hs hd
theorem forR {lo : Int} {n : Nat} {g : TG} {tb : TS} {D : Ends} {σ : L2.St} {H : Hp} (Pv : Hp → Nat → L2.St → Hp → Prop) (h0 : Pv H 0 σ H)
    (hs : ∀ i σ H', i < n → Pv H i σ H' → g (.int (lo + i)) σ H' fun σ2 H2 => tb { D with nx := Pv H (i + 1), ct := Pv H (i + 1), bk := D.nx } σ2 H2) (hd : ∀ σ H', Pv H n σ H' → D.nx σ H') :
    ∃ W : Nat → Nat → L2.St → Hp → Prop, (∃ m, W 0 m σ H) ∧ ∀ i m σ H, W i m σ H →
      ((Itr lo n).stop i H ∧ D.nx σ H) ∨ ((Itr lo n).go i H ∧ ∃ N : L2.St → Hp → Prop, (∀ σ' H', N σ' H' → ∃ m', m' < m ∧ W (i + 1) m' σ' H') ∧ ∀ x H', (Itr lo n).yld i H x H' → g x σ H' fun σ2 H2 => tb { D with nx := N, ct := N, bk := D.nx } σ2 H2) := for_range (Pv H) h0 hs hd
/-- a call's answer when nothing but it matters: the heap by a name -/
theorem name_heap {P : Hp → Prop} {H : Hp} (h : ∀ H', H' = H → P H') : P H := h H rfl
/-! ### a lambda's call and a box found, by heaps -/
open PySem.W in
theorem EnvOk.grown2 {K : PySem.W.Frag} {F : Fx} {ρ : En} {as : List Addr} {σ : L2.St} {H H1 G : Hp} {j : Nat} {P z : Addr} {q : Str} (e : EnvOk K F ρ as σ H G) (hj : ρ.ce[j]? = some (.oth (tabX P q))) (g : Grown q P H H1 z) : ∃ G1, EnvOk K F ρ as σ H1 G1 ∧ Gr G as G1 as ∧ G1 z = some (LamX.CodeO z q) ∧ (∀ a o, G1 a = some o → G a = some o ∨ a = z) ∧ (∀ a o, a ≠ P → H a = some o → H1 a = some o) ∧ (∃ o, H1 P = some o) ∧ (H z = none ∨ G z ≠ none) := by
  obtain ⟨a, ha⟩ : ∃ a, as[j]? = some a := ⟨_, List.getElem?_eq_getElem (by rw [e.ln]; exact (List.getElem?_eq_some_iff.mp hj).1)⟩
  obtain ⟨_, _, gn, o, ho, ea, ps0, rfl, tr, al⟩ := e.ce j _ a hj ha
  subst ea
  cases g with
  | hit hp hc =>
    rw [ho] at hp
    cases hp
    obtain ⟨c, ec, gc⟩ := al _ _ hc
    cases ec
    exact ⟨G, e, .refl, gc, fun a o h => .inl h, fun a o _ h => h, ⟨_, ho⟩, .inr (by rw [gc]; exact fun y => nomatch y)⟩
  | @new _ ps po hp hz =>
    rw [ho] at hp
    cases hp
    have ne : z ≠ a := fun y => by rw [y, ho] at hz; cases hz
    obtain ⟨e1, g1⟩ := e.newG (o := LamX.CodeO z q) hz
    have e2 := e1.setO (o := .tbl (ps0 ++ #[rawInt po.line, rawInt po.col, .ref z])) (c' := .oth (tabX a q)) hj ha (by rw [upd_ne (Ne.symm ne)]; exact gn) ⟨by rw [upd_ne (Ne.symm ne)]; exact gn, _, upd_same, rfl, _, rfl, ?_, fun po2 cv hc => ?_⟩
    · rw [upd_swap ne] at e2
      have es : (⟨ρ.sl, ρ.ce.set j (.oth (tabX a q))⟩ : En) = ρ := by
        obtain ⟨sl, ce⟩ := ρ
        have hl : j < ce.length := (List.getElem?_eq_some_iff.mp hj).1
        have he : ce[j] = .oth (tabX a q) := (List.getElem?_eq_some_iff.mp hj).2
        show En.mk sl (ce.set j _) = _
        rw [← he, List.set_getElem_self]
      rw [es] at e2
      refine ⟨_, e2, g1, upd_same, fun b o h => ?_, fun b o nb h => ?_, ⟨_, (upd_ne (Ne.symm ne)).trans upd_same⟩, .inl hz⟩
      · by_cases c : b = z
        · exact .inr c
        · rw [upd_ne c] at h; exact .inl h
      · rw [upd_ne (ne_of_none h hz), upd_ne nb]; exact h
    · rw [show (ps0 ++ #[rawInt po.line, rawInt po.col, Value.ref z]).toList = ps0.toList ++ [rawInt po.line, rawInt po.col, Value.ref z] by simp]
      exact PySem.TriplesOk_snoc _ _ _ _ tr
    · rw [show (ps0 ++ #[rawInt po.line, rawInt po.col, Value.ref z]).toList = ps0.toList ++ [rawInt po.line, rawInt po.col, Value.ref z] by simp] at hc
      rcases LamX.among_app _ tr hc with y | y
      · obtain ⟨c, ec, gc⟩ := al po2 cv y
        exact ⟨c, ec, by rw [upd_ne (ne_of_none gc (Same.none e.gh hz))]; exact gc⟩
      · exact ⟨z, y, upd_same⟩
/-- what stands in an environment stands on where nothing of it was written to -/
theorem EnvOk.keepN {K : PySem.W.Frag} {F : Fx} {ρ : En} {as : List Addr} {σ : L2.St} {H H' G : Hp} (N : Addr → Prop) (e : EnvOk K F ρ as σ H G) (nr : ∀ (j : Nat) t X, ρ.ce[j]? ≠ some (Cell.reg t X)) (hG : ∀ a o, G a = some o → N a) (hF : ∀ a o, F.Fr a = some o → N a) (hA : ∀ a, a ∈ as → N a) (s : ∀ a o, N a → H a = some o → H' a = some o) : EnvOk K F ρ as σ H' G := by
  refine ⟨fun a u h => s _ _ (hG a u h) (e.gh _ _ h), fun a u h => s _ _ (hF a u h) (e.fh _ _ h), e.fg, e.g0, e.nd, e.pr, e.ln, fun j c a hc ha => ?_, e.sn, e.sl, ⟨_, RegsAt.no nr⟩⟩
  obtain ⟨f, ⟨u, hu⟩, ok⟩ := e.ce j c a hc ha
  have na := hA a (List.mem_of_getElem? ha)
  refine ⟨f, ⟨u, s _ _ na hu⟩, ?_⟩
  cases c with
  | gone => trivial
  | reg t X => exact ok
  | lst ds => obtain ⟨g, vs, h, r⟩ := ok; exact ⟨g, vs, s _ _ na h, r⟩
  | ins C9 ns9 ds => obtain ⟨g, dx9, vs, h, ln9, r⟩ := ok; exact ⟨g, dx9, vs, s _ _ na h, ln9, r⟩
  | drw => obtain ⟨g, vs, h, r⟩ := ok; exact ⟨g, vs, s _ _ na h, r⟩
  | oth X => obtain ⟨g, o9, h, r⟩ := ok; exact ⟨g, o9, s _ _ na h, r⟩
theorem EnvOk.later {K : PySem.W.Frag} {F : Fx} {ρ : En} {as : List Addr} {σ : L2.St} {H H' G : Hp} (e : EnvOk K F ρ as σ H G) (s : Same H H') : EnvOk K F ρ as σ H' G := by
  refine ⟨fun a u h => s _ _ (e.gh _ _ h), Same.trans e.fh s, e.fg, e.g0, e.nd, e.pr, e.ln, fun j c a hc ha => ?_, e.sn, e.sl, by obtain ⟨Ts, r⟩ := e.rg; exact ⟨Ts, r.same (fun _ _ _ _ h => s _ _ h) (fun _ _ _ g => g) (fun _ z => z) fun _ _ z => .inl z⟩⟩
  obtain ⟨f, ⟨u, hu⟩, ok⟩ := e.ce j c a hc ha
  refine ⟨f, ⟨u, s _ _ hu⟩, ?_⟩
  cases c with
  | gone => trivial
  | reg t X => exact ok
  | lst ds => obtain ⟨g, vs, h, r⟩ := ok; exact ⟨g, vs, s _ _ h, r⟩
  | ins C9 ns9 ds => obtain ⟨g, dx9, vs, h, ln9, r⟩ := ok; exact ⟨g, dx9, vs, s _ _ h, ln9, r⟩
  | drw => obtain ⟨g, vs, h, r⟩ := ok; exact ⟨g, vs, s _ _ h, r⟩
  | oth X => obtain ⟨g, o9, h, r⟩ := ok; exact ⟨g, o9, s _ _ h, r⟩
theorem len6 {σ : L2.St} (h : σ.length = 6) : ∃ s0 s1 s2 s3 s4 s5, σ = [s0, s1, s2, s3, s4, s5] := by
  match σ, h with
  | [s0, s1, s2, s3, s4, s5], _ => exact ⟨s0, s1, s2, s3, s4, s5, rfl⟩
/-- a call that is handed a list and a number: all lists of the answer are this one or new -/
theorem call_fresh2 {K : PySem.W.Frag} {W : PW0} {d : D} {p : Addr} {ns : List Int} {j : Nat} {H : Hp} {Q : VK} {E : XK} (hp : H p = some (.lst (ns.map V.int))) (hw : ∀ (post : RV → List Cell → Prop) exc, post (.dat d) [] → W [.dat (.lst (ns.map D.int)), .dat (.int j)] [] post exc)
    (q : ∀ (v : V) (T H' : Hp), Same H H' → Same T H' → Rep K T d v → (∀ b o, T b = some o → b = p ∨ H b = none) → Q v H') : spG K W [.ref p, .int j] H Q E := by
  refine ⟨fun b => if b = p then some (.lst (ns.map V.int)) else none, [], fun _ _ => none, [.dat (.lst (ns.map D.int)), .dat (.int j)], [], fun r cs => r = .dat d, fun _ => False, fun b o h => ?_, ⟨rfl, List.nodup_nil, fun j c a hc => by simp at hc⟩, RegsAt.no (fun j t X z => by simp at z), .cons (Rep.lst (if_pos rfl) Reps.ofV) (.cons (Rep.int _) .nil), hw _ _ rfl, ?_, fun _ _ z => z.elim⟩
  · have h : (if b = p then some (HO.lst (ns.map V.int)) else none) = some o := h
    by_cases c : b = p
    · rw [if_pos c] at h
      cases h
      subst c
      exact hp
    · rw [if_neg c] at h; cases h
  · rintro r cs v H' G' Ts' rfl fr sG gh' nw ck rg' nwT rr
    refine q v G' H' (fun b o h => fr b o (fun z => nomatch z) (fun _ => rfl) h) gh' rr fun b o h => ?_
    rcases nw b o h with z | z | ⟨i, z⟩
    · have z : (if b = p then some (HO.lst (ns.map V.int)) else none) = some o := z
      by_cases c : b = p
      · exact .inl c
      · rw [if_neg c] at z; cases z
    · exact .inr z
    · exact absurd rfl z
/-- a lambda that lets no error out, handed to a def that tells its answer -/
theorem lam_low {K : PySem.W.Frag} {P : Addr} {q w : Str} {σ : L2.St} {H : Hp} {Ng : List Str} {l : List (Value × Option Nat × Suite)} {tl : XK → TE} {Q : VK} (hN : Ng.length = 2) (ht : LamX.TabS H P q)
    (h : ∀ (H1 : Hp) (z : Addr) (E : XK), Grown q P H H1 z → tl E σ H1 fun v H2 => [V.str w, v].length ≤ sizeLine ∧ ∀ p, H2 p = none → Q (.ref p) (upd H2 p (.tup [.str w, v]))) : tLamW P q (TTry K Ng w q l) tl σ H Q := by
  refine ⟨ht, fun H1 z gr gz f => ?_⟩
  have hu : L2.start Ng [V.ref f] = [some (V.ref f), none] := by
    unfold L2.start
    rw [List.length_singleton, hN]
    rfl
  show (tRet (tTup (tCons (tC (.str w)) (tCons (tAct f z q (fun E H Q' => tl E σ H Q') (wMix K (fun _ _ _ _ => False) { nx := fun _ H' => Q .non H', rt := Q } l)) tNil)))) { nx := fun _ H' => Q .non H', rt := Q } (L2.start Ng [V.ref f]) H1
  rw [hu]
  refine ⟨rfl, gz, ?_⟩
  exact h H1 z _ gr
theorem isi_list {K : PySem.W.Frag} {H : Hp} {a : Addr} {vs : List V} {Q : VK} (h : SqL K H a vs) (q : Q (.bl true) H) : rIsi K [.ref a, .ty "list"] H Q := ⟨_, _, _, _, true, rfl, .ty _, LK.SqL.ty h, kit_ty (by decide +kernel : kitB "list" "list" = some true), q⟩
theorem isi_tup {K : PySem.W.Frag} {H : Hp} {a : Addr} {vs : List V} {Q : VK} (h : SqT K H a vs) (q : Q (.bl true) H) : rIsi K [.ref a, .ty "tuple"] H Q := ⟨_, _, _, _, true, rfl, .ty _, LK.SqT.ty h, kit_ty (by decide +kernel : kitB "tuple" "tuple" = some true), q⟩
theorem dp_of {K : PySem.W.Frag} {H : Hp} {d : D} {v : V} {n : Nat} (rr : Rep K H d v) (hf : fine n d = true) (hn : n ≤ 64) : Dp K H v (py d) ∧ SeqAt.shaped (py d) = true := by
  obtain ⟨x, y, z⟩ := fine_dp n d v hf rr
  refine ⟨x, ?_⟩
  unfold SeqAt.shaped
  rw [y, decide_eq_true (by omega : PyData.depth (py d) ≤ 64)]
  rfl
theorem ne_same {K : PySem.W.Frag} {H : Hp} {d : D} {v w : V} {n : Nat} {Q : VK} (r1 : Rep K H d v) (r2 : Rep K H d w) (hf : fine n d = true) (hn : n ≤ 64) (nb : noB d = true) (q : Q (.bl false) H) : rNeD K v w H Q := by
  obtain ⟨a, b⟩ := dp_of r1 hf hn
  obtain ⟨a2, b2⟩ := dp_of r2 hf hn
  refine ⟨_, _, a, a2, b, b2, ?_⟩
  rw [show PyData.eqv (py d) (py d) = true from (eqD_iff d d nb nb).mpr rfl]
  exact q
theorem reps_ints {K : PySem.W.Frag} {G : Hp} : ∀ {ns : List Int} {vs : List V}, Reps K G (ns.map D.int) vs → vs = ns.map V.int
  | [], _, h => h.nilE
  | n :: ns, _, h => by
    obtain ⟨v, ws, rfl, r1, r2⟩ := Reps.consE (d := D.int n) (ds := ns.map D.int) h
    rw [r1.intE, reps_ints r2]
    rfl

section
variable {P : Program} {w : World} {K : PySem.W.Frag} {mg : Str → Option Value} {base : Heap}
/-! ### whether box_at tells what stands there -/
theorem ws_wipe {K : PySem.W.Frag} {F : Fx} {ρ : En} {t : TS} {ks : KS} (vs : List Nat) (h : WpS K F t (ρ.wipe vs) ks) : WpS K F t ρ ks := fun as σ H G e D q => h as σ H G (e.wipe rfl) D q
theorem fine_res (N : Nat) (x : Option (Int × List Int × List Int)) : fine 3 (.tup [.str "told", resBx N x]) = true := by
  have h1 : fine 2 (.str "told") = true := by decide +kernel
  have h2 : fine 2 (resBx N x) = true := by
    cases x with
    | none => rfl
    | some y =>
      show (true && (fine 1 (.lst (y.2.1.map D.int)) && (true && true))) = true
      rw [show fine 1 (.lst (y.2.1.map D.int)) = fines 0 (y.2.1.map D.int) from rfl, fines_intsG]
      rfl
  show (fine 2 (.str "told") && (fine 2 (resBx N x) && true)) = true
  rw [h1, h2]; rfl
theorem noB_res (N : Nat) (x : Option (Int × List Int × List Int)) : noB (.tup [.str "told", resBx N x]) = true := by
  have h2 : noB (resBx N x) = true := by
    cases x with
    | none => rfl
    | some y =>
      show (true && (noBs (y.2.1.map D.int) && (true && true))) = true
      rw [noBs_intsG]
      rfl
  show (true && (noB (resBx N x) && true)) = true
  rw [h2]; rfl
theorem boxL_body {l : List Int} {y : Int × List Int × List Int} (h : boxL l = some y) : y.2.1.length ≤ l.length := by
  unfold boxL at h
  by_cases c : l.take 3 = [0, 0, 1]
  · rw [if_pos c] at h
    cases hr : l.drop 3 with
    | nil => rw [hr] at h; cases h
    | cons k r =>
      have lr := congrArg List.length hr
      rw [List.length_drop, List.length_cons] at lr
      rw [hr] at h
      dsimp only at h
      by_cases kk : 1 ≤ k ∧ k ≤ 9
      · rw [if_pos kk] at h
        cases hL : lawOn k (U r 0) with
        | none => rw [hL] at h; cases h
        | some w =>
          rw [hL] at h
          have h : some (k, w.1, w.2) = some y := h
          cases h
          show w.1.length ≤ _
          unfold lawOn at hL
          cases hn : numA ((U r 0).map Prod.fst) 0 with
          | none => rw [hn] at hL; cases hL
          | some v =>
            obtain ⟨n, p⟩ := v
            rw [hn] at hL
            dsimp only at hL
            split at hL
            · cases hL
            · split at hL
              · cases hL
              · split at hL
                · cases hL
                  have h1 := cutI_len ((U r 0).map Prod.fst) (some p) (some (p + n))
                  have h2 := U_len r 0
                  rw [List.length_map] at h1
                  show (cutI _ _ _).length ≤ _
                  omega
                · cases hL
      · rw [if_neg kk] at h; cases h
  · rw [if_neg c] at h; cases h
theorem w_box_at {C1 C2 : Addr} {ns : List Int} {j : Nat} {post : RV → List Cell → Prop} {exc : Addr → Prop} (hb : Byts ns) (hl : ns.length ≤ 80000) (hj : j ≤ ns.length) (hp : post (.dat (resBx ns.length (boxL (ns.drop j)))) []) : wBoxAt C1 C2 [.dat (.lst (ns.map D.int)), .dat (.int j)] [] post exc := by
  refine ⟨_, _, rfl, rfl, by rw [pl]; exact pls_int _, rfl, (fun z => by rw [rw_is hb] at z; cases z), (fun _ z => absurd (inR_int (lo := 0) (hi := lnR (.lst (ns.map D.int))) (i := (j : Int)) (by omega) ?_) (by rw [z]; decide)), fun ns1 j1 e1 e2 _ _ => ?_⟩
  · show (j : Int) ≤ ((ns.map D.int).length : Int)
    rw [List.length_map]; omega
  · have e3 : ns = ns1 := mapI_injG (D.lst.inj e1)
    have e4 : j = j1 := by have := D.int.inj e2; omega
    subst e3 e4
    exact ⟨hl, hp⟩
def wRight (P : Addr) (q : Str) : PW0 := fun xs cs post _ => ∃ (ns : List Int) (js : List Nat), xs = [.dat (.lst (ns.map D.int)), .dat (.lst (js.map fun j : Nat => D.int (j : Int)))] ∧ cs = [.oth (tabX P q)] ∧ Byts ns ∧ ns.length ≤ 2000 ∧ (∀ j ∈ js, j ≤ ns.length) ∧ post (.dat (.bl true)) [.oth (tabX P q)]
theorem ok_l_right (T : Txt K mg) (B : TabsT base mg T) : FnOk P w K mg base CX0 13 T.a_l_right T.d_l_right ["_law_row", "_law_places"] (spG K (wRight T.tw_l_right (lamQ "_law_right"))) := by
  refine T.C_l_right.ok sc_l_right (fun vs H Q E h => spG_len h fun xs cs post exc ⟨a, b, e, _⟩ => by rw [e]; rfl) (fun A outer s H vs Q E hr h => ⟨_, (pss_cons (ps_for PassesOwn.never rfl (pi_list (pv 1)) (pg_name (i := 4) sc_l_right.nd rfl (Or.inr rfl))
        (pss_cons (ps_set (i := 5) sc_l_right.nd rfl (Or.inr rfl) (pe_callTy call_list_of (by rfl) T.m_list (by decide +kernel) (pa_cons (pv 0) pa_nil)))
      (pss_cons (ps_set (i := 2) sc_l_right.nd rfl (Or.inl rfl) (pe_call (ok_l_box_at T) (hr.mono (by decide)) (by rfl) T.g_l_box_at T.F_l_box_at.kp T.b_l_box_at .nil pass0 (pa_cons (pv 0) (pa_cons (pv 4) pa_nil))))
      (pss_cons (ps_set (i := 3) sc_l_right.nd rfl (Or.inl rfl) (pe_lamW (k := 10) (q := lamQ "_law_right") T.F_l_word T.b_l_word sc_l_word rfl (Or.inl rfl) (by rfl) T.g_l_word rfl (give_l_word T) B.tb_l_right rfl (hr.mono (by decide)) (LamX.lamS_by (show LamX.lamSB (defScope s_l_right) _ = true by decide +kernel)) rfl (fun _ _ _ _ _ => by first | rfl | with_unfolding_all rfl) (fun A outer s H E f z hr => (pe_call (ok_box_at T) (hr.mono (by decide)) (by rfl) T.g_box_at T.F_box_at.kp T.b_box_at .nil (passes_call (takes_of rfl rfl rfl rfl) (fun _ _ _ _ h => h)) (pa_cons (pv 5) (pa_cons (pv 4) pa_nil))))))
      (pss_cons (ps_if (PW.pt (pw_or (pt_cmpR (op_neD hr.units) (pv 3) (pe_tup (pa_cons pe_str (pa_cons (pv 2) pa_nil))) (nomark _)) (pw_or1 (pt_cmpR (op_neD hr.units) (pv 5) (pv 0) (nomark _))))) (pss_one (ps_ret pe_bl)) pss_nil)
      (pss_one (ps_if (pt_cmpR op_notN (pv 2) pe_non (nomark _)) (pss_cons (ps_if (PW.pt (pw_or (pt_not (pt_val (pe_callB call_isi (by rfl) T.m_isinstance (by decide +kernel) (pa_cons (pe_ix ix_tup (pv 3) pe_int (fun _ _ => rfl)) (pa_cons (pe_bltn (v := .ty "tuple") (by rfl) T.m_tuple (by decide +kernel) rfl) pa_nil))))) (pw_or1 (pt_not (pt_val (pe_callB call_isi (by rfl) T.m_isinstance (by decide +kernel) (pa_cons (pe_ix ix_tup (pe_ix ix_tup (pv 3) pe_int (fun _ _ => rfl)) pe_int (fun _ _ => rfl)) (pa_cons (pe_bltn (v := .ty "list") (by rfl) T.m_list (by decide +kernel) rfl) pa_nil)))))))) (pss_one (ps_ret pe_bl)) pss_nil)
      (pss_one (ps_expr (pe_bm PySem.F.plainAttrs_list PySem.F.slot_list_append PySem.F.type_list_append mt_append (pe_ix ix_tup (pe_ix ix_tup (pv 3) pe_int (fun _ _ => rfl)) pe_int (fun _ _ => rfl)) (pa_cons pe_int pa_nil))))) pss_nil)))))))
      (pss_one (ps_ret pe_bl))), enter h fun F xs cs post hE hw => ?_⟩)
  obtain ⟨ns, js, rfl, rfl, hb, hl, hj, q⟩ := hw
  walk_at "D"
  refine loop_by (fun es ρ => ∃ (rest : List Nat) (a2 a3 a4 a5 : Option AV), es = rest.map (fun j : Nat => D.int (j : Int)) ∧ (∀ j ∈ rest, j ≤ ns.length) ∧ ρ = ⟨[some (.dat (.lst (ns.map D.int))), some (.dat (.lst (js.map fun j : Nat => D.int (j : Int)))), a2, a3, a4, a5], [.oth (tabX T.tw_l_right (lamQ "_law_right"))]⟩) ⟨js, _, _, _, _, rfl, hj, rfl⟩ ?_ ?_
  · rintro ρ ⟨rest, a2, a3, a4, a5, _, _, rfl⟩
    refine ⟨.dat _, ?_⟩
    walk_at "D"
    exact fin_dat rfl q
  · rintro d es ρ ⟨rest, a2, a3, a4, a5, hm, hr2, rfl⟩
    refine ⟨.dat _, ?_⟩
    cases rest with
    | nil => cases hm
    | cons j rest =>
    obtain ⟨rfl, rfl⟩ := List.cons.inj hm
    have hjn := hr2 j List.mem_cons_self
    refine wg_name ?_
    refine ws_wipe [2, 3, 5] ?_
    show WpS K F _ ⟨[some (.dat (.lst (ns.map D.int))), some (.dat (.lst (js.map fun j : Nat => D.int (j : Int)))), none, none, some (.dat (.int (j : Int))), none], [.oth (tabX T.tw_l_right (lamQ "_law_right"))]⟩ _
    intro as σ H0 G e DD qq
    have fin : ∀ (σ' : L2.St) (H' G' : Hp), EnvOk K F ⟨[some (.dat (.lst (ns.map D.int))), some (.dat (.lst (js.map fun j : Nat => D.int (j : Int)))), none, none, some (.dat (.int (j : Int))), none], [.oth (tabX T.tw_l_right (lamQ "_law_right"))]⟩ as σ H' G' → Gr G as G' as → L2.wipe σ' [2, 3, 5] = L2.wipe σ [2, 3, 5] → DD.nx σ' H' := fun σ' H' G' e' g' hw => qq.nx _ as σ' H' G' (now ⟨rest, _, _, _, _, rfl, fun i hi => hr2 i (List.mem_cons_of_mem _ hi), rfl⟩) (e'.wipe hw) g'
    clear qq
    obtain ⟨vr, er, rr⟩ := e.sl 0 _ rfl
    obtain ⟨vj, ej, rj⟩ := e.sl 4 _ rfl
    obtain ⟨r, rs, rfl, hr1, hr3⟩ := Rep.lstE rr
    have evj : vj = .int (j : Int) := rj.intE
    subst evj
    obtain ⟨s0, s1, s2, s3, s4, s5, rfl⟩ := len6 e.sn
    have er2 : s0 = some (.ref r) := by injection er
    have ej2 : s4 = some (.int (j : Int)) := by injection ej
    have hrs := reps_ints hr3
    subst hrs
    have hH := e.gh _ _ hr1
    clear er ej rr rj hr3
    subst er2
    subst ej2
    refine ⟨_, rfl, r, _, rfl, .inl (SqL.of hH), fun l hl1 => ?_⟩
    refine ⟨_, rfl, _, rfl, call_fresh2 (p := r) (ns := ns) (j := j) (d := resBx ns.length (boxL (ns.drop j))) (upd_old hl1 hH) (fun post exc hp => ⟨ns, j, rfl, rfl, hb, by omega, hjn, hp⟩) fun vd T1 H2 s12 sT1 rd fr1 => ?_⟩
    have sm02 : Same H0 H2 := Same.trans (Same.new (Same.refl _) hl1) s12
    have e2 := e.later sm02
    refine lam_low rfl (LK.EnvOk.tabS e2 (j := 0) rfl) fun H3 z E3 gr => ?_
    obtain ⟨G1, e3, g3, gz, g1z, k23, ⟨oP, hP3⟩, hz⟩ := LK.EnvOk.grown2 e2 (j := 0) rfl gr
    obtain ⟨a, ha⟩ : ∃ a, as[0]? = some a := ⟨_, List.getElem?_eq_getElem (by rw [e.ln]; exact Nat.zero_lt_one)⟩
    obtain ⟨_, _, _, o, hP0, ea, ps, eo, _⟩ := e.ce 0 _ a rfl ha
    subst ea eo
    have nl : l ≠ T.tw_l_right := fun c => by rw [← c, hl1] at hP0; cases hP0
    have nrP : r ≠ T.tw_l_right := fun c => by rw [← c, hH] at hP0; cases hP0
    have hl2 : H2 l = some (.lst (ns.map V.int)) := s12 _ _ upd_same
    have hl3 := k23 l _ nl hl2
    have hr3 := k23 r _ nrP (sm02 _ _ hH)
    have sT13 : Same T1 H3 := fun b o h => k23 b o (fun c => by
      rcases fr1 b o h with y | y
      · exact nrP (y.symm.trans c)
      · rw [c, upd_ne (Ne.symm nl), hP0] at y; cases y) (sT1 b o h)
    refine ⟨_, rfl, _, rfl, call_fresh2 (p := l) (ns := ns) (j := j) (d := resBx ns.length (boxL (ns.drop j))) hl3 (fun post exc hp => w_box_at hb (by omega) hjn hp) fun vf T2 H4 s34 sT2 rf fr2 => ⟨sz rfl, fun p0 hp0 => ?_⟩⟩
    refine ⟨_, rfl, _, rfl, sz rfl, fun p1 hp1 => ?_⟩
    have s46 : Same H4 (upd (upd H4 p0 (.tup [.str "told", vf])) p1 (.tup [.str "told", vd])) := Same.new (Same.new (Same.refl _) hp0) hp1
    have h06 : (upd (upd H4 p0 (.tup [.str "told", vf])) p1 (.tup [.str "told", vd])) p0 = some (.tup [.str "told", vf]) := upd_old hp1 upd_same
    have h16 : (upd (upd H4 p0 (.tup [.str "told", vf])) p1 (.tup [.str "told", vd])) p1 = some (.tup [.str "told", vd]) := upd_same
    generalize upd (upd H4 p0 (.tup [.str "told", vf])) p1 (.tup [.str "told", vd]) = H6 at s46 h06 h16 ⊢
    have s36 : Same H3 H6 := Same.trans s34 s46
    have rd6 := Rep.mono (Same.trans sT13 s36) _ _ rd
    have rf6 := Rep.mono (Same.trans sT2 s46) _ _ rf
    have hl6 := s36 _ _ hl3
    have hr6 := s36 _ _ hr3
    refine ne_same (d := .tup [.str "told", resBx ns.length (boxL (ns.drop j))]) (Rep.tup (SqT.of h06) (.cons (.str _) (.cons rf6 .nil))) (Rep.tup (SqT.of h16) (.cons (.str _) (.cons rd6 .nil))) (fine_res _ _) (by decide) (noB_res _ _) ⟨false, rfl, ?_⟩
    refine ifF rfl ?_
    refine ⟨_, rfl, _, rfl, ne_same (d := .lst (ns.map D.int)) (n := 1) (Rep.lst hl6 Reps.ofV) (Rep.lst hr6 Reps.ofV) (by rw [fine]; exact fines_intsG 0 _) (by decide) (by show noBs (ns.map D.int) = true; exact noBs_intsG _) ⟨false, rfl, ?_⟩⟩
    refine ifF rfl ?_
    have keep : ∀ H' : Hp, (∀ a o, ((∃ u, H0 a = some u) ∨ a = z) → H3 a = some o → H' a = some o) → EnvOk K F ⟨[some (.dat (.lst (ns.map D.int))), some (.dat (.lst (js.map fun j : Nat => D.int (j : Int)))), none, none, some (.dat (.int (j : Int))), none], [.oth (tabX T.tw_l_right (lamQ "_law_right"))]⟩ as [some (.ref r), s1, s2, s3, some (.int (j : Int)), s5] H' G1 := fun H' hs => by
      refine e3.keepN (fun a => (∃ u, H0 a = some u) ∨ a = z) (fun i t X y => ?_) (fun a o h => ?_) (fun a o h => .inl ⟨o, e.fh _ _ h⟩) (fun a h => ?_) hs
      · cases i with
        | zero => cases y
        | succ i => simp at y
      · rcases g1z a o h with y | y
        · exact .inl ⟨o, e.gh _ _ y⟩
        · exact .inr y
      · obtain ⟨i, hi, rfl⟩ := List.getElem_of_mem h
        have : i < 1 := by rw [e.ln] at hi; exact hi
        have : i = 0 := by omega
        subst this
        exact .inl (e.ce 0 _ _ rfl (List.getElem?_eq_getElem hi)).2.1
    cases hB : boxL (ns.drop j) with
    | none =>
      rw [hB] at rd
      have : vd = .non := rd.nonE
      subst this
      refine ⟨_, rfl, rfl, _, rfl, ?_⟩
      refine ifF rfl ?_
      exact fin _ _ G1 (keep _ fun a o _ h => s36 a o h) g3 rfl
    | some y =>
      have lb := boxL_body hB
      rw [List.length_drop] at lb
      rw [hB] at rd rf6 rf
      obtain ⟨td, _, rfl, _, _⟩ := Rep.tupE (ds := [.int y.1, .lst (y.2.1.map D.int), .int ((ns.length : Int) - (y.2.2.length : Int))]) rd
      obtain ⟨t, us, rfl, ht, hr⟩ := Rep.tupE (ds := [.int y.1, .lst (y.2.1.map D.int), .int ((ns.length : Int) - (y.2.2.length : Int))]) rf
      obtain ⟨v1, us, rfl, _, hr⟩ := hr.consE
      obtain ⟨v2, us, rfl, hr2, hr⟩ := hr.consE
      obtain ⟨v3, us, rfl, _, hr⟩ := hr.consE
      rw [hr.nilE] at ht
      obtain ⟨b, ys, rfl, hTb, hys⟩ := Rep.lstE hr2
      have ly := hys.length
      rw [List.length_map] at ly
      have ht6 := Same.seqT (Same.trans sT2 s46) ht
      have hb6 := s46 _ _ (sT2 _ _ hTb)
      refine ⟨_, rfl, rfl, _, rfl, ?_⟩
      refine ifT rfl ?_
      refine ⟨_, rfl, p0, _, 1, .ref t, rfl, rfl, SqT.of h06, rfl, ?_⟩
      dsimp only [tCons, tC, tNil]
      refine isi_tup ht6 ⟨true, rfl, ?_⟩
      refine ifF rfl ?_
      refine ⟨_, rfl, p0, _, 1, .ref t, rfl, rfl, SqT.of h06, rfl, t, _, 1, .ref b, rfl, rfl, ht6, rfl, ?_⟩
      dsimp only [tCons, tC, tNil]
      refine isi_list (SqL.of hb6) ⟨true, rfl, ?_⟩
      refine ifF rfl ?_
      refine ⟨_, rfl, p0, _, 1, .ref t, rfl, rfl, SqT.of h06, rfl, t, _, 1, .ref b, rfl, rfl, ht6, rfl, .inl ⟨rfl, _, SqL.of hb6⟩, b, ys, .int 7, rfl, rfl, hb6, szbl (by omega), ?_⟩
      refine fin _ _ G1 (keep _ fun a o hN h => ?_) g3 rfl
      have nab : a ≠ b := fun c => by
        subst c
        rcases fr2 a _ hTb with x | x
        · subst x
          rcases hN with ⟨u, x⟩ | x
          · rw [hl1] at x; cases x
          · subst x
            rcases hz with x | x
            · rw [hl2] at x; cases x
            · cases hGa : G a with
              | none => exact x hGa
              | some o2 => have := e.gh _ _ hGa; rw [hl1] at this; cases this
        · rw [x] at h; cases h
      rw [upd_ne nab]
      exact s36 a o h
end
/-! ### a great box -/
theorem U_stI (s : List Int) : ∀ (ct : List Int) (z : Int), (z = 0 ∨ z = 1) → ∃ V z', U (stI ct z ++ s) z = V ++ U s z' ∧ V.map Prod.fst = ct ∧ ∀ x, V.getLast? = some x → x.2 = s
  | [], z, _ => ⟨[], z, rfl, rfl, fun _ h => nomatch h⟩
  | b :: r, z, hz => by
    have snoc : ∀ (V : List (Int × List Int)) (y : Int × List Int), V.map Prod.fst = r → (r = [] → y.2 = s) → (∀ x, V.getLast? = some x → x.2 = s) → ∀ x, (y :: V).getLast? = some x → x.2 = s := fun V y h1 h2 h3 x hx => by
      cases V with
      | nil =>
        have : y = x := by injection hx
        rw [← this]
        exact h2 h1.symm
      | cons v V =>
        rw [List.getLast?_cons_cons] at hx
        exact h3 x hx
    unfold stI
    by_cases c : b = 0 ∧ z = 1
    · rw [if_pos c]
      obtain ⟨V, z', h1, h2, h3⟩ := U_stI s r 0 (.inl rfl)
      refine ⟨(b, stI r 0 ++ s) :: V, z', ?_, by rw [List.map_cons, h2], snoc V _ h2 (fun hr => by rw [hr]; rfl) h3⟩
      show U (b :: (2 :: (stI r 0 ++ s))) z = _
      rw [U_tail, if_pos c]
      show (if (2 : Int) = 2 then (b, stI r 0 ++ s) :: U (stI r 0 ++ s) 0 else []) = _
      rw [if_pos rfl, h1]
      rfl
    · rw [if_neg c]
      obtain ⟨V, z', h1, h2, h3⟩ := U_stI s r (if b = 0 then 1 else 0) (by split <;> omega)
      refine ⟨(b, stI r (if b = 0 then 1 else 0) ++ s) :: V, z', ?_, by rw [List.map_cons, h2], snoc V _ h2 (fun hr => by rw [hr]; rfl) h3⟩
      show U (b :: (stI r (if b = 0 then 1 else 0) ++ s)) z = _
      rw [U_tail, if_neg c, h1]
      rfl
/-- what is read of a content: a body, if its two bytes are its sum -/
theorem boxL_cont {k : Int} {body two t : List Int} (k0 : 1 ≤ k) (k1 : k ≤ 9) (hl : body.length ≤ 60000) (h2 : two.length = 2) : boxL ([0, 0, 1, k] ++ stI (figN body.length ++ body ++ two) 0 ++ (255 :: t)) = if two = sumS k body then some (k, body, t) else none := by
  have e0 : [0, 0, 1, k] ++ stI (figN body.length ++ body ++ two) 0 ++ (255 :: t) = 0 :: 0 :: 1 :: k :: (stI (figN body.length ++ body ++ two) 0 ++ (255 :: t)) := by
    rw [List.append_assoc]
    rfl
  rw [e0]
  unfold boxL
  rw [if_pos (show List.take 3 (0 :: 0 :: 1 :: k :: (stI (figN body.length ++ body ++ two) 0 ++ (255 :: t))) = [0, 0, 1] from rfl)]
  show (if 1 ≤ k ∧ k ≤ 9 then (lawOn k (U (stI (figN body.length ++ body ++ two) 0 ++ (255 :: t)) 0)).map fun y => (k, y.1, y.2) else none) = _
  rw [if_pos ⟨k0, k1⟩]
  obtain ⟨V, z', h1, hV, h3⟩ := U_stI (255 :: t) (figN body.length ++ body ++ two) 0 (.inl rfl)
  rw [h1]
  have hn := numA_fig body.length (by omega)
  have lct : (figN body.length ++ body ++ two).length = (figN body.length).length + body.length + 2 := by
    rw [List.length_append, List.length_append, h2]
  have lV : V.length = (figN body.length).length + body.length + 2 := by rw [← lct, ← hV, List.length_map]
  have eF : (V ++ U (255 :: t) z').map Prod.fst = figN body.length ++ (body ++ (two ++ (U (255 :: t) z').map Prod.fst)) := by
    rw [List.map_append, hV, List.append_assoc, List.append_assoc]
  have eN : numA ((V ++ U (255 :: t) z').map Prod.fst) 0 = some ((body.length : Int), ((figN body.length).length : Int)) := by
    rw [eF]
    exact (numA_app _ hn).1
  have lF : ((V ++ U (255 :: t) z').map Prod.fst).length = V.length + (U (255 :: t) z').length := by rw [List.length_map, List.length_append]
  have eB : cutI ((V ++ U (255 :: t) z').map Prod.fst) (some ((figN body.length).length : Int)) (some (((figN body.length).length : Int) + (body.length : Int))) = body := by
    rw [cutI_nat _ (by omega) (by omega) (by omega), eF]
    rw [show (((figN body.length).length : Int)).toNat = (figN body.length).length by omega, List.drop_left]
    rw [show (((figN body.length).length : Int) + (body.length : Int)).toNat - (figN body.length).length = body.length by omega, List.take_left]
  have eS : cutI ((V ++ U (255 :: t) z').map Prod.fst) (some (((figN body.length).length : Int) + (body.length : Int))) (some (((figN body.length).length : Int) + (body.length : Int) + 2)) = two := by
    rw [cutI_nat _ (by omega) (by omega) (by omega), eF, ← List.append_assoc]
    rw [show (((figN body.length).length : Int) + (body.length : Int)).toNat = (figN body.length ++ body).length by rw [List.length_append]; omega, List.drop_left]
    rw [show (((figN body.length).length : Int) + (body.length : Int) + 2).toNat - (figN body.length ++ body).length = two.length by rw [List.length_append]; omega, List.take_left]
  obtain ⟨x, hx⟩ : ∃ x, V.getLast? = some x := by
    cases hV : V.getLast? with
    | some x => exact ⟨x, rfl⟩
    | none =>
      rw [List.getLast?_eq_none_iff] at hV
      rw [hV] at lV
      have : (0 : Nat) = (figN body.length).length + body.length + 2 := lV
      omega
  have eX : (V ++ U (255 :: t) z')[(((figN body.length).length : Int) + (body.length : Int) + 1).toNat]? = some x := by
    rw [List.getElem?_append_left (by omega)]
    rw [List.getLast?_eq_getElem?] at hx
    rw [show (((figN body.length).length : Int) + (body.length : Int) + 1).toNat = V.length - 1 by omega]
    exact hx
  have hx2 := h3 x hx
  unfold lawOn
  rw [eN]
  dsimp only
  rw [if_neg (by rw [List.length_append]; omega), eX]
  dsimp only
  rw [eB, eS, hx2]
  by_cases c : two = sumS k body
  · rw [if_pos ⟨c, rfl⟩, if_pos c]
    rfl
  · rw [if_neg (fun y => c y.1), if_neg c]
    rfl
/-! stuffing by parts -/
def zst : List Int → Int → Int
  | [], z => z
  | b :: r, z => if b = 0 ∧ z = 1 then zst r 0 else zst r (if b = 0 then 1 else 0)
theorem stI_app : ∀ (a b : List Int) (z : Int), stI (a ++ b) z = stI a z ++ stI b (zst a z)
  | [], _, _ => rfl
  | x :: a, b, z => by
    show (if x = 0 ∧ z = 1 then x :: 2 :: stI (a ++ b) 0 else x :: stI (a ++ b) (if x = 0 then 1 else 0)) = (if x = 0 ∧ z = 1 then x :: 2 :: stI a 0 else x :: stI a (if x = 0 then 1 else 0)) ++ stI b (if x = 0 ∧ z = 1 then zst a 0 else zst a (if x = 0 then 1 else 0))
    by_cases c : x = 0 ∧ z = 1
    · rw [if_pos c, if_pos c, if_pos c, stI_app a b]; rfl
    · rw [if_neg c, if_neg c, if_neg c, stI_app a b]; rfl
theorem zst_01 : ∀ (l : List Int) (z : Int), (z = 0 ∨ z = 1) → (zst l z = 0 ∨ zst l z = 1)
  | [], _, h => h
  | b :: r, z, _ => by
    show (if b = 0 ∧ z = 1 then zst r 0 else zst r (if b = 0 then 1 else 0)) = 0 ∨ (if b = 0 ∧ z = 1 then zst r 0 else zst r (if b = 0 then 1 else 0)) = 1
    split
    · exact zst_01 r 0 (.inl rfl)
    · exact zst_01 r _ (by split <;> omega)
/-- no 2 is put -/
def NZ : List Int → Int → Prop
  | [], _ => True
  | b :: r, z => ¬ (b = 0 ∧ z = 1) ∧ NZ r (if b = 0 then 1 else 0)
theorem NZ.st : ∀ {l : List Int} {z : Int}, NZ l z → stI l z = l
  | [], _, _ => rfl
  | b :: r, z, h => by
    show (if b = 0 ∧ z = 1 then b :: 2 :: stI r 0 else b :: stI r (if b = 0 then 1 else 0)) = b :: r
    rw [if_neg h.1, NZ.st h.2]
theorem NZ.zero : ∀ {l : List Int}, NZ l 1 → NZ l 0
  | [], _ => trivial
  | _ :: _, h => ⟨fun c => absurd c.2 (by decide), h.2⟩
theorem NZ.zstE {b : Int} {r : List Int} {z : Int} (h : NZ (b :: r) z) : LK.zst (b :: r) z = LK.zst r (if b = 0 then 1 else 0) := if_neg h.1
theorem NZ.any {b : Int} {r : List Int} {z y : Int} (h : NZ (b :: r) z) (g : NZ (b :: r) y) : LK.zst (b :: r) z = LK.zst (b :: r) y := by rw [h.zstE, g.zstE]
theorem NZ.set : ∀ {l : List Int} {z : Int} (j : Nat), NZ l z → NZ (l.set j 9) z ∧ (j + 1 < l.length → zst (l.set j 9) z = zst l z)
  | [], _, _, _ => ⟨trivial, fun _ => rfl⟩
  | b :: r, z, 0, h => by
    have h9 : NZ (9 :: r) z := by
      refine ⟨fun c => absurd c.1 (by decide), ?_⟩
      show NZ r 0
      have := h.2
      by_cases c : b = 0
      · rw [if_pos c] at this; exact this.zero
      · rw [if_neg c] at this; exact this
    refine ⟨h9, fun hj => ?_⟩
    show LK.zst (9 :: r) z = LK.zst (b :: r) z
    rw [h9.zstE, h.zstE]
    cases r with
    | nil => simp at hj
    | cons c r => exact NZ.any h9.2 h.2
  | b :: r, z, j + 1, h => by
    obtain ⟨h1, h2⟩ := NZ.set j h.2
    have hc : NZ (b :: r.set j 9) z := ⟨h.1, h1⟩
    refine ⟨hc, fun hj => ?_⟩
    show LK.zst (b :: r.set j 9) z = LK.zst (b :: r) z
    rw [hc.zstE, h.zstE]
    exact h2 (by rw [List.length_cons] at hj; omega)
theorem NZ.pos : ∀ {l : List Int} {z : Int}, (∀ x ∈ l, x ≠ 0) → NZ l z ∧ zst l 0 = 0
  | [], _, _ => ⟨trivial, rfl⟩
  | b :: r, z, h => by
    have hb := h b List.mem_cons_self
    have ih := NZ.pos (z := 0) fun x hx => h x (List.mem_cons_of_mem _ hx)
    refine ⟨⟨fun c => hb c.1, by rw [if_neg hb]; exact ih.1⟩, ?_⟩
    show (if b = 0 ∧ (0 : Int) = 1 then zst r 0 else zst r (if b = 0 then 1 else 0)) = 0
    rw [if_neg (fun c => hb c.1), if_neg hb]
    exact ih.2
/-! a body of two by turns -/
def altL : Nat → Int → Int → List Int
  | 0, _, _ => []
  | n + 1, a, b => a :: altL n b a
theorem altL_len : ∀ (n : Nat) (a b : Int), (altL n a b).length = n
  | 0, _, _ => rfl
  | n + 1, a, b => by
    show (altL n b a).length + 1 = n + 1
    rw [altL_len n b a]
theorem altL_mem : ∀ (n : Nat) (a b : Int), ∀ x ∈ altL n a b, x = a ∨ x = b
  | 0, _, _, _, h => nomatch h
  | n + 1, a, b, x, h => by
    rcases List.mem_cons.mp h with h | h
    · exact .inl h
    · exact (altL_mem n b a x h).symm
theorem altL_nz (w : Int) : ∀ n : Nat, NZ (altL n w 1) 0 ∧ ∀ z, NZ (altL n 1 w) z
  | 0 => ⟨trivial, fun _ => trivial⟩
  | n + 1 => by
    obtain ⟨h1, h2⟩ := altL_nz w n
    exact ⟨⟨fun c => absurd c.2 (by decide), h2 _⟩, fun z => ⟨fun c => absurd c.1 (by decide), h1⟩⟩
theorem altL_rep (w : Int) (r : Nat) (hr : r ≤ 1) : ∀ k : Nat, (List.replicate k [w, 1]).flatten ++ (List.replicate r [w]).flatten = altL (2 * k + r) w 1
  | 0 => by
    rcases (by omega : r = 0 ∨ r = 1) with rfl | rfl <;> rfl
  | k + 1 => by
    rw [List.replicate_succ, List.flatten_cons, show 2 * (k + 1) + r = (2 * k + r + 1) + 1 by omega]
    show w :: 1 :: ((List.replicate k [w, 1]).flatten ++ (List.replicate r [w]).flatten) = w :: 1 :: altL (2 * k + r) w 1
    rw [altL_rep w r hr k]
/-! the sum of a body of which one byte is another -/
theorem chk_step {a a2 b : Int} (h0 : 0 ≤ a) (h1 : a < 65521) (g0 : 0 ≤ a2) (g1 : a2 < 65521) (e : (a * 257 + b) % 65521 = (a2 * 257 + b) % 65521) : a = a2 := by omega
theorem chkS_inj : ∀ (r : List Int) {a a2 : Int}, 0 ≤ a → a < 65521 → 0 ≤ a2 → a2 < 65521 → chkS r a = chkS r a2 → a = a2
  | [], _, _, _, _, _, _, e => e
  | b :: r, a, a2, h0, h1, g0, g1, e => by
    have e : chkS r ((a * 257 + b) % 65521) = chkS r ((a2 * 257 + b) % 65521) := e
    exact chk_step h0 h1 g0 g1 (chkS_inj r (Int.emod_nonneg _ (by decide)) (Int.emod_lt_of_pos _ (by decide)) (Int.emod_nonneg _ (by decide)) (Int.emod_lt_of_pos _ (by decide)) e)
theorem chkS_set : ∀ (l : List Int) (j : Nat) {a : Int}, 0 ≤ a → a < 65521 → j < l.length → (∀ x ∈ l, x ≠ 9 ∧ 0 ≤ x ∧ x ≤ 255) → chkS (l.set j 9) a ≠ chkS l a
  | [], _, _, _, _, h, _ => absurd h (Nat.not_lt_zero _)
  | b :: r, 0, a, h0, h1, _, hx => fun e => by
    have e : chkS r ((a * 257 + 9) % 65521) = chkS r ((a * 257 + b) % 65521) := e
    have hb := hx b List.mem_cons_self
    have := chkS_inj r (Int.emod_nonneg _ (by decide)) (Int.emod_lt_of_pos _ (by decide)) (Int.emod_nonneg _ (by decide)) (Int.emod_lt_of_pos _ (by decide)) e
    omega
  | b :: r, j + 1, a, h0, h1, hj, hx => chkS_set r j (a := (a * 257 + b) % 65521) (Int.emod_nonneg _ (by decide)) (Int.emod_lt_of_pos _ (by decide)) (by rw [List.length_cons] at hj; omega) fun x m => hx x (List.mem_cons_of_mem _ m)
theorem sumS_set {k : Int} {l : List Int} {j : Nat} (hj : j < l.length) (hx : ∀ x ∈ l, x ≠ 9 ∧ 0 ≤ x ∧ x ≤ 255) : sumS k l ≠ sumS k (l.set j 9) := fun e => by
  have e1 : chkS (k :: l) 1 / 256 = chkS (k :: l.set j 9) 1 / 256 := (List.cons.inj e).1
  have e2 : chkS (k :: l) 1 % 256 = chkS (k :: l.set j 9) 1 % 256 := (List.cons.inj (List.cons.inj e).2).1
  have : chkS (k :: l.set j 9) 1 = chkS (k :: l) 1 := by omega
  exact chkS_set l j (a := (1 * 257 + k) % 65521) (Int.emod_nonneg _ (by decide)) (Int.emod_lt_of_pos _ (by decide)) hj hx this
/-! the great box in the law's words -/
theorem tlN_big : ∀ (n : Nat) (x : Int), x ∈ tlN n → 128 ≤ x := by
  intro n
  induction n using Nat.strongRecOn with
  | _ n ih =>
    intro x hx
    by_cases z : n = 0
    · subst z; rw [tlN_0] at hx; cases hx
    · rw [tlN_s z] at hx
      rcases List.mem_cons.mp hx with rfl | hx
      · omega
      · exact ih (n / 128) (by omega) x hx
/-- the begin of its content -/
theorem great_head (m : Nat) (h0 : 127 ≤ m) (h1 : m ≤ 60000) (w : Int) : ((stI (figN m ++ [w]) 0).length ≤ 5) ∧ (zst (figN m ++ [w]) 0 = 0 ∨ zst (figN m ++ [w]) 0 = 1) := by
  have lt : (tlN (m / 128)).length ≤ 2 := tlN_len 2 _ (by have : (128 : Nat) ^ 2 = 16384 := rfl; omega)
  have hp := NZ.pos (z := 0) (l := (tlN (m / 128)).reverse) fun x hx => by have := tlN_big _ x (List.mem_reverse.mp hx); omega
  have e : figN m ++ [w] = (tlN (m / 128)).reverse ++ [((m % 128 : Nat) : Int), w] := by unfold figN; rw [List.append_assoc]; rfl
  have e2 : zst ((tlN (m / 128)).reverse ++ [((m % 128 : Nat) : Int), w]) 0 = zst [((m % 128 : Nat) : Int), w] 0 := by
    have : ∀ (a b : List Int) (z : Int), zst (a ++ b) z = zst b (zst a z) := by
      intro a
      induction a with
      | nil => intro b z; rfl
      | cons x a ih =>
        intro b z
        show (if x = 0 ∧ z = 1 then zst (a ++ b) 0 else zst (a ++ b) (if x = 0 then 1 else 0)) = zst b (if x = 0 ∧ z = 1 then zst a 0 else zst a (if x = 0 then 1 else 0))
        split <;> exact ih _ _
    rw [this, hp.2]
  rw [e, e2, stI_app, hp.2, hp.1.st, List.length_append, List.length_reverse]
  generalize ((m % 128 : Nat) : Int) = c
  constructor
  · have : (stI [c, w] 0).length ≤ 3 := by
      unfold stI
      rw [if_neg (fun y => absurd y.2 (by decide))]
      unfold stI
      split
      · show (c :: stI [w] 1).length ≤ 3
        unfold stI
        split <;> exact Nat.le_of_ble_eq_true rfl
      · show (c :: stI [w] 0).length ≤ 3
        unfold stI
        split <;> exact Nat.le_of_ble_eq_true rfl
    omega
  · exact zst_01 _ _ (.inl rfl)

section
variable {P : Program} {w : World} {K : PySem.W.Frag} {mg : Str → Option Value} {base : Heap}
theorem wc_min2 {K : PySem.W.Frag} {F : Fx} {ρ : En} {k : AV → En → Prop} {i j : Int} (hk : k (.dat (.int (if j < i then j else i))) ρ) : WpC K F (fun xs H Q => ∃ i j, xs = [.int i, .int j] ∧ Q (.int (if j < i then j else i)) H) [.dat (.int i), .dat (.int j)] ρ k := fun as σ H G vs e r Q q => by
  cases r with
  | cons a b =>
    cases b with
    | cons b c =>
      cases c
      cases (show Rep K G (.int i) _ from a)
      cases (show Rep K G (.int j) _ from b)
      exact ⟨i, j, rfl, q _ ρ _ as H G hk e .refl (Rep.int _)⟩
theorem we_frz {K : PySem.W.Frag} {F : Fx} {ρ : En} {k : AV → En → Prop} {t : TE} (h : WpE K F t ρ (frzK k)) : WpE K F t ρ k := fun as σ H G e Q q => h as σ H G e Q (got_frz q)
theorem wc_frz {K : PySem.W.Frag} {F : Fx} {ρ : En} {k : AV → En → Prop} {r : List V → Hp → VK → Prop} {xs : List AV} (h : WpC K F r xs ρ (frzK k)) : WpC K F r xs ρ k := fun as σ H G vs e rs Q q => h as σ H G vs e rs Q (got_frz q)
theorem frz_as {K : PySem.W.Frag} {G G' : Hp} {as : List Addr} {j : Nat} {a : Addr} {d : D} (s : Same G G') (ha : as[j]? = some a) (ra : Rep K G' d (.ref a)) {xs : List AV} {vs : List V} (h : RepAs K G as xs vs) : RepAs K G' as (xs.map (frzA j d)) vs := by
  induction h with
  | nil => exact .nil
  | @cons x xs v vs h _ ih =>
    refine .cons ?_ ih
    cases x with
    | dat e => exact Rep.mono s _ _ h
    | cel i =>
      obtain ⟨b, hb, rfl⟩ := h
      show RepA K G' as (if i = j then .dat d else .cel i) (.ref b)
      by_cases q : i = j
      · subst q
        rw [if_pos rfl]
        rw [ha] at hb
        cases hb
        exact ra
      · rw [if_neg q]
        exact ⟨b, hb, rfl⟩
    | tup ys =>
      obtain ⟨b, ws, rfl, hs, hr⟩ := h
      exact ⟨b, ws, rfl, Same.seqT s hs, TNs.frz s ha ra ys ws hr⟩
/-- a list that nobody writes to any more is data ahead of a call -/
theorem wsp_frz {K : PySem.W.Frag} {F : Fx} {ρ : En} {k : AV → En → Prop} {sp : Sp} {E : L2.St → XK} {xs : List AV} {j : Nat} {ds : List D} (hj : ρ.ce[j]? = some (.lst ds)) (h : WpSp K F sp E (xs.map (frzA j (.lst ds))) (ρ.frz j ds) k) : WpSp K F sp E xs ρ k := fun as σ H G vs e r Q q => by
  have hl : j < as.length := by rw [e.ln]; exact (List.getElem?_eq_some_iff.mp hj).1
  obtain ⟨o, e2, g2, rr⟩ := e.frz hj (List.getElem?_eq_getElem hl)
  exact h as σ H _ vs e2 (frz_as g2.1 (List.getElem?_eq_getElem hl) rr r) Q (q.imp g2 fun _ _ z => z)
/-! ### a great box -/
theorem NZ.last : ∀ {l : List Int} {x z : Int}, NZ (l ++ [x]) z → zst (l ++ [x]) z = if x = 0 then 1 else 0
  | [], x, z, h => by
    show zst (x :: []) z = _
    rw [NZ.zstE (show NZ (x :: []) z from h)]
    rfl
  | b :: l, x, z, h => by
    show zst (b :: (l ++ [x])) z = _
    rw [NZ.zstE (show NZ (b :: (l ++ [x])) z from h)]
    exact NZ.last (show NZ (l ++ [x]) (if b = 0 then 1 else 0) from h.2)
theorem great_st {m : Nat} {w z : Int} {two tl : List Int} (hn : NZ tl (zst (figN m ++ [w]) 0)) (hz : zst tl (zst (figN m ++ [w]) 0) = z) : stI (figN m ++ (w :: tl) ++ two) 0 = stI (figN m ++ [w]) 0 ++ tl ++ stI two z := by
  rw [show figN m ++ (w :: tl) ++ two = (figN m ++ [w]) ++ (tl ++ two) by simp, stI_app (figN m ++ [w]) (tl ++ two), stI_app tl two, hn.st, hz, List.append_assoc]
theorem set_mid (A S t Z R : List Int) (p : Nat) (h0 : A.length + S.length ≤ p) (h1 : p < A.length + S.length + t.length) : (A ++ (S ++ t ++ Z) ++ R).set p 9 = A ++ (S ++ t.set (p - A.length - S.length) 9 ++ Z) ++ R := by
  rw [List.set_append, if_pos (by simp only [List.length_append]; omega), List.set_append, if_neg (by omega), List.set_append, if_pos (by simp only [List.length_append]; omega), List.set_append, if_neg (by omega)]
theorem ixN_nat {l p : Nat} (h : p < l) : ixN l (p : Int) = some p := by
  unfold ixN
  simp
  omega
theorem rep_intsL (l : List Int) (k : Nat) : (List.replicate k (l.map D.int)).flatten = ((List.replicate k l).flatten).map D.int := by
  induction k with
  | zero => rfl
  | succ k ih => rw [List.replicate_succ, List.flatten_cons, ih, List.replicate_succ, List.flatten_cons, List.map_append]
theorem cutI_to (F : List Int) {b : Nat} (h : b ≤ F.length) : cutI F none (some (b : Int)) = F.take b := by
  unfold cutI
  rw [sIx_in (by omega) (by omega), HT.sIx_none, List.drop_zero, Nat.sub_zero]
  rfl
theorem cutI_from (F : List Int) {b : Nat} (h : b ≤ F.length) : cutI F (some (b : Int)) none = F.drop b := by
  rw [cutI_end F (by omega) (by omega)]
  rfl
theorem cut_tail (pre : List Int) (x : Int) : cutI (pre ++ [x]) (some (-1)) none = [x] := by
  unfold cutI
  have e : HT.sIx (pre ++ [x]).length 0 (some (-1)) = pre.length := by
    show (if (-1 : Int) < 0 then (-1 + ((pre ++ [x]).length : Int)).toNat else min (-1 : Int).toNat (pre ++ [x]).length) = pre.length
    rw [if_pos (by decide), List.length_append, List.length_singleton]
    omega
  rw [e, HT.sIx_none, List.drop_left, List.length_append, List.length_singleton]
  exact List.take_of_length_le (by rw [List.length_singleton]; omega)
def wGreat : PW0 := fun xs cs post _ => xs = [.cel 0] ∧ cs = [.drw] ∧ post (.dat (.bl true)) [.drw]
theorem ok_l_great (T : Txt K mg) : FnOk P w K mg base CX0 11 T.a_l_great T.d_l_great ["_law_state"] (spG K wGreat) := by
  refine T.F_l_great.ok sc_l_great (fun vs H Q E h => spG_len h fun xs cs post exc ⟨e, _⟩ => by rw [e]; rfl) (fun cdv A outer s H vs Q E hr h => ⟨_, (pss_cons (ps_set (i := 1) sc_l_great.nd rfl (Or.inl rfl) (pe_ix ix_list (pe_lst (pa_cons pe_int (pa_cons pe_int (pa_cons pe_int (pa_cons pe_int (pa_cons pe_int (pa_cons pe_int (pa_cons pe_int (pa_cons pe_int pa_nil))))))))) (pe_call (ok_l_digit T) (hr.mono (by decide)) (by rfl) T.g_l_digit T.F_l_digit.kp T.b_l_digit .nil pass0 (pa_cons (pv 0) (pa_cons pe_int pa_nil))) (fun _ _ => rfl)))
      (pss_cons (ps_set (i := 2) sc_l_great.nd rfl (Or.inl rfl) (pe_ix ix_list (pe_lst (pa_cons pe_int (pa_cons pe_int (pa_cons pe_int pa_nil)))) (pe_call (ok_l_digit T) (hr.mono (by decide)) (by rfl) T.g_l_digit T.F_l_digit.kp T.b_l_digit .nil pass0 (pa_cons (pv 0) (pa_cons pe_int pa_nil))) (fun _ _ => rfl)))
      (pss_cons (ps_set (i := 3) sc_l_great.nd rfl (Or.inl rfl) (pe_op op_catF (pe_op op_rep (pe_lst (pa_cons (pv 2) (pa_cons pe_int pa_nil))) (pe_op op_fdiv (pv 1) pe_int)) (pe_op op_rep (pe_lst (pa_cons (pv 2) pa_nil)) (pe_op op_mod (pv 1) pe_int))))
      (pss_cons (ps_set (i := 4) sc_l_great.nd rfl (Or.inl rfl) (pe_call (ok_box T) (hr.mono (by decide)) (by rfl) T.g_box T.F_box.kp T.b_box .nil passL (pa_cons pe_int (pa_cons (pv 3) pa_nil))))
      (pss_cons (ps_set (i := 5) sc_l_great.nd rfl (Or.inl rfl) (pe_callTy call_list_of (by rfl) T.m_list (by decide +kernel) (pa_cons (pe_callB call_divmod (by rfl) T.m_divmod (by decide +kernel) (pa_cons (pe_call (ok_l_sum T) (hr.mono (by decide)) (by rfl) T.g_l_sum T.F_l_sum.kp T.b_l_sum .nil pass0 (pa_cons (pe_op op_catF (pe_lst (pa_cons pe_int pa_nil)) (pv 3)) (pa_cons pe_int pa_nil))) (pa_cons pe_int pa_nil))) pa_nil)))
      (pss_cons (ps_set (i := 6) sc_l_great.nd rfl (Or.inl rfl) (pe_slice sl_list (pe_call (ok_l_stuffed T) (hr.mono (by decide)) (by rfl) T.g_l_stuffed T.F_l_stuffed.kp T.b_l_stuffed .nil pass0 (pa_cons (pe_op op_catF (pe_slice sl_list (pv 3) (po_some (pe_un un_neg pe_int)) po_none) (pv 5)) pa_nil)) (po_some pe_int) po_none))
      (pss_cons (ps_if (pt_cmpR (op_neD hr.units) (pv 4) (pe_op op_catF (pe_op op_catF (pe_op op_catF (pe_op op_catF (pe_lst (pa_cons pe_int (pa_cons pe_int (pa_cons pe_int (pa_cons pe_int pa_nil))))) (pe_call (ok_l_stuffed T) (hr.mono (by decide)) (by rfl) T.g_l_stuffed T.F_l_stuffed.kp T.b_l_stuffed .nil pass0 (pa_cons (pe_op op_catF (pe_call (ok_l_figures T) (hr.mono (by decide)) (by rfl) T.g_l_figures T.F_l_figures.kp T.b_l_figures .nil pass0 (pa_cons (pv 1) pa_nil)) (pe_slice sl_list (pv 3) po_none (po_some pe_int))) pa_nil))) (pe_slice sl_list (pv 3) (po_some pe_int) po_none)) (pv 6)) (pe_lst (pa_cons pe_int pa_nil))) (nomark _)) (pss_one (ps_ret pe_bl)) pss_nil)
      (pss_cons (ps_if (pt_cmpR (op_neD hr.units) (pe_call (ok_box_at T) (hr.mono (by decide)) (by rfl) T.g_box_at T.F_box_at.kp T.b_box_at .nil passL (pa_cons (pe_op op_catF (pe_lst (pa_cons pe_int pa_nil)) (pv 4)) (pa_cons pe_int pa_nil))) (pe_tup (pa_cons pe_int (pa_cons (pv 3) (pa_cons (pe_op op_add (pe_callB call_len_seq (by rfl) T.m_len (by decide +kernel) (pa_cons (pv 4) pa_nil)) pe_int) pa_nil)))) (nomark _)) (pss_one (ps_ret pe_bl)) pss_nil)
      (pss_cons (ps_asg pe_int (pg_sub (pv 4) (pe_op op_add pe_int (pe_call (ok_l_digit T) (hr.mono (by decide)) (by rfl) T.g_l_digit T.F_l_digit.kp T.b_l_digit .nil pass0 (pa_cons (pv 0) (pa_cons (pe_op op_sub (pv 1) pe_int) pa_nil)))) set_list))
      (pss_one (ps_ret (pe_cmpR op_isN (pe_call (ok_box_at T) (hr.mono (by decide)) (by rfl) T.g_box_at T.F_box_at.kp T.b1_box_at T.v1_box_at passL (pa_cons (pv 4) pa_nil)) pe_non (nomark _))))))))))))), enter h fun F xs cs post hE hw => ?_⟩)
  obtain ⟨rfl, rfl, q⟩ := hw
  refine ws_seqP (fun m : Nat => 127 ≤ m ∧ m ≤ 60000) (fun m => ⟨[some (.cel 0), some (.dat (.int (m : Int))), none, none, none, none, none], [.drw]⟩) (fun m hm => ?_) ?_
  rotate_left
  · walk_at "D"
    refine wsp_digit rfl (by decide) (by decide) fun u u0 u1 => ?_
    walk_at "D"
    refine wr_ixA (by walk_at "il") u0 (by show u < ((8 : Nat) : Int); exact u1) fun d hd => ?_
    obtain ⟨m, rfl, m0, m1⟩ : ∃ m : Nat, d = .int (m : Int) ∧ 127 ≤ m ∧ m ≤ 60000 := by
      simp only [List.mem_cons, List.not_mem_nil, or_false] at hd
      rcases hd with rfl | rfl | rfl | rfl | rfl | rfl | rfl | rfl
      · exact ⟨127, rfl, by decide, by decide⟩
      · exact ⟨128, rfl, by decide, by decide⟩
      · exact ⟨16383, rfl, by decide, by decide⟩
      · exact ⟨16384, rfl, by decide, by decide⟩
      · exact ⟨30000, rfl, by decide, by decide⟩
      · exact ⟨60000, rfl, by decide, by decide⟩
      · exact ⟨129, rfl, by decide, by decide⟩
      · exact ⟨16385, rfl, by decide, by decide⟩
    clear hd
    walk_at "D"
    exact ⟨m, ⟨m0, m1⟩, .tr .cut⟩
  obtain ⟨m0, m1⟩ := hm
  refine ws_seqP (fun w : Int => w = 7 ∨ w = 0 ∨ w = 255) (fun w => ⟨[some (.cel 0), some (.dat (.int (m : Int))), some (.dat (.int w)), none, none, none, none], [.drw]⟩) (fun w hw => ?_) ?_
  rotate_left
  · walk_at "D"
    refine wsp_digit rfl (by decide) (by decide) fun u u0 u1 => ?_
    walk_at "D"
    refine wr_ixA (by walk_at "il") u0 (by show u < ((3 : Nat) : Int); exact u1) fun d hd => ?_
    obtain ⟨w, rfl, hw⟩ : ∃ w : Int, d = .int w ∧ (w = 7 ∨ w = 0 ∨ w = 255) := by
      simp only [List.mem_cons, List.not_mem_nil, or_false] at hd
      rcases hd with rfl | rfl | rfl
      · exact ⟨_, rfl, .inl rfl⟩
      · exact ⟨_, rfl, .inr (.inl rfl)⟩
      · exact ⟨_, rfl, .inr (.inr rfl)⟩
    clear hd
    walk_at "D"
    exact ⟨w, hw, .tr .cut⟩
  -- the body
  obtain ⟨gh1, gh2⟩ := great_head m m0 m1 w
  obtain ⟨n, rfl⟩ : ∃ n, m = n + 2 := ⟨m - 2, by omega⟩
  have nz := (altL_nz w (n + 1)).2 (zst (figN (n + 2) ++ [w]) 0)
  have ltl := altL_len (n + 1) 1 w
  have mtl := altL_mem (n + 1) 1 w
  have hbody : altL (n + 2) w 1 = w :: altL (n + 1) 1 w := rfl
  have hrep := altL_rep w ((n + 2) % 2) (by omega) ((n + 2) / 2)
  rw [show 2 * ((n + 2) / 2) + (n + 2) % 2 = n + 2 by omega, hbody] at hrep
  generalize altL (n + 1) 1 w = tl at nz ltl mtl hrep
  obtain ⟨pre, x, rfl⟩ : ∃ pre x, tl = pre ++ [x] := by
    refine ⟨tl.dropLast, tl.getLast (fun e => by rw [e] at ltl; cases ltl), ?_⟩
    exact (List.dropLast_concat_getLast _).symm
  have hlast := nz.last
  have bx : ∀ y ∈ w :: (pre ++ [x]), y ≠ 9 ∧ 0 ≤ y ∧ y ≤ 255 := fun y hy => by
    rcases List.mem_cons.mp hy with hy | hy
    · subst hy; omega
    · rcases mtl y hy with hy | hy
      · subst hy; omega
      · subst hy; omega
  have lb : (w :: (pre ++ [x])).length = n + 2 := by rw [List.length_cons, ltl]
  have hbx : Byts (w :: (pre ++ [x])) := fun y hy => (bx y hy).2
  refine ws_seqP (fun _ : Unit => True) (fun _ => ⟨[some (.cel 0), some (.dat (.int ((n + 2 : Nat) : Int))), some (.dat (.int w)), some (.dat (.lst ((w :: (pre ++ [x])).map D.int))), none, none, none], [.drw]⟩) (fun _ _ => ?_) ?_
  rotate_left
  · walk_at "D"
    refine wr_Ii ⟨by decide, by decide⟩ ?_
    walk_at "D"
    rw [show (((n + 2 : Nat) : Int) / 2) = (((n + 2) / 2 : Nat) : Int) by omega]
    refine wr_rep (ds := [.int w, .int 1]) (.cel rfl) (by omega) (by omega) (by simp only [List.length]; omega) ?_
    rw [show ((((n + 2) / 2 : Nat) : Int)).toNat = (n + 2) / 2 by omega, show (List.replicate ((n + 2) / 2) [D.int w, .int 1]).flatten = ((List.replicate ((n + 2) / 2) [w, 1]).flatten).map D.int from rep_intsL [w, 1] _]
    walk_at "D"
    refine wr_Ii (by decide) ?_
    walk_at "D"
    rw [show (((n + 2 : Nat) : Int) % 2) = (((n + 2) % 2 : Nat) : Int) by omega]
    refine wr_rep (ds := [.int w]) (.cel rfl) (by omega) (by omega) (by simp only [List.length]; omega) ?_
    rw [show ((((n + 2) % 2 : Nat) : Int)).toNat = (n + 2) % 2 by omega, show (List.replicate ((n + 2) % 2) [D.int w]).flatten = ((List.replicate ((n + 2) % 2) [w]).flatten).map D.int from rep_intsL [w] _]
    have ll := congrArg List.length hrep
    rw [lb, List.length_append] at ll
    refine wr_cat (ds := ((List.replicate ((n + 2) / 2) [w, 1]).flatten).map D.int) (es := ((List.replicate ((n + 2) % 2) [w]).flatten).map D.int) (.cel rfl) (.cel rfl) (by rw [List.length_map, List.length_map]; omega) ?_
    rw [← List.map_append, hrep]
    walk_at "D"
    exact ⟨(), trivial, .fz 5 _ rfl .cut⟩
  -- the box
  refine ws_seqP (fun _ : Unit => True) (fun _ => ⟨[some (.cel 0), some (.dat (.int ((n + 2 : Nat) : Int))), some (.dat (.int w)), some (.dat (.lst ((w :: (pre ++ [x])).map D.int))), some (.cel 1), none, none], [.drw, .lst ((boxedI 9 (w :: (pre ++ [x]))).map D.int)]⟩) (fun _ _ => ?_) ?_
  rotate_left
  · walk_at "D"
    walk_at "c"
    refine ⟨.int 9, _, rfl, rfl, rfl, by rw [pl]; exact pls_int (w :: (pre ++ [x])), fun z => absurd z (by decide), fun _ z => ?_, fun k ns e1 e2 _ _ _ _ => ?_⟩
    · rcases z with z | z
      · rw [rw_is hbx] at z; cases z
      · have z : (60000 : Int) < (((w :: (pre ++ [x])).map D.int).length : Int) := z
        rw [List.length_map, lb] at z
        omega
    · have e1 : (9 : Int) = k := D.int.inj e1
      have e2 : w :: (pre ++ [x]) = ns := mapI_injG (D.lst.inj e2)
      subst e1 e2
      refine aft_hards (hards_int _) ?_
      walk_at "D"
      exact ⟨(), trivial, .tr .all⟩
  have two2 : (sumS 9 (w :: (pre ++ [x]))).length = 2 := rfl
  have bS := sumS_byts 9 (w :: (pre ++ [x]))
  have eS := great_st (m := n + 2) (two := sumS 9 (w :: (pre ++ [x]))) nz hlast
  have eBox : boxedI 9 (w :: (pre ++ [x])) = [0, 0, 1, 9] ++ (stI (figN (n + 2) ++ [w]) 0 ++ (pre ++ [x]) ++ stI (sumS 9 (w :: (pre ++ [x]))) (if x = 0 then 1 else 0)) ++ [255] := by
    unfold boxedI
    rw [lb, eS]
  have lZ := stI_len (sumS 9 (w :: (pre ++ [x]))) (if x = 0 then 1 else 0)
  have lBx : (boxedI 9 (w :: (pre ++ [x]))).length ≤ 60020 := by
    rw [eBox]
    simp only [List.length_append, List.length_cons, List.length_nil] at lb ⊢
    omega
  have bBx : Byts (boxedI 9 (w :: (pre ++ [x]))) := boxedI_byts (by decide) (by decide) hbx
  have rB : boxL (boxedI 9 (w :: (pre ++ [x]))) = some (9, w :: (pre ++ [x]), []) := by
    have := boxL_cont (k := 9) (body := w :: (pre ++ [x])) (two := sumS 9 (w :: (pre ++ [x]))) (t := []) (by decide) (by decide) (by omega) rfl
    rw [if_pos rfl] at this
    exact this
  -- its sum
  refine ws_seqP (fun _ : Unit => True) (fun _ => ⟨[some (.cel 0), some (.dat (.int ((n + 2 : Nat) : Int))), some (.dat (.int w)), some (.dat (.lst ((w :: (pre ++ [x])).map D.int))), some (.cel 1), some (.dat (.lst ((sumS 9 (w :: (pre ++ [x]))).map D.int))), none], [.drw, .lst ((boxedI 9 (w :: (pre ++ [x]))).map D.int)]⟩) (fun _ _ => ?_) ?_
  rotate_left
  · walk_at "D"
    refine wr_cat (ds := [.int 9]) (es := (w :: (pre ++ [x])).map D.int) (.cel rfl) (.dat _) (by rw [List.length_map, lb]; simp only [List.length]; omega) ?_
    walk_at "D"
    walk_at "c"
    refine ⟨9 :: w :: (pre ++ [x]), 1, rfl, rfl, fun y hy => by
      rcases List.mem_cons.mp hy with rfl | hy
      · decide
      · exact hbx y hy, by decide, by decide, aft_hard rfl ?_⟩
    walk_at "D"
    refine wc_divmod ⟨by decide, by decide⟩ ?_
    walk_at "D"
    exact ⟨(), trivial, .fz 4 _ rfl .cut⟩
  have hne : ∀ i, i < (w :: (pre ++ [x])).length → sumS 9 (w :: (pre ++ [x])) ≠ sumS 9 ((w :: (pre ++ [x])).set i 9) := fun i hi => sumS_set hi bx
  generalize sumS 9 (w :: (pre ++ [x])) = two at two2 bS eS eBox lZ hne ⊢
  have eX : stI (x :: two) 0 = x :: stI two (if x = 0 then 1 else 0) := if_neg (fun c => absurd c.2 (by decide))
  have bx0 : Byts (x :: two) := fun y hy => by
    rcases List.mem_cons.mp hy with rfl | hy
    · exact hbx _ (List.mem_cons_of_mem _ (List.mem_append_right _ List.mem_cons_self))
    · exact bS y hy
  -- its tail
  refine ws_seqP (fun _ : Unit => True) (fun _ => ⟨[some (.cel 0), some (.dat (.int ((n + 2 : Nat) : Int))), some (.dat (.int w)), some (.dat (.lst ((w :: (pre ++ [x])).map D.int))), some (.cel 1), some (.dat (.lst (two.map D.int))), some (.dat (.lst ((stI two (if x = 0 then 1 else 0)).map D.int)))], [.drw, .lst ((boxedI 9 (w :: (pre ++ [x]))).map D.int)]⟩) (fun _ _ => ?_) ?_
  rotate_left
  · walk_at "D"
    rw [cut_int, show cutI (w :: (pre ++ [x])) (some (-1)) none = [x] from cut_tail (w :: pre) x]
    refine wr_cat (ds := [.int x]) (es := two.map D.int) (.cel rfl) (.dat _) (by rw [List.length_map, two2]; exact Nat.le_of_ble_eq_true rfl) ?_
    walk_at "D"
    walk_at "c"
    refine ⟨x :: two, rfl, rfl, bx0, by rw [List.length_cons, two2]; omega, aft_hards (hards_int _) ?_⟩
    rw [eX]
    walk_at "D"
    rw [cut_int, show cutI (x :: stI two (if x = 0 then 1 else 0)) (some 1) none = stI two (if x = 0 then 1 else 0) from cutI_from _ (b := 1) (by rw [List.length_cons]; omega)]
    walk_at "D"
    exact ⟨(), trivial, .fz 5 _ rfl .cut⟩
  generalize hZ : stI two (if x = 0 then 1 else 0) = Z at eBox lZ eS ⊢
  have hS := stI_len (figN (n + 2) ++ [w]) 0
  have hfl : (figN (n + 2)).length ≤ 31 := fig_short _ (by omega)
  refine ws_seqP (fun _ : Unit => True) (fun _ => ⟨[some (.cel 0), some (.dat (.int ((n + 2 : Nat) : Int))), some (.dat (.int w)), some (.dat (.lst ((w :: (pre ++ [x])).map D.int))), some (.cel 1), some (.dat (.lst (two.map D.int))), some (.dat (.lst (Z.map D.int)))], [.drw, .lst ((boxedI 9 (w :: (pre ++ [x]))).map D.int)]⟩) (fun _ _ => ?_) ?_
  rotate_left
  · walk_at "D"
    refine wsp_fig rfl (by omega) ?_
    walk_at "D"
    rw [cut_int, show cutI (w :: (pre ++ [x])) none (some 1) = [w] from cutI_to _ (b := 1) (by rw [lb]; omega)]
    refine wr_cat (ds := (figN (n + 2)).map D.int) (es := [.int w]) (.cel rfl) (.cel rfl) (by rw [List.length_map]; simp only [List.length]; omega) ?_
    rw [show (figN (n + 2)).map D.int ++ [D.int w] = (figN (n + 2) ++ [w]).map D.int by rw [List.map_append]; rfl]
    walk_at "D"
    walk_at "c"
    refine ⟨figN (n + 2) ++ [w], rfl, rfl, (fig_byts _).app (hbx w List.mem_cons_self).1 (hbx w List.mem_cons_self).2, by rw [List.length_append, List.length_singleton]; omega, aft_hards (hards_int _) ?_⟩
    generalize stI (figN (n + 2) ++ [w]) 0 = S1 at gh1 eBox ⊢
    refine wr_cat (ds := [.int 0, .int 0, .int 1, .int 9]) (es := S1.map D.int) (.cel rfl) (.cel rfl) (by rw [List.length_map]; simp only [List.length]; omega) ?_
    walk_at "D"
    rw [cut_int, show cutI (w :: (pre ++ [x])) (some 1) none = pre ++ [x] from cutI_from _ (b := 1) (by rw [lb]; omega)]
    refine wr_cat (ds := [.int 0, .int 0, .int 1, .int 9] ++ S1.map D.int) (es := (pre ++ [x]).map D.int) (.cel rfl) (.cel rfl) (by rw [List.length_append, List.length_map, List.length_map, ltl]; simp only [List.length]; omega) ?_
    walk_at "D"
    refine wr_cat (ds := [.int 0, .int 0, .int 1, .int 9] ++ S1.map D.int ++ (pre ++ [x]).map D.int) (es := Z.map D.int) (.cel rfl) (.dat _) (by rw [List.length_append, List.length_append, List.length_map, List.length_map, List.length_map, ltl]; simp only [List.length]; omega) ?_
    walk_at "D"
    refine wr_cat (ds := [.int 0, .int 0, .int 1, .int 9] ++ S1.map D.int ++ (pre ++ [x]).map D.int ++ Z.map D.int) (es := [.int 255]) (.cel rfl) (.cel rfl) (by rw [List.length_append, List.length_append, List.length_append, List.length_map, List.length_map, List.length_map, ltl]; simp only [List.length]; omega) ?_
    rw [show [D.int 0, .int 0, .int 1, .int 9] ++ S1.map D.int ++ (pre ++ [x]).map D.int ++ Z.map D.int ++ [D.int 255] = ([0, 0, 1, 9] ++ S1 ++ (pre ++ [x]) ++ Z ++ [255]).map D.int by simp]
    refine wr_neD 1 (.cel rfl) (.cel rfl) (by rw [fine]; exact fines_intsG 0 _) (by rw [fine]; exact fines_intsG 0 _) (by decide) ?_
    rw [eqD_ints, decide_eq_true (show boxedI 9 (w :: (pre ++ [x])) = [0, 0, 1, 9] ++ S1 ++ (pre ++ [x]) ++ Z ++ [255] by rw [eBox]; simp)]
    walk_at "D"
    exact ⟨(), trivial, .tr .cut⟩
  refine ws_seqP (fun _ : Unit => True) (fun _ => ⟨[some (.cel 0), some (.dat (.int ((n + 2 : Nat) : Int))), some (.dat (.int w)), some (.dat (.lst ((w :: (pre ++ [x])).map D.int))), some (.cel 1), some (.dat (.lst (two.map D.int))), some (.dat (.lst (Z.map D.int)))], [.drw, .lst ((boxedI 9 (w :: (pre ++ [x]))).map D.int)]⟩) (fun _ _ => ?_) ?_
  rotate_left
  · walk_at "D"
    refine wr_cat (ds := [.int 7]) (es := (boxedI 9 (w :: (pre ++ [x]))).map D.int) (.cel rfl) (.cel rfl) (by rw [List.length_map]; simp only [List.length]; omega) ?_
    rw [show [D.int 7] ++ (boxedI 9 (w :: (pre ++ [x]))).map D.int = (7 :: boxedI 9 (w :: (pre ++ [x]))).map D.int from rfl]
    walk_at "D"
    refine wsp_frz (j := 3) rfl ?_
    walk_at "nr4"
    walk_at "c"
    refine w_box_at (ns := 7 :: boxedI 9 (w :: (pre ++ [x]))) (j := 1) (fun y hy => by
      rcases List.mem_cons.mp hy with rfl | hy
      · decide
      · exact bBx y hy) (by rw [List.length_cons]; omega) (by rw [List.length_cons]; omega) ⟨rfl, ?_⟩
    rw [show (7 :: boxedI 9 (w :: (pre ++ [x]))).drop 1 = boxedI 9 (w :: (pre ++ [x])) from rfl, rB]
    walk_at "D"
    rw [List.length_map]
    have ee : resBx (7 :: boxedI 9 (w :: (pre ++ [x]))).length (some (9, w :: (pre ++ [x]), [])) = .tup [.int 9, .lst ((w :: (pre ++ [x])).map D.int), .int (((boxedI 9 (w :: (pre ++ [x]))).length : Int) + 1)] := by
      show D.tup [.int 9, .lst ((w :: (pre ++ [x])).map D.int), .int (((7 :: boxedI 9 (w :: (pre ++ [x]))).length : Int) - ((0 : Nat) : Int))] = _
      rw [List.length_cons, show (((boxedI 9 (w :: (pre ++ [x]))).length + 1 : Nat) : Int) - ((0 : Nat) : Int) = ((boxedI 9 (w :: (pre ++ [x]))).length : Int) + 1 by omega]
    rw [ee]
    have ff : fine 2 (.tup [.int 9, .lst ((w :: (pre ++ [x])).map D.int), .int (((boxedI 9 (w :: (pre ++ [x]))).length : Int) + 1)]) = true := by
      show (true && (fine 1 (.lst ((w :: (pre ++ [x])).map D.int)) && (true && true))) = true
      rw [show fine 1 (.lst ((w :: (pre ++ [x])).map D.int)) = fines 0 ((w :: (pre ++ [x])).map D.int) from rfl, fines_intsG]
      rfl
    have fb : noB (.tup [.int 9, .lst ((w :: (pre ++ [x])).map D.int), .int (((boxedI 9 (w :: (pre ++ [x]))).length : Int) + 1)]) = true := by
      show (true && (noBs ((w :: (pre ++ [x])).map D.int) && (true && true))) = true
      rw [noBs_intsG]
      rfl
    refine wr_neD 2 (.dat _) (.dat _) ff ff (by decide) ?_
    simp only [List.map_cons] at fb ⊢
    rw [(eqD_iff _ _ fb fb).mpr rfl]
    walk_at "D"
    exact ⟨(), trivial, .tr .cut⟩
  walk_at "D"
  refine wsp_digit rfl (by omega) (by omega) fun e0 e1 e2 => ?_
  obtain ⟨e, rfl⟩ : ∃ e : Nat, e0 = e := ⟨e0.toNat, by omega⟩
  walk_at "D"
  rw [show (9 : Int) + (e : Int) = ((9 + e : Nat) : Int) by omega]
  have lB2 : (boxedI 9 (w :: (pre ++ [x]))).length = 4 + ((stI (figN (n + 2) ++ [w]) 0).length + (n + 1) + Z.length) + 1 := by
    rw [eBox, List.length_append, List.length_append, List.length_append, List.length_append, ltl]
    rfl
  refine sub_in rfl rfl (by walk_at "fz") rfl (ixN_nat (by rw [List.length_map, lB2]; omega)) ?_
  rw [← List.map_set]
  have key : (boxedI 9 (w :: (pre ++ [x]))).set (9 + e) 9 = [0, 0, 1, 9] ++ stI (figN ((w :: (pre ++ [x]).set (9 + e - 4 - (stI (figN (n + 2) ++ [w]) 0).length) 9)).length ++ (w :: (pre ++ [x]).set (9 + e - 4 - (stI (figN (n + 2) ++ [w]) 0).length) 9) ++ two) 0 ++ (255 :: []) := by
    obtain ⟨n1, n2⟩ := nz.set (9 + e - 4 - (stI (figN (n + 2) ++ [w]) 0).length)
    have n3 := n2 (by rw [ltl]; omega)
    rw [List.length_cons, List.length_set, ltl, great_st n1 (n3.trans hlast), hZ, eBox]
    generalize stI (figN (n + 2) ++ [w]) 0 = S1 at gh1
    rw [set_mid [0, 0, 1, 9] S1 (pre ++ [x]) Z [255] (9 + e) (by simp only [List.length_cons, List.length_nil]; omega) (by rw [ltl]; simp only [List.length_cons, List.length_nil]; omega)]
    rfl
  have r0 : boxL (((boxedI 9 (w :: (pre ++ [x]))).set (9 + e) 9).drop 0) = none := by
    rw [List.drop_zero, key]
    have l2 : (w :: (pre ++ [x]).set (9 + e - 4 - (stI (figN (n + 2) ++ [w]) 0).length) 9).length = n + 2 := by rw [List.length_cons, List.length_set, ltl]
    rw [boxL_cont (by decide) (by decide) (by omega) two2, if_neg]
    exact hne (9 + e - 4 - (stI (figN (n + 2) ++ [w]) 0).length + 1) (by rw [lb]; omega)
  walk_at "D"
  refine we_call1 (x := .dat (.int 0)) (fun _ _ => Rep.int 0) ?_
  walk_at "D"
  walk_at "c"
  refine w_box_at (ns := (boxedI 9 (w :: (pre ++ [x]))).set (9 + e) 9) (j := 0) (fun y hy => ?_) (by rw [List.length_set]; omega) (Nat.zero_le _) ?_
  · rcases List.mem_or_eq_of_mem_set hy with hy | hy
    · exact bBx y hy
    · rw [hy]; decide
  rw [r0]
  refine aft_hard rfl ?_
  walk_at "D"
  exact fin_dat rfl q
end

local macro_rules | `(tactic| walk_at "E") => `(tactic| repeat (first
  | (with_reducible refine ws_seq ?_; walk_at "nr2")
  | walk_at "d"
  | refine we_dnew ?_
  | refine ifT rfl ?_
  | refine ifF rfl ?_))
section
variable {P : Program} {w : World} {K : PySem.W.Frag} {mg : Str → Option Value} {base : Heap}
/-! ### what is none is refused -/
def wOdds (P : Addr) (q : Str) : PW0 := fun xs cs post _ => ∃ ns bs : List Int, xs = [.cel 0, .dat (.lst (ns.map D.int)), .dat (.lst (bs.map D.int))] ∧ cs = [.drw, .oth (tabX P q)] ∧ Byts ns ∧ ns.length ≤ 2000 ∧ Byts bs ∧ bs.length ≤ 1000 ∧ post (.dat (.bl true)) [.drw, .oth (tabX P q)]
theorem fine_wk : fine 1 (.tup [.str "kind", .bl false]) = true := by decide +kernel
theorem fine_wb : fine 1 (.tup [.str "bytes", .bl false]) = true := by decide +kernel
theorem fine_wp : fine 1 (.tup [.str "place", .bl false]) = true := by decide +kernel
theorem self_wk : (!eqD (.tup [.str "kind", .bl false]) (.tup [.str "kind", .bl false])) = false := by decide +kernel
theorem self_wb : (!eqD (.tup [.str "bytes", .bl false]) (.tup [.str "bytes", .bl false])) = false := by decide +kernel
theorem self_wp : eqD (.tup [.str "place", .bl false]) (.tup [.str "place", .bl false]) = true := by decide +kernel
theorem seven_pl (k : Nat) : pls (List.replicate k [D.int 7]).flatten = true := by
  induction k with
  | zero => rfl
  | succ k ih =>
    rw [List.replicate_succ, List.flatten_cons]
    show (pl (.int 7) && pls (List.replicate k [D.int 7]).flatten) = true
    rw [ih]; rfl
theorem seven_len (k : Nat) : (List.replicate k [D.int 7]).flatten.length = k := by
  induction k with
  | zero => rfl
  | succ k ih => rw [List.replicate_succ, List.flatten_cons, List.length_append, ih]; simp only [List.length]; omega
theorem ok_l_odds (T : Txt K mg) (B : TabsT base mg T) : FnOk P w K mg base CX0 13 T.a_l_odds T.d_l_odds ["_law_state", "_law_row", "_law_body"] (spG K (wOdds T.tw_l_odds (lamQ "_law_odds"))) := by
  refine T.C_l_odds.ok sc_l_odds (fun vs H Q E h => spG_len h fun xs cs post exc ⟨a, b, e, _⟩ => by rw [e]; rfl) (fun A outer s H vs Q E hr h => ⟨_, (pss_cons (ps_set (i := 3) sc_l_odds.nd rfl (Or.inr rfl) (pe_ix ix_list (pe_lst (pa_cons pe_int (pa_cons pe_int (pa_cons (pe_un un_neg pe_int) (pa_cons (pe_cmpR op_eq pe_int pe_int (nomark _)) (pa_cons pe_non (pa_cons pe_str (pa_cons (pe_lst (pa_cons pe_int pa_nil)) (pa_cons pe_int pa_nil))))))))) (pe_call (ok_l_digit T) (hr.mono (by decide)) (by rfl) T.g_l_digit T.F_l_digit.kp T.b_l_digit .nil pass0 (pa_cons (pv 0) (pa_cons pe_int pa_nil))) (fun _ _ => rfl)))
      (pss_cons (ps_set (i := 5) sc_l_odds.nd rfl (Or.inr rfl) (pe_ix ix_list (pe_lst (pa_cons (pe_un un_neg pe_int) (pa_cons (pe_op op_add (pe_callB call_len_seq (by rfl) T.m_len (by decide +kernel) (pa_cons (pv 1) pa_nil)) pe_int) (pa_cons (pe_cmpR op_eq pe_int pe_int (nomark _)) (pa_cons pe_non (pa_cons pe_str (pa_cons (pe_lst (pa_cons pe_int pa_nil)) (pa_cons (pe_tup (pa_cons pe_int pa_nil)) (pa_cons (pe_op op_add (pe_callB call_len_seq (by rfl) T.m_len (by decide +kernel) (pa_cons (pv 1) pa_nil)) pe_int) pa_nil))))))))) (pe_call (ok_l_digit T) (hr.mono (by decide)) (by rfl) T.g_l_digit T.F_l_digit.kp T.b_l_digit .nil pass0 (pa_cons (pv 0) (pa_cons pe_int pa_nil))) (fun _ _ => rfl)))
      (pss_cons (ps_set (i := 4) sc_l_odds.nd rfl (Or.inr rfl) (pe_call (ok_l_odd_row T) (hr.mono (by decide)) (by rfl) T.g_l_odd_row T.F_l_odd_row.kp T.b_l_odd_row .nil pass0 (pa_cons (pv 0) (pa_cons (pv 2) pa_nil))))
      (pss_cons (ps_for PassesOwn.never rfl (pi_list (pe_lst (pa_cons (pv 4) (pa_cons (pv 2) pa_nil)))) (pg_name (i := 6) sc_l_odds.nd rfl (Or.inr rfl))
        (pss_one (ps_if (pt_cmpR (op_neD hr.units) (pe_lamW (k := 7) (q := lamQ "_law_odds") T.F_l_word T.b_l_word sc_l_word rfl (Or.inl rfl) (by rfl) T.g_l_word rfl (give_l_word T) B.tb_l_odds rfl (hr.mono (by decide)) (LamX.lamS_by (show LamX.lamSB (defScope s_l_odds) _ = true by decide +kernel)) rfl (fun _ _ _ _ _ => by first | rfl | with_unfolding_all rfl) (fun A outer s H E f z hr => (pe_call (ok_box T) (hr.mono (by decide)) (by rfl) T.g_box T.F_box.kp T.b_box .nil (passes_call (takes_of rfl rfl rfl rfl) (fun _ _ _ _ h => h)) (pa_cons (pv 3) (pa_cons (pv 6) pa_nil))))) (pe_tup (pa_cons pe_str (pa_cons pe_bl pa_nil))) (nomark _)) (pss_one (ps_ret pe_bl)) pss_nil)))
      (pss_cons (ps_if (pt_cmpR (op_neD hr.units) (pe_lamW (k := 7) (q := lamQ "_law_odds") T.F_l_word T.b_l_word sc_l_word rfl (Or.inl rfl) (by rfl) T.g_l_word rfl (give_l_word T) B.tb_l_odds rfl (hr.mono (by decide)) (LamX.lamS_by (show LamX.lamSB (defScope s_l_odds) _ = true by decide +kernel)) rfl (fun _ _ _ _ _ => by first | rfl | with_unfolding_all rfl) (fun A outer s H E f z hr => (pe_call (ok_box T) (hr.mono (by decide)) (by rfl) T.g_box T.F_box.kp T.b_box .nil (passes_call (takes_of rfl rfl rfl rfl) (fun _ _ _ _ h => h)) (pa_cons pe_int (pa_cons (pv 4) pa_nil))))) (pe_tup (pa_cons pe_str (pa_cons pe_bl pa_nil))) (nomark _)) (pss_one (ps_ret pe_bl)) pss_nil)
      (pss_cons (ps_if (pt_cmpR (op_neD hr.units) (pe_lamW (k := 10) (q := lamQ "_law_odds") T.F_l_word T.b_l_word sc_l_word rfl (Or.inl rfl) (by rfl) T.g_l_word rfl (give_l_word T) B.tb_l_odds rfl (hr.mono (by decide)) (LamX.lamS_by (show LamX.lamSB (defScope s_l_odds) _ = true by decide +kernel)) rfl (fun _ _ _ _ _ => by first | rfl | with_unfolding_all rfl) (fun A outer s H E f z hr => (pe_call (ok_box_at T) (hr.mono (by decide)) (by rfl) T.g_box_at T.F_box_at.kp T.b_box_at .nil (passes_call (takes_of rfl rfl rfl rfl) (fun _ _ _ _ h => h)) (pa_cons (pv 4) (pa_cons (pv 5) pa_nil))))) (pe_tup (pa_cons pe_str (pa_cons pe_bl pa_nil))) (nomark _)) (pss_one (ps_ret pe_bl)) pss_nil)
      (pss_cons (ps_if (PW.pt (pw_and (pt_cmpR op_eq (pe_call (ok_l_digit T) (hr.mono (by decide)) (by rfl) T.g_l_digit T.F_l_digit.kp T.b_l_digit .nil pass0 (pa_cons (pv 0) (pa_cons pe_int pa_nil))) pe_int (nomark _)) (pw_and1 (pt_cmpR (op_neD hr.units) (pe_lamW (k := 7) (q := lamQ "_law_odds") T.F_l_word T.b_l_word sc_l_word rfl (Or.inl rfl) (by rfl) T.g_l_word rfl (give_l_word T) B.tb_l_odds rfl (hr.mono (by decide)) (LamX.lamS_by (show LamX.lamSB (defScope s_l_odds) _ = true by decide +kernel)) rfl (fun _ _ _ _ _ => by first | rfl | with_unfolding_all rfl) (fun A outer s H E f z hr => (pe_call (ok_box T) (hr.mono (by decide)) (by rfl) T.g_box T.F_box.kp T.b_box .nil (passes_call (takes_of rfl rfl rfl rfl) (fun _ _ _ _ h => h)) (pa_cons pe_int (pa_cons (pe_op op_rep (pe_lst (pa_cons pe_int pa_nil)) pe_int) pa_nil))))) (pe_tup (pa_cons pe_str (pa_cons pe_bl pa_nil))) (nomark _))))) (pss_one (ps_ret pe_bl)) pss_nil)
      (pss_one (ps_ret (pe_cmpR (op_eqD hr.units) (pe_lamW (k := 10) (q := lamQ "_law_odds") T.F_l_word T.b_l_word sc_l_word rfl (Or.inl rfl) (by rfl) T.g_l_word rfl (give_l_word T) B.tb_l_odds rfl (hr.mono (by decide)) (LamX.lamS_by (show LamX.lamSB (defScope s_l_odds) _ = true by decide +kernel)) rfl (fun _ _ _ _ _ => by first | rfl | with_unfolding_all rfl) (fun A outer s H E f z hr => (pe_call (ok_box_at T) (hr.mono (by decide)) (by rfl) T.g_box_at T.F_box_at.kp T.b_box_at .nil (passes_call (takes_of rfl rfl rfl rfl) (fun _ _ _ _ h => h)) (pa_cons (pv 1) (pa_cons (pv 5) pa_nil))))) (pe_tup (pa_cons pe_str (pa_cons pe_bl pa_nil))) (nomark _))))))))))), enter h fun F xs cs post hE hw => ?_⟩)
  obtain ⟨ns, bs, rfl, rfl, hb, hl, hbb, hbl, q⟩ := hw
  refine ws_seqP (fun kd : D => pl kd = true ∧ inR 1 9 kd = false) (fun kd => ⟨[some (.cel 0), some (.dat (.lst (ns.map D.int))), some (.dat (.lst (bs.map D.int))), some (.dat kd), none, none, none], [.drw, .oth (tabX T.tw_l_odds (lamQ "_law_odds"))]⟩) (fun kd hkd => ?_) ?_
  rotate_left
  · walk_at "E"
    refine wsp_digit rfl (by decide) (by decide) fun g g0 g1 => ?_
    walk_at "E"
    refine wr_ixA (by walk_at "il") g0 (by show g < ((8 : Nat) : Int); exact g1) fun kd hd => ?_
    have op : pl kd = true ∧ inR 1 9 kd = false := by
      simp only [List.mem_cons, List.not_mem_nil, or_false] at hd
      rcases hd with rfl | rfl | rfl | rfl | rfl | rfl | rfl | rfl <;> exact ⟨rfl, by decide⟩
    clear hd
    walk_at "E"
    exact ⟨kd, op, .tr .cut⟩
  refine ws_seqP (fun pd : D => pl pd = true ∧ inR 0 (ns.length : Int) pd = false) (fun pd => ⟨[some (.cel 0), some (.dat (.lst (ns.map D.int))), some (.dat (.lst (bs.map D.int))), some (.dat kd), none, some (.dat pd), none], [.drw, .oth (tabX T.tw_l_odds (lamQ "_law_odds"))]⟩) (fun pd hpd => ?_) ?_
  rotate_left
  · walk_at "E"
    refine wsp_digit rfl (by decide) (by decide) fun g g0 g1 => ?_
    walk_at "E"
    refine wr_ixA (by walk_at "il") g0 (by show g < ((8 : Nat) : Int); exact g1) fun pd hd => ?_
    have op : pl pd = true ∧ inR 0 (ns.length : Int) pd = false := by
      rw [List.length_map] at hd
      have big : ∀ x : Int, (ns.length : Int) < x → inR 0 (ns.length : Int) (.int x) = false := fun x hx => by
        show (decide ((0 : Int) ≤ x) && decide (x ≤ (ns.length : Int))) = false
        rw [decide_eq_false (show ¬ x ≤ (ns.length : Int) by omega), Bool.and_false]
      simp only [List.mem_cons, List.not_mem_nil, or_false] at hd
      rcases hd with rfl | rfl | rfl | rfl | rfl | rfl | rfl | rfl
      · exact ⟨rfl, rfl⟩
      · exact ⟨rfl, big _ (by omega)⟩
      · exact ⟨rfl, rfl⟩
      · exact ⟨rfl, rfl⟩
      · exact ⟨rfl, rfl⟩
      · exact ⟨rfl, rfl⟩
      · exact ⟨rfl, rfl⟩
      · exact ⟨rfl, big _ (by omega)⟩
    clear hd
    walk_at "E"
    exact ⟨pd, op, .tr .cut⟩
  refine ws_seqP (fun od : D => OddR od) (fun od => ⟨[some (.cel 0), some (.dat (.lst (ns.map D.int))), some (.dat (.lst (bs.map D.int))), some (.dat kd), some (.dat od), some (.dat pd), none], [.drw, .oth (tabX T.tw_l_odds (lamQ "_law_odds"))]⟩) (fun od hod => ?_) ?_
  rotate_left
  · walk_at "E"
    walk_at "cd"
    refine ⟨bs, rfl, rfl, by omega, fun d od => ⟨rfl, ?_⟩, fun ds od => ⟨rfl, ?_⟩⟩
    · refine ⟨by show (onlyC 0 [.cel 0, .dat (.lst (bs.map D.int))] || hard d) = true; rw [show onlyC 0 [.cel 0, .dat (.lst (bs.map D.int))] = true from rfl]; rfl, ?_⟩
      walk_at "E"
      exact ⟨d, od, .tr .all⟩
    · refine ⟨by show (onlyC 0 [.cel 0, .dat (.lst (bs.map D.int))] || hards ds) = true; rw [show onlyC 0 [.cel 0, .dat (.lst (bs.map D.int))] = true from rfl]; rfl, ?_⟩
      walk_at "E"
      exact ⟨.lst ds, od, .fz 2 _ rfl .cut⟩
  obtain ⟨hk1, hk2⟩ := hkd
  obtain ⟨hp1, hp2⟩ := hpd
  -- the kind is none
  refine ws_seqP (fun a6 : Option AV => True) (fun a6 => ⟨[some (.cel 0), some (.dat (.lst (ns.map D.int))), some (.dat (.lst (bs.map D.int))), some (.dat kd), some (.dat od), some (.dat pd), a6], [.drw, .oth (tabX T.tw_l_odds (lamQ "_law_odds"))]⟩) (fun a6 _ => ?_) ?_
  rotate_left
  · walk_at "E"
    refine loop_by (fun es ρ => ∃ a6 : Option D, (∀ d ∈ es, pl d = true) ∧ ρ = ⟨[some (.cel 0), some (.dat (.lst (ns.map D.int))), some (.dat (.lst (bs.map D.int))), some (.dat kd), some (.dat od), some (.dat pd), a6.map AV.dat], [.drw, .oth (tabX T.tw_l_odds (lamQ "_law_odds")), .lst [od, .lst (bs.map D.int)]]⟩) ⟨none, fun d hd => ?_, rfl⟩ ?_ ?_
    · simp only [List.mem_cons, List.not_mem_nil, or_false] at hd
      rcases hd with rfl | rfl
      · exact hod.1
      · rw [pl]; exact pls_int bs
    · rintro ρ ⟨a6, _, rfl⟩
      cases a6 with
      | none => exact ⟨.cel rfl, none, trivial, .tr .cut⟩
      | some d => exact ⟨.cel rfl, some (.dat d), trivial, .tr .cut⟩
    · rintro d es ρ ⟨a6, he, rfl⟩
      refine ⟨.cel rfl, ?_⟩
      have hd := he d List.mem_cons_self
      walk_at "E"
      refine we_lamW (j := 1) (fun C => C = T.c_NoKind) rfl rfl (fun F1 E hE => ?_) (fun F1 f C hC => ?_)
      · walk_at "E"
        refine wsp0 (exc := fun C => C = T.c_NoKind) (by walk_at "as") (fun C as σ H G hC e => hE C as σ H G hC e) ⟨kd, d, rfl, rfl, hk1, hd, fun _ => rfl, fun z => absurd z (by rw [hk2]; decide), fun k ms e1 e2 k0 k1 _ _ => ?_⟩
        rw [e1] at hk2
        exact absurd (inR_int (lo := 1) (hi := 9) (i := k) k0 k1) (by rw [hk2]; decide)
      subst hC
      refine mix_kind T ?_
      walk_at "E"
      refine wr_neD 1 (by walk_at "od") (by walk_at "od") fine_wk fine_wk (by decide) ?_
      rw [self_wk]
      walk_at "E"
      exact now ⟨some d, fun d hd => he d (List.mem_cons_of_mem _ hd), rfl⟩
  refine ws_wipe [6] ?_
  show WpS K F _ ⟨[some (.cel 0), some (.dat (.lst (ns.map D.int))), some (.dat (.lst (bs.map D.int))), some (.dat kd), some (.dat od), some (.dat pd), none], [.drw, .oth (tabX T.tw_l_odds (lamQ "_law_odds"))]⟩ _
  walk_at "E"
  refine we_lamW (j := 1) (fun C => C = T.c_NoBytes) rfl rfl (fun F1 E hE => ?_) (fun F1 f C hC => ?_)
  · walk_at "E"
    refine wsp0 (exc := fun C => C = T.c_NoBytes) (by walk_at "as") (fun C as σ H G hC e => hE C as σ H G hC e) ⟨.int 9, od, rfl, rfl, rfl, hod.1, fun z => absurd z (by decide), fun _ _ => rfl, fun k ms e1 e2 k0 k1 hm _ => ?_⟩
    exact absurd (rw_is hm) (by rw [← e2, hod.2.1]; decide)
  subst hC
  refine mix_bytes T ?_
  walk_at "E"
  refine wr_neD 1 (by walk_at "od") (by walk_at "od") fine_wb fine_wb (by decide) ?_
  rw [self_wb]
  walk_at "E"
  refine we_lamW (j := 1) (fun C => C = T.c_NoBytes) rfl rfl (fun F1 E hE => ?_) (fun F1 f C hC => ?_)
  · walk_at "E"
    refine wsp0 (exc := fun C => C = T.c_NoBytes) (by walk_at "as") (fun C as σ H G hC e => hE C as σ H G hC e) ⟨od, pd, rfl, rfl, hod.1, hp1, fun _ => rfl, fun z => absurd z (by rw [hod.2.1]; decide), fun ms j e1 e2 hm _ => ?_⟩
    exact absurd (rw_is hm) (by rw [← e1, hod.2.1]; decide)
  subst hC
  refine mix_bytes T ?_
  walk_at "E"
  refine wr_neD 1 (by walk_at "od") (by walk_at "od") fine_wb fine_wb (by decide) ?_
  rw [self_wb]
  refine ⟨false, rfl, ?_⟩
  refine ifF rfl ?_
  refine ws_next ?_
  -- a body too long
  refine ws_seqP (fun _ : Unit => True) (fun _ => ⟨[some (.cel 0), some (.dat (.lst (ns.map D.int))), some (.dat (.lst (bs.map D.int))), some (.dat kd), some (.dat od), some (.dat pd), none], [.drw, .oth (tabX T.tw_l_odds (lamQ "_law_odds"))]⟩) (fun _ _ => ?_) ?_
  rotate_left
  · walk_at "E"
    refine wsp_digit rfl (by decide) (by decide) fun g g0 g1 => ?_
    walk_at "E"
    refine ifC (fun c => ?_) (fun c => ?_)
    · walk_at "E"
      refine we_lamW (j := 1) (fun C => C = T.c_NoBytes) rfl rfl (fun F1 E hE => ?_) (fun F1 f C hC => ?_)
      · refine fun as σ H G e => (?_ : WpE K F1 _ _ _) as σ H G e
        have h0 : F1.as0.length ≤ 2 := by
          have := e.pr.length_le
          rw [e.ln] at this
          exact this
        clear e
        walk_at "E"
        refine wr_rep (ds := [.int 7]) (.cel rfl) (by decide) (by decide) (by decide) ?_
        walk_at "E"
        refine wsp0 (exc := fun C => C = T.c_NoBytes) (by walk_at "as") (fun C as σ H G hC e => hE C _ σ H G hC (e.trunc 2 h0)) ⟨.int 1, .lst (List.replicate (60001 : Int).toNat [D.int 7]).flatten, rfl, rfl, rfl, by rw [pl]; exact seven_pl _, fun z => absurd z (by decide), fun _ _ => rfl, fun k ms e1 e2 k0 k1 hm lm => ?_⟩
        have e3 := congrArg List.length (D.lst.inj e2)
        rw [seven_len, List.length_map] at e3
        omega
      subst hC
      refine mix_bytes T ?_
      walk_at "E"
      refine wr_neD 1 (by walk_at "od") (by walk_at "od") fine_wb fine_wb (by decide) ?_
      rw [self_wb]
      walk_at "E"
      exact ⟨(), trivial, .tr .all⟩
    · walk_at "E"
      exact ⟨(), trivial, .tr .all⟩
  walk_at "E"
  refine we_lamW (j := 1) (fun C => C = T.c_NoPlace) rfl rfl (fun F1 E hE => ?_) (fun F1 f C hC => ?_)
  · walk_at "E"
    refine wsp0 (exc := fun C => C = T.c_NoPlace) (by walk_at "as") (fun C as σ H G hC e => hE C as σ H G hC e) ⟨_, pd, rfl, rfl, by rw [pl]; exact pls_int ns, hp1, fun z => absurd (rw_is hb) (by rw [z]; decide), fun _ _ => rfl, fun ms j e1 e2 hm hj => ?_⟩
    have e3 : ns = ms := mapI_injG (D.lst.inj e1)
    subst e3 e2
    exact absurd (inR_int (lo := 0) (hi := (ns.length : Int)) (i := j) (by omega) (by omega)) (by rw [hp2]; decide)
  subst hC
  refine mix_place T ?_
  walk_at "E"
  refine wr_eqD 1 (by walk_at "od") (by walk_at "od") fine_wp fine_wp (by decide) ?_
  rw [self_wp]
  exact fin_dat rfl q
end

local macro_rules | `(tactic| walk_at "E") => `(tactic| repeat (first
  | (with_reducible refine ws_seq ?_; walk_at "nr2")
  | walk_at "d"
  | refine we_dnew ?_
  | refine ifT rfl ?_
  | refine ifF rfl ?_))
section
variable {P : Program} {w : World} {K : PySem.W.Frag} {mg : Str → Option Value} {base : Heap}
theorem boxed_le (k : Int) (body : List Int) (h : body.length ≤ 900) : (boxedI k body).length ≤ 2 * body.length + 71 := by
  have hf := fig_short body.length (by omega)
  have hs := stI_len (figN body.length ++ body ++ sumS k body) 0
  unfold boxedI
  rw [List.length_append, List.length_append] at hs ⊢
  have e1 : (sumS k body).length = 2 := rfl
  have e2 : ([0, 0, 1, k] : List Int).length = 4 := rfl
  have e3 : ([255] : List Int).length = 1 := rfl
  omega
theorem boxed_len (k : Int) (body : List Int) : 4 < (boxedI k body).length := by
  unfold boxedI
  rw [List.length_append, List.length_append]
  show 4 < 4 + _ + 1
  omega
def spLawT (K : PySem.W.Frag) (P1 P2 : Addr) : Sp := fun vs H Q _ => ∃ (a : Addr) (ns : List Int), vs = [.ref a] ∧ SqL K H a (ns.map V.int) ∧ ns.length ≤ 63 ∧ H P1 = some (.tbl #[]) ∧ H P2 = some (.tbl #[]) ∧ ∀ H', Q (.bl true) H'
def wLawT (P1 P2 : Addr) (q1 q2 : Str) : PW0 := fun xs cs post _ => ∃ ns : List Int, xs = [.dat (.scr (ns.map D.int))] ∧ cs = [.oth (tabX P1 q1), .oth (tabX P2 q2)] ∧ ns.length ≤ 63 ∧ post (.dat (.bl true)) [.oth (tabX P1 q1), .oth (tabX P2 q2)]
theorem tab_nil {G H : Hp} {P : Addr} {q : Str} (g : G P = none) (h : H P = some (.tbl #[])) : (∃ o, H P = some o) ∧ CellOk K G H P (.oth (tabX P q)) :=
  ⟨⟨_, h⟩, g, _, h, rfl, _, rfl, True.intro, fun po cv hc => by
    have z : codeAmong po [] = some cv := hc
    simp [codeAmong] at z⟩
theorem law_ofT {P1 P2 : Addr} {q1 q2 : Str} (ne : P1 ≠ P2) {vs : List V} {H : Hp} {Q : VK} {E : XK} (h : spLawT K P1 P2 vs H Q E) : spG K (wLawT P1 P2 q1 q2) vs H Q E := by
  obtain ⟨a, ns, rfl, hs, hl, h1, h2, q⟩ := h
  let G : Hp := fun b => if b = P1 ∨ b = P2 then none else H b
  have g1 : G P1 = none := if_pos (.inl rfl)
  have g2 : G P2 = none := if_pos (.inr rfl)
  have gh : Same G H := fun b o e => by
    have e : (if b = P1 ∨ b = P2 then none else H b) = some o := e
    split at e
    · cases e
    · exact e
  have gk : ∀ b o, H b = some o → (∀ ps, o ≠ .tbl ps) → G b = some o := fun b o e n => by
    show (if b = P1 ∨ b = P2 then none else H b) = some o
    rw [if_neg]
    · exact e
    · rintro (rfl | rfl)
      · rw [h1] at e; exact n _ (Option.some.inj e).symm
      · rw [h2] at e; exact n _ (Option.some.inj e).symm
  have hs' : SqL K G a (ns.map V.int) := by
    rcases hs with (h | ⟨o, h⟩) | h
    · exact .inl (.inl (gk _ _ h fun ps z => by cases z))
    · exact .inl (.inr ⟨o, gk _ _ h fun ps z => by cases z⟩)
    · exact .inr h
  refine ⟨G, [P1, P2], fun _ _ => none, [.dat (.scr (ns.map D.int))], [.oth (tabX P1 q1), .oth (tabX P2 q2)], fun r _ => r = .dat (.bl true), fun _ => False, gh, ⟨rfl, by simp [ne], fun j c b hc hb => ?_⟩, RegsAt.no (fun j t X z => by
    cases j with
    | zero => cases z
    | succ j =>
      cases j with
      | zero => cases z
      | succ j => simp at z), .cons (Rep.scr hs' Reps.ofV) .nil, ⟨ns, rfl, rfl, hl, rfl⟩, ?_, fun _ _ z => z.elim⟩
  · cases j with
    | zero => cases hc; cases hb; exact tab_nil g1 h1
    | succ j =>
      cases j with
      | zero => cases hc; cases hb; exact tab_nil g2 h2
      | succ j => simp at hc
  · intro r cs v H' G' Ts' hp _ _ _ _ _ _ _ rr
    subst hp
    rw [Rep.blE rr]
    exact q H'
theorem self_int (ns : List Int) : (!eqD (.lst (ns.map D.int)) (.lst (ns.map D.int))) = false := by
  rw [(eqD_iff (.lst (ns.map D.int)) (.lst (ns.map D.int)) (noBs_intsG ns) (noBs_intsG ns)).mpr rfl]; rfl
section
variable {F : Fx} {ρ : En} {k : AV → En → Prop} {E : L2.St → XK}
theorem cell_self {j : Nat} {c : Cell} (hj : ρ.ce[j]? = some c) : ρ.cell j c = ρ := by
  obtain ⟨sl, ce⟩ := ρ
  have hl : j < ce.length := (List.getElem?_eq_some_iff.mp hj).1
  have he : ce[j] = c := (List.getElem?_eq_some_iff.mp hj).2
  show En.mk sl (ce.set j c) = ⟨sl, ce⟩
  rw [← he, List.set_getElem_self]
theorem wsp_right {P : Addr} {q : Str} {j : Nat} {rs : List Int} {js : List Nat} (hj : ρ.ce[j]? = some (.oth (tabX P q))) (hb : Byts rs) (hl : rs.length ≤ 2000) (hi : ∀ i ∈ js, i ≤ rs.length) (hk : k (.dat (.bl true)) ρ) : WpSp K F (spG K (wRight P q)) E [.dat (.lst (rs.map D.int)), .dat (.lst (js.map fun j : Nat => D.int (j : Int)))] ρ k :=
  wsp1 hj rfl rfl ⟨rs, js, rfl, rfl, hb, hl, hi, _, rfl, rfl, by rw [cell_self hj]; exact hk⟩
theorem wsp_odds {P : Addr} {q : Str} {j t : Nat} {rs bs : List Int} (hj : ρ.ce[j]? = some .drw) (ht : ρ.ce[t]? = some (.oth (tabX P q))) (hb : Byts rs) (hl : rs.length ≤ 2000) (hbb : Byts bs) (hbl : bs.length ≤ 1000) (hk : k (.dat (.bl true)) ρ) : WpSp K F (spG K (wOdds P q)) E [.cel j, .dat (.lst (rs.map D.int)), .dat (.lst (bs.map D.int))] ρ k :=
  wspO hj ht (by show (decide (j = j) && true) = true; rw [decide_eq_true rfl]; rfl) ⟨rs, bs, rfl, rfl, hb, hl, hbb, hbl, rfl, _, rfl, hk⟩
theorem wsp_box {CK CB : Addr} {kd : Int} {bs : List Int} (k0 : 1 ≤ kd) (k1 : kd ≤ 9) (hb : Byts bs) (hl : bs.length ≤ 900) (hk : k (.cel ρ.ce.length) (ρ.add ((boxedI kd bs).map D.int))) : WpSp K F (spG K (wBox CK CB)) E [.dat (.int kd), .dat (.lst (bs.map D.int))] ρ k :=
  wspE (.dat (.dat .nil)) ⟨.int kd, _, rfl, rfl, rfl, by rw [pl]; exact pls_int bs, fun z => absurd (inR_int (lo := 1) (hi := 9) (i := kd) k0 k1) (by rw [z]; decide), fun _ z => by
    rcases z with z | z
    · rw [rw_is hb] at z; cases z
    · have z : (60000 : Int) < ((bs.map D.int).length : Int) := z
      rw [List.length_map] at z
      omega, fun k2 ns e1 e2 _ _ _ _ => by
    have e1 : kd = k2 := D.int.inj e1
    have e2 : bs = ns := mapI_injG (D.lst.inj e2)
    subst e1 e2
    exact aft_hards (hards_int _) hk⟩
theorem wsp_boxed {kd : Int} {bs : List Int} (k0 : 1 ≤ kd) (k1 : kd ≤ 9) (hb : Byts bs) (hl : bs.length ≤ 900) (hk : k (.cel ρ.ce.length) (ρ.add ((boxedI kd bs).map D.int))) : WpSp K F (spG K wLBoxed) E [.dat (.int kd), .dat (.lst (bs.map D.int))] ρ k :=
  wspE (.dat (.dat .nil)) ⟨kd, bs, rfl, rfl, by omega, by omega, hb, hl, aft_hards (hards_int _) hk⟩
end
theorem boxed_rd {kd : Int} {bs : List Int} (k0 : 1 ≤ kd) (k1 : kd ≤ 9) (hl : bs.length ≤ 900) : boxL (boxedI kd bs) = some (kd, bs, []) := by
  have := boxL_cont (k := kd) (body := bs) (two := sumS kd bs) (t := []) k0 k1 (by omega) rfl
  rw [if_pos rfl] at this
  exact this
def envL (ns : List Int) (P1 P2 : Addr) (X : List Int) (c : Int) (sl : List (Option AV)) (more : List Cell) : En :=
  ⟨some (.dat (.scr (ns.map D.int))) :: sl, [.oth (tabX P1 (lamQ "_law_right")), .oth (tabX P2 (lamQ "_law_odds")), .drw, .lst (X.map D.int), .lst [.int 0, .int 1], .lst (X.map D.int ++ [.int 0, .int 1])] ++ more⟩
theorem ok_law (T : Txt K mg) (B : TabsT base mg T) : FnOk P w K mg base CX0 14 T.a_law T.d_law ["_law_script"] (spLawT K T.tw_l_right T.tw_l_odds) := by
  refine FnOk.imp (sp := spG K (wLawT T.tw_l_right T.tw_l_odds (lamQ "_law_right") (lamQ "_law_odds"))) ?_ (fun vs H Q E h => law_ofT B.ne_l_right_l_odds h)
  refine T.F_law.ok sc_law (fun vs H Q E h => spG_len h fun xs cs post exc ⟨a, e, _⟩ => by rw [e]; rfl) (fun cdv A outer s H vs Q E hr h => ⟨_, (pss_cons (ps_set (i := 1) sc_law.nd rfl (Or.inl rfl) (pe_lst (pa_cons (pe_call (ok_l_cell_at T) (hr.mono (by decide)) (by rfl) T.g_l_cell_at T.F_l_cell_at.kp T.b_l_cell_at .nil pass0 (pa_cons (pv 0) (pa_cons pe_int pa_nil))) pa_nil)))
      (pss_cons (ps_if (PW.pt (pw_and (pt_cmpR op_eq (pe_call (ok_l_digit T) (hr.mono (by decide)) (by rfl) T.g_l_digit T.F_l_digit.kp T.b_l_digit .nil pass0 (pa_cons (pv 1) (pa_cons pe_int pa_nil))) pe_int (nomark _)) (pw_and1 (pt_not (pt_val (pe_call (ok_l_great T) (hr.mono (by decide)) (by rfl) T.g_l_great T.F_l_great.kp T.b_l_great .nil pass0 (pa_cons (pv 1) pa_nil))))))) (pss_one (ps_ret pe_bl)) pss_nil)
      (pss_cons (ps_for PassesOwn.never rfl (pi_list (pe_op op_catF (pe_slice sl_list (pv 0) po_none (po_some pe_int)) (pe_lst (pa_cons pe_int (pa_cons pe_int pa_nil))))) (pg_name (i := 2) sc_law.nd rfl (Or.inl rfl))
        (pss_cons (ps_set (i := 1) sc_law.nd rfl (Or.inl rfl) (pe_lst (pa_cons (pv 2) pa_nil)))
      (pss_cons (ps_set (i := 3) sc_law.nd rfl (Or.inl rfl) (pe_ix ix_list (pe_lst (pa_cons (pe_call (ok_l_digit T) (hr.mono (by decide)) (by rfl) T.g_l_digit T.F_l_digit.kp T.b_l_digit .nil pass0 (pa_cons (pv 1) (pa_cons pe_int pa_nil))) (pa_cons (pe_op op_add pe_int (pe_call (ok_l_digit T) (hr.mono (by decide)) (by rfl) T.g_l_digit T.F_l_digit.kp T.b_l_digit .nil pass0 (pa_cons (pv 1) (pa_cons pe_int pa_nil)))) pa_nil))) (pe_callTy call_int1 (by rfl) T.m_int (by decide +kernel) (pa_cons (pe_cmpR op_eq (pe_call (ok_l_digit T) (hr.mono (by decide)) (by rfl) T.g_l_digit T.F_l_digit.kp T.b_l_digit .nil pass0 (pa_cons (pv 1) (pa_cons pe_int pa_nil))) pe_int (nomark _)) pa_nil)) (fun _ _ => rfl)))
      (pss_cons (ps_set (i := 4) sc_law.nd rfl (Or.inl rfl) (pe_op op_add pe_int (pe_call (ok_l_digit T) (hr.mono (by decide)) (by rfl) T.g_l_digit T.F_l_digit.kp T.b_l_digit .nil pass0 (pa_cons (pv 1) (pa_cons pe_int pa_nil)))))
      (pss_cons (ps_set (i := 5) sc_law.nd rfl (Or.inl rfl) (pe_call (ok_l_bytes T) (hr.mono (by decide)) (by rfl) T.g_l_bytes T.F_l_bytes.kp T.b_l_bytes .nil pass0 (pa_cons (pv 1) (pa_cons (pv 3) pa_nil))))
      (pss_cons (ps_set (i := 6) sc_law.nd rfl (Or.inl rfl) (pe_callTy call_list_of (by rfl) T.m_list (by decide +kernel) (pa_cons (pv 5) pa_nil)))
      (pss_cons (ps_set (i := 7) sc_law.nd rfl (Or.inl rfl) (pe_call (ok_box T) (hr.mono (by decide)) (by rfl) T.g_box T.F_box.kp T.b_box .nil passL (pa_cons (pv 4) (pa_cons (pv 6) pa_nil))))
      (pss_cons (ps_if (PW.pt (pw_or (pt_not (pt_val (pe_callB call_isi (by rfl) T.m_isinstance (by decide +kernel) (pa_cons (pv 7) (pa_cons (pe_bltn (v := .ty "list") (by rfl) T.m_list (by decide +kernel) rfl) pa_nil))))) (pw_or (pt_cmpR (op_neD hr.units) (pv 7) (pe_call (ok_l_boxed T) (hr.mono (by decide)) (by rfl) T.g_l_boxed T.F_l_boxed.kp T.b_l_boxed .nil pass0 (pa_cons (pv 4) (pa_cons (pv 5) pa_nil))) (nomark _)) (pw_or1 (pt_cmpR (op_neD hr.units) (pv 6) (pv 5) (nomark _)))))) (pss_one (ps_ret pe_bl)) pss_nil)
      (pss_cons (ps_set (i := 8) sc_law.nd rfl (Or.inl rfl) (pe_call (ok_l_bytes T) (hr.mono (by decide)) (by rfl) T.g_l_bytes T.F_l_bytes.kp T.b_l_bytes .nil pass0 (pa_cons (pv 1) (pa_cons (pe_call (ok_l_digit T) (hr.mono (by decide)) (by rfl) T.g_l_digit T.F_l_digit.kp T.b_l_digit .nil pass0 (pa_cons (pv 1) (pa_cons pe_int pa_nil))) pa_nil))))
      (pss_cons (ps_set (i := 9) sc_law.nd rfl (Or.inl rfl) (pe_op op_catF (pe_op op_catF (pv 8) (pv 7)) (pe_call (ok_l_bytes T) (hr.mono (by decide)) (by rfl) T.g_l_bytes T.F_l_bytes.kp T.b_l_bytes .nil pass0 (pa_cons (pv 1) (pa_cons (pe_call (ok_l_digit T) (hr.mono (by decide)) (by rfl) T.g_l_digit T.F_l_digit.kp T.b_l_digit .nil pass0 (pa_cons (pv 1) (pa_cons pe_int pa_nil))) pa_nil)))))
      (pss_cons (ps_set (i := 10) sc_law.nd rfl (Or.inl rfl) (pe_call (ok_l_digit T) (hr.mono (by decide)) (by rfl) T.g_l_digit T.F_l_digit.kp T.b_l_digit .nil pass0 (pa_cons (pv 1) (pa_cons (pe_callB call_len_seq (by rfl) T.m_len (by decide +kernel) (pa_cons (pv 9) pa_nil)) pa_nil))))
      (pss_cons (ps_set (i := 11) sc_law.nd rfl (Or.inl rfl) (pe_call (ok_l_digit T) (hr.mono (by decide)) (by rfl) T.g_l_digit T.F_l_digit.kp T.b_l_digit .nil pass0 (pa_cons (pv 1) (pa_cons pe_int pa_nil))))
      (pss_cons (ps_set (i := 12) sc_law.nd rfl (Or.inl rfl) (pe_lst (pa_cons pe_int (pa_cons (pe_callB call_len_seq (by rfl) T.m_len (by decide +kernel) (pa_cons (pv 8) pa_nil)) (pa_cons (pe_call (ok_l_digit T) (hr.mono (by decide)) (by rfl) T.g_l_digit T.F_l_digit.kp T.b_l_digit .nil pass0 (pa_cons (pv 1) (pa_cons (pe_op op_add (pe_callB call_len_seq (by rfl) T.m_len (by decide +kernel) (pa_cons (pv 9) pa_nil)) pe_int) pa_nil))) (pa_cons (pe_callB call_len_seq (by rfl) T.m_len (by decide +kernel) (pa_cons (pv 9) pa_nil)) pa_nil))))))
      (pss_cons (ps_expr (pe_bm PySem.F.plainAttrs_list PySem.F.slot_list_append PySem.F.type_list_append mt_append (pv 7) (pa_cons pe_int pa_nil)))
      (pss_cons (ps_set (i := 13) sc_law.nd rfl (Or.inl rfl) (pe_lst (pa_cons (pv 9) (pa_cons (pe_op op_catF (pe_op op_catF (pe_slice sl_list (pv 9) po_none (po_some (pv 10))) (pe_lst (pa_cons (pv 11) pa_nil))) (pe_slice sl_list (pv 9) (po_some (pe_op op_add (pv 10) pe_int)) po_none)) (pa_cons (pe_op op_catF (pe_slice sl_list (pv 9) po_none (po_some (pv 10))) (pe_slice sl_list (pv 9) (po_some (pe_op op_add (pv 10) pe_int)) po_none)) (pa_cons (pe_op op_catF (pe_op op_catF (pe_slice sl_list (pv 9) po_none (po_some (pv 10))) (pe_lst (pa_cons (pv 11) pa_nil))) (pe_slice sl_list (pv 9) (po_some (pv 10)) po_none)) (pa_cons (pv 9) pa_nil)))))))
      (pss_cons (ps_for PassesOwn.never rfl (pi_list (pv 13)) (pg_name (i := 14) sc_law.nd rfl (Or.inr rfl))
        (pss_one (ps_if (pt_not (pt_val (pe_call (ok_l_right T B) (hr.mono (by decide)) (by rfl) T.g_l_right T.F_l_right.kp T.b_l_right .nil pass0 (pa_cons (pv 14) (pa_cons (pe_lc (own := [("_law_place", 15)]) (g := gName 15) (tt := tYes) (by rfl) sc_law.nd (pi_list (pv 12)) (blkOk_by (own := [("_law_place", 15)]) (N := N_law) (sc := defScope s_law) (by decide +kernel)) (fun _ _ _ _ _ => (pg_name (i := 15) sc_law.nd rfl (Or.inl rfl))) (fun _ _ _ _ _ => pts_nil) (fun _ _ _ _ _ => (pe_callB (call_min2 rfl) (by rfl) T.m_min (by decide +kernel) (pa_cons (pv 15) (pa_cons (pe_callB (call_len_seqK (K := K) rfl) (by rfl) T.m_len (by decide +kernel) (pa_cons (pv 14) pa_nil)) pa_nil))))) pa_nil))))) (pss_one (ps_ret pe_bl)) pss_nil)))
      (pss_cons (ps_if (PW.pt (pw_or (pt_cmpR (op_neD hr.units) (pe_call (ok_box T) (hr.mono (by decide)) (by rfl) T.g_box T.F_box.kp T.b_box .nil passL (pa_cons (pv 4) (pa_cons (pv 5) pa_nil))) (pe_call (ok_l_boxed T) (hr.mono (by decide)) (by rfl) T.g_l_boxed T.F_l_boxed.kp T.b_l_boxed .nil pass0 (pa_cons (pv 4) (pa_cons (pv 5) pa_nil))) (nomark _)) (pw_or1 (pt_cmpR (op_neD hr.units) (pe_call (ok_box_at T) (hr.mono (by decide)) (by rfl) T.g_box_at T.F_box_at.kp T.b1_box_at T.v1_box_at passL (pa_cons (pe_call (ok_l_boxed T) (hr.mono (by decide)) (by rfl) T.g_l_boxed T.F_l_boxed.kp T.b_l_boxed .nil pass0 (pa_cons (pv 4) (pa_cons (pv 5) pa_nil))) pa_nil)) (pe_tup (pa_cons (pv 4) (pa_cons (pv 5) (pa_cons (pe_op op_sub (pe_callB call_len_seq (by rfl) T.m_len (by decide +kernel) (pa_cons (pv 7) pa_nil)) pe_int) pa_nil)))) (nomark _))))) (pss_one (ps_ret pe_bl)) pss_nil)
      (pss_one (ps_if (pt_not (pt_val (pe_call (ok_l_odds T B) (hr.mono (by decide)) (by rfl) T.g_l_odds T.F_l_odds.kp T.b_l_odds .nil pass0 (pa_cons (pv 1) (pa_cons (pv 9) (pa_cons (pv 5) pa_nil)))))) (pss_one (ps_ret pe_bl)) pss_nil)))))))))))))))))))
      (pss_one (ps_ret pe_bl))))), enter h fun F xs cs post hE hw => ?_⟩)
  obtain ⟨ns, rfl, rfl, hn, q⟩ := hw
  refine ws_seqP (fun n : Int => True) (fun n => ⟨[some (.dat (.scr (ns.map D.int))), some (.cel 2), none, none, none, none, none, none, none, none, none, none, none, none, none, none], [.oth (tabX T.tw_l_right (lamQ "_law_right")), .oth (tabX T.tw_l_odds (lamQ "_law_odds")), .lst [.int n]]⟩) (fun n _ => ?_) ?_
  rotate_left
  · walk_at "D"
    walk_at "c"
    refine ⟨ns, 8, rfl, rfl, by decide, fun n => aft_hard rfl ?_⟩
    walk_at "D"
    exact ⟨n, trivial, .tr .all⟩
  refine ws_seqP (fun _ : Unit => True) (fun _ => ⟨[some (.dat (.scr (ns.map D.int))), some (.cel 2), none, none, none, none, none, none, none, none, none, none, none, none, none, none], [.oth (tabX T.tw_l_right (lamQ "_law_right")), .oth (tabX T.tw_l_odds (lamQ "_law_odds")), .drw]⟩) (fun _ _ => ?_) ?_
  rotate_left
  · walk_at "D"
    refine wsp_drw (j := 2) rfl ?_
    walk_at "nr2"
    refine wsp_digit rfl (by decide) (by decide) fun g g0 g1 => ?_
    walk_at "D"
    refine ifC (fun c => ?_) (fun c => ?_)
    · walk_at "D"
      walk_at "cd"
      refine ⟨rfl, rfl, rfl, rfl, ?_⟩
      walk_at "D"
      exact ⟨(), trivial, .tr .all⟩
    · walk_at "D"
      exact ⟨(), trivial, .tr .all⟩
  walk_at "D"
  obtain ⟨X, eX, lX⟩ := cut_ints ns none (some 8)
  rw [eX]
  walk_at "D"
  refine wr_cat (.cel rfl) (.cel rfl) (by rw [List.length_map]; simp only [List.length]; omega) ?_
  walk_at "D"
  walk_at "nr2"
  refine loop_cut (fun es ρ => ∃ (rest : List Int) (a1 a2 a3 a4 a5 a6 a7 a8 a9 a10 a11 a12 a13 a14 a15 : Option AV), es = rest.map D.int ∧ ρ = ⟨[some (.dat (.scr (ns.map D.int))), a1, a2, a3, a4, a5, a6, a7, a8, a9, a10, a11, a12, a13, a14, a15], [.oth (tabX T.tw_l_right (lamQ "_law_right")), .oth (tabX T.tw_l_odds (lamQ "_law_odds")), .drw, .lst (X.map D.int), .lst [.int 0, .int 1], .lst (X.map D.int ++ [.int 0, .int 1])]⟩) ⟨X ++ [0, 1], _, _, _, _, _, _, _, _, _, _, _, _, _, _, _, by rw [List.map_append]; rfl, rfl⟩ ?_ ?_
  · rintro ρ ⟨rest, a1, a2, a3, a4, a5, a6, a7, a8, a9, a10, a11, a12, a13, a14, a15, hm, rfl⟩
    refine ⟨.cel rfl, ?_⟩
    walk_at "D"
    exact fin_dat rfl q
  · rintro d es ρ ⟨rest, a1, a2, a3, a4, a5, a6, a7, a8, a9, a10, a11, a12, a13, a14, a15, hm, rfl⟩
    refine ⟨.cel rfl, ?_⟩
    cases rest with
    | nil => cases hm
    | cons c rest =>
    cases hm
    refine wg_name ?_
    refine ws_wipe [1, 3, 4, 5, 6, 7, 8, 9, 10, 11, 12, 13, 14, 15] ?_
    show WpS K F _ ⟨[some (.dat (.scr (ns.map D.int))), none, some (.dat (.int c)), none, none, none, none, none, none, none, none, none, none, none, none, none], [.oth (tabX T.tw_l_right (lamQ "_law_right")), .oth (tabX T.tw_l_odds (lamQ "_law_odds")), .drw, .lst (X.map D.int), .lst [.int 0, .int 1], .lst (X.map D.int ++ [.int 0, .int 1])]⟩ _
    refine ws_seqP (fun _ : Unit => True) (fun _ => ⟨[some (.dat (.scr (ns.map D.int))), some (.cel 6), some (.dat (.int c)), none, none, none, none, none, none, none, none, none, none, none, none, none], [.oth (tabX T.tw_l_right (lamQ "_law_right")), .oth (tabX T.tw_l_odds (lamQ "_law_odds")), .drw, .lst (X.map D.int), .lst [.int 0, .int 1], .lst (X.map D.int ++ [.int 0, .int 1]), .lst [.int c]]⟩) (fun _ _ => ?_) ?_
    rotate_left
    · walk_at "D"
      exact ⟨(), trivial, .tr .all⟩
    refine ws_seqP (fun m : Int => 0 ≤ m ∧ m ≤ 399) (fun m => ⟨[some (.dat (.scr (ns.map D.int))), some (.cel 6), some (.dat (.int c)), some (.dat (.int m)), none, none, none, none, none, none, none, none, none, none, none, none], [.oth (tabX T.tw_l_right (lamQ "_law_right")), .oth (tabX T.tw_l_odds (lamQ "_law_odds")), .drw, .lst (X.map D.int), .lst [.int 0, .int 1], .lst (X.map D.int ++ [.int 0, .int 1]), .drw]⟩) (fun m hm => ?_) ?_
    rotate_left
    · walk_at "D"
      refine wsp_drw (j := 6) rfl ?_
      walk_at "nr2"
      refine wsp_digit rfl (by decide) (by decide) fun u u0 u1 => ?_
      walk_at "D"
      refine wsp_digit rfl (by decide) (by decide) fun v v0 v1 => ?_
      walk_at "D"
      refine wsp_digit rfl (by decide) (by decide) fun z z0 z1 => ?_
      walk_at "D"
      refine wc_intB ?_
      by_cases y : z = 0
      · rw [show (if eqS (D.int z) (D.int 0) = true then (1 : Int) else 0) = 1 from if_pos (decide_eq_true y)]
        walk_at "D"
        exact ⟨100 + v, ⟨by omega, by omega⟩, .tr .cut⟩
      · rw [show (if eqS (D.int z) (D.int 0) = true then (1 : Int) else 0) = 0 from if_neg (fun h => y (of_decide_eq_true h))]
        walk_at "D"
        exact ⟨u, ⟨by omega, by omega⟩, .tr .cut⟩
    refine ws_seqP (fun kd : Int => 1 ≤ kd ∧ kd ≤ 9) (fun kd => ⟨[some (.dat (.scr (ns.map D.int))), some (.cel 6), some (.dat (.int c)), some (.dat (.int m)), some (.dat (.int kd)), none, none, none, none, none, none, none, none, none, none, none], [.oth (tabX T.tw_l_right (lamQ "_law_right")), .oth (tabX T.tw_l_odds (lamQ "_law_odds")), .drw, .lst (X.map D.int), .lst [.int 0, .int 1], .lst (X.map D.int ++ [.int 0, .int 1]), .drw]⟩) (fun kd hkd => ?_) ?_
    rotate_left
    · walk_at "D"
      refine wsp_digit rfl (by decide) (by decide) fun u u0 u1 => ?_
      walk_at "D"
      exact ⟨1 + u, ⟨by omega, by omega⟩, .tr .all⟩
    refine ws_seqP (fun bs : List Int => Byts bs ∧ bs.length ≤ 399) (fun bs => ⟨[some (.dat (.scr (ns.map D.int))), some (.cel 6), some (.dat (.int c)), some (.dat (.int m)), some (.dat (.int kd)), some (.dat (.lst (bs.map D.int))), none, none, none, none, none, none, none, none, none, none], [.oth (tabX T.tw_l_right (lamQ "_law_right")), .oth (tabX T.tw_l_odds (lamQ "_law_odds")), .drw, .lst (X.map D.int), .lst [.int 0, .int 1], .lst (X.map D.int ++ [.int 0, .int 1]), .drw]⟩) (fun bs hbs => ?_) ?_
    rotate_left
    · walk_at "D"
      walk_at "cd"
      refine ⟨m, rfl, rfl, by omega, by omega, fun bs hb lb => ⟨rfl, by rw [hards_int, Bool.or_true], ?_⟩⟩
      walk_at "D"
      exact ⟨bs, ⟨hb, by omega⟩, .fz 7 _ rfl .cut⟩
    obtain ⟨hb, lb⟩ := hbs
    refine ws_seqP (fun _ : Unit => True) (fun _ => ⟨[some (.dat (.scr (ns.map D.int))), some (.cel 6), some (.dat (.int c)), some (.dat (.int m)), some (.dat (.int kd)), some (.dat (.lst (bs.map D.int))), some (.dat (.lst (bs.map D.int))), none, none, none, none, none, none, none, none, none], [.oth (tabX T.tw_l_right (lamQ "_law_right")), .oth (tabX T.tw_l_odds (lamQ "_law_odds")), .drw, .lst (X.map D.int), .lst [.int 0, .int 1], .lst (X.map D.int ++ [.int 0, .int 1]), .drw]⟩) (fun _ _ => ?_) ?_
    rotate_left
    · walk_at "D"
      exact ⟨(), trivial, .fz 7 _ rfl .cut⟩
    refine ws_seqP (fun _ : Unit => True) (fun _ => ⟨[some (.dat (.scr (ns.map D.int))), some (.cel 6), some (.dat (.int c)), some (.dat (.int m)), some (.dat (.int kd)), some (.dat (.lst (bs.map D.int))), some (.dat (.lst (bs.map D.int))), some (.cel 7), none, none, none, none, none, none, none, none], [.oth (tabX T.tw_l_right (lamQ "_law_right")), .oth (tabX T.tw_l_odds (lamQ "_law_odds")), .drw, .lst (X.map D.int), .lst [.int 0, .int 1], .lst (X.map D.int ++ [.int 0, .int 1]), .drw, .lst ((boxedI kd bs).map D.int)]⟩) (fun _ _ => ?_) ?_
    rotate_left
    · walk_at "D"
      refine wsp_box hkd.1 hkd.2 hb (by omega) ?_
      walk_at "D"
      exact ⟨(), trivial, .tr .all⟩
    have lB := boxed_le kd bs (by omega)
    have lB0 := boxed_len kd bs
    have bB : Byts (boxedI kd bs) := boxedI_byts (by omega) (by omega) hb
    have fi : ∀ (i : Nat) (z : List Int), fine (i + 1) (.lst (z.map D.int)) = true := fun i z => by rw [fine]; exact fines_intsG i z
    refine ws_seqP (fun _ : Unit => True) (fun _ => ⟨[some (.dat (.scr (ns.map D.int))), some (.cel 6), some (.dat (.int c)), some (.dat (.int m)), some (.dat (.int kd)), some (.dat (.lst (bs.map D.int))), some (.dat (.lst (bs.map D.int))), some (.cel 7), none, none, none, none, none, none, none, none], [.oth (tabX T.tw_l_right (lamQ "_law_right")), .oth (tabX T.tw_l_odds (lamQ "_law_odds")), .drw, .lst (X.map D.int), .lst [.int 0, .int 1], .lst (X.map D.int ++ [.int 0, .int 1]), .drw, .lst ((boxedI kd bs).map D.int)]⟩) (fun _ _ => ?_) ?_
    rotate_left
    · walk_at "D"
      refine wsp_boxed hkd.1 hkd.2 hb (by omega) ?_
      walk_at "D"
      refine wr_neD 1 (by walk_at "od") (by walk_at "od") (fi 0 _) (fi 0 _) (by decide) ?_
      rw [self_int]
      walk_at "D"
      refine wr_neD 1 (by walk_at "od") (by walk_at "od") (fi 0 _) (fi 0 _) (by decide) ?_
      rw [self_int]
      walk_at "D"
      exact ⟨(), trivial, .tr .cut⟩
    refine ws_seqP (fun A : List Int => Byts A ∧ A.length ≤ 4) (fun A => ⟨[some (.dat (.scr (ns.map D.int))), some (.cel 6), some (.dat (.int c)), some (.dat (.int m)), some (.dat (.int kd)), some (.dat (.lst (bs.map D.int))), some (.dat (.lst (bs.map D.int))), some (.cel 7), some (.dat (.lst (A.map D.int))), none, none, none, none, none, none, none], [.oth (tabX T.tw_l_right (lamQ "_law_right")), .oth (tabX T.tw_l_odds (lamQ "_law_odds")), .drw, .lst (X.map D.int), .lst [.int 0, .int 1], .lst (X.map D.int ++ [.int 0, .int 1]), .drw, .lst ((boxedI kd bs).map D.int)]⟩) (fun A hA => ?_) ?_
    rotate_left
    · walk_at "D"
      refine wsp_digit rfl (by decide) (by decide) fun u u0 u1 => ?_
      walk_at "D"
      walk_at "cd"
      refine ⟨u, rfl, rfl, by omega, by omega, fun A hA lA => ⟨rfl, by rw [hards_int, Bool.or_true], ?_⟩⟩
      walk_at "D"
      exact ⟨A, ⟨hA, by omega⟩, .fz 8 _ rfl .cut⟩
    obtain ⟨hA, lA⟩ := hA
    refine ws_seqP (fun row : List Int => Byts row ∧ A.length < row.length ∧ row.length ≤ 900) (fun row => ⟨[some (.dat (.scr (ns.map D.int))), some (.cel 6), some (.dat (.int c)), some (.dat (.int m)), some (.dat (.int kd)), some (.dat (.lst (bs.map D.int))), some (.dat (.lst (bs.map D.int))), some (.cel 7), some (.dat (.lst (A.map D.int))), some (.dat (.lst (row.map D.int))), none, none, none, none, none, none], [.oth (tabX T.tw_l_right (lamQ "_law_right")), .oth (tabX T.tw_l_odds (lamQ "_law_odds")), .drw, .lst (X.map D.int), .lst [.int 0, .int 1], .lst (X.map D.int ++ [.int 0, .int 1]), .drw, .lst ((boxedI kd bs).map D.int)]⟩) (fun row hrow => ?_) ?_
    rotate_left
    · walk_at "D"
      refine wr_cat (ds := A.map D.int) (es := (boxedI kd bs).map D.int) (.dat _) (.cel rfl) (by rw [List.length_map, List.length_map]; omega) ?_
      walk_at "D"
      refine wsp_digit rfl (by decide) (by decide) fun u u0 u1 => ?_
      walk_at "D"
      walk_at "cd"
      refine ⟨u, rfl, rfl, by omega, by omega, fun Z hZ lZ => ⟨rfl, by rw [hards_int, Bool.or_true], ?_⟩⟩
      walk_at "D"
      refine wr_cat (ds := A.map D.int ++ (boxedI kd bs).map D.int) (es := Z.map D.int) (.cel rfl) (.cel rfl) (by rw [List.length_append, List.length_map, List.length_map, List.length_map]; omega) ?_
      rw [← List.map_append, ← List.map_append]
      walk_at "D"
      exact ⟨A ++ boxedI kd bs ++ Z, ⟨Byts.cat (Byts.cat hA bB) hZ, by rw [List.length_append, List.length_append]; omega, by rw [List.length_append, List.length_append]; omega⟩, .fz 10 _ rfl .cut⟩
    obtain ⟨hrow, lr0, lr1⟩ := hrow
    refine ws_seqP (fun p : Nat => p < row.length) (fun p => ⟨[some (.dat (.scr (ns.map D.int))), some (.cel 6), some (.dat (.int c)), some (.dat (.int m)), some (.dat (.int kd)), some (.dat (.lst (bs.map D.int))), some (.dat (.lst (bs.map D.int))), some (.cel 7), some (.dat (.lst (A.map D.int))), some (.dat (.lst (row.map D.int))), some (.dat (.int (p : Int))), none, none, none, none, none], [.oth (tabX T.tw_l_right (lamQ "_law_right")), .oth (tabX T.tw_l_odds (lamQ "_law_odds")), .drw, .lst (X.map D.int), .lst [.int 0, .int 1], .lst (X.map D.int ++ [.int 0, .int 1]), .drw, .lst ((boxedI kd bs).map D.int)]⟩) (fun p hp => ?_) ?_
    rotate_left
    · walk_at "D"
      rw [List.length_map]
      refine wsp_digit rfl (by omega) (by omega) fun u u0 u1 => ?_
      obtain ⟨p, rfl⟩ : ∃ p : Nat, u = p := ⟨u.toNat, by omega⟩
      walk_at "D"
      exact ⟨p, by omega, .tr .all⟩
    refine ws_seqP (fun y : Int => 0 ≤ y ∧ y ≤ 255) (fun y => ⟨[some (.dat (.scr (ns.map D.int))), some (.cel 6), some (.dat (.int c)), some (.dat (.int m)), some (.dat (.int kd)), some (.dat (.lst (bs.map D.int))), some (.dat (.lst (bs.map D.int))), some (.cel 7), some (.dat (.lst (A.map D.int))), some (.dat (.lst (row.map D.int))), some (.dat (.int (p : Int))), some (.dat (.int y)), none, none, none, none], [.oth (tabX T.tw_l_right (lamQ "_law_right")), .oth (tabX T.tw_l_odds (lamQ "_law_odds")), .drw, .lst (X.map D.int), .lst [.int 0, .int 1], .lst (X.map D.int ++ [.int 0, .int 1]), .drw, .lst ((boxedI kd bs).map D.int)]⟩) (fun y hy => ?_) ?_
    rotate_left
    · walk_at "D"
      refine wsp_digit rfl (by decide) (by decide) fun u u0 u1 => ?_
      walk_at "D"
      exact ⟨u, ⟨u0, by omega⟩, .tr .all⟩
    refine ws_seqP (fun js : List Nat => js.length ≤ 4) (fun js => ⟨[some (.dat (.scr (ns.map D.int))), some (.cel 6), some (.dat (.int c)), some (.dat (.int m)), some (.dat (.int kd)), some (.dat (.lst (bs.map D.int))), some (.dat (.lst (bs.map D.int))), some (.cel 7), some (.dat (.lst (A.map D.int))), some (.dat (.lst (row.map D.int))), some (.dat (.int (p : Int))), some (.dat (.int y)), some (.dat (.lst (js.map fun j : Nat => D.int (j : Int)))), none, none, none], [.oth (tabX T.tw_l_right (lamQ "_law_right")), .oth (tabX T.tw_l_odds (lamQ "_law_odds")), .drw, .lst (X.map D.int), .lst [.int 0, .int 1], .lst (X.map D.int ++ [.int 0, .int 1]), .drw, .lst ((boxedI kd bs).map D.int)]⟩) (fun js hjs => ?_) ?_
    rotate_left
    · walk_at "D"
      rw [List.length_map]
      refine wsp_digit rfl (by omega) (by omega) fun u u0 u1 => ?_
      obtain ⟨u, rfl⟩ : ∃ p : Nat, u = p := ⟨u.toNat, by omega⟩
      walk_at "D"
      rw [List.length_map, List.length_map]
      exact ⟨[0, A.length, u, row.length], Nat.le_refl 4, .fz 8 _ rfl .cut⟩
    refine ws_seqP (fun _ : Unit => True) (fun _ => ⟨[some (.dat (.scr (ns.map D.int))), some (.cel 6), some (.dat (.int c)), some (.dat (.int m)), some (.dat (.int kd)), some (.dat (.lst (bs.map D.int))), some (.dat (.lst (bs.map D.int))), some (.cel 7), some (.dat (.lst (A.map D.int))), some (.dat (.lst (row.map D.int))), some (.dat (.int (p : Int))), some (.dat (.int y)), some (.dat (.lst (js.map fun j : Nat => D.int (j : Int)))), none, none, none], [.oth (tabX T.tw_l_right (lamQ "_law_right")), .oth (tabX T.tw_l_odds (lamQ "_law_odds")), .drw, .lst (X.map D.int), .lst [.int 0, .int 1], .lst (X.map D.int ++ [.int 0, .int 1]), .drw, .lst ((boxedI kd bs).map D.int ++ [.int 7])]⟩) (fun _ _ => ?_) ?_
    rotate_left
    · walk_at "D"
      · rw [List.length_map]; omega
      walk_at "D"
      exact ⟨(), trivial, .tr .all⟩
    obtain ⟨U, eU⟩ : ∃ U, U = cutI row none (some (p : Int)) := ⟨_, rfl⟩
    obtain ⟨V, eV⟩ : ∃ V, V = cutI row (some (p : Int)) none := ⟨_, rfl⟩
    obtain ⟨V1, eV1⟩ : ∃ V1, V1 = cutI row (some ((p : Int) + 1)) none := ⟨_, rfl⟩
    have lU : U.length ≤ 900 := by rw [eU]; exact Nat.le_trans (cutI_len _ _ _) lr1
    have lV : V.length ≤ 900 := by rw [eV]; exact Nat.le_trans (cutI_len _ _ _) lr1
    have lV1 : V1.length ≤ 900 := by rw [eV1]; exact Nat.le_trans (cutI_len _ _ _) lr1
    have bU : Byts U := fun x hx => by rw [eU] at hx; exact hrow x (cutI_mem hx)
    have bV : Byts V := fun x hx => by rw [eV] at hx; exact hrow x (cutI_mem hx)
    have bV1 : Byts V1 := fun x hx => by rw [eV1] at hx; exact hrow x (cutI_mem hx)
    have eU' := cut_int row none (some (p : Int))
    have eV' := cut_int row (some (p : Int)) none
    have eV1' := cut_int row (some ((p : Int) + 1)) none
    rw [← eU] at eU'
    rw [← eV] at eV'
    rw [← eV1] at eV1'
    clear eU eV eV1
    refine ws_seqP (fun rs : List (List Int) => ∀ r ∈ rs, Byts r ∧ r.length ≤ 2000) (fun rs => ⟨[some (.dat (.scr (ns.map D.int))), some (.cel 6), some (.dat (.int c)), some (.dat (.int m)), some (.dat (.int kd)), some (.dat (.lst (bs.map D.int))), some (.dat (.lst (bs.map D.int))), some (.cel 7), some (.dat (.lst (A.map D.int))), some (.dat (.lst (row.map D.int))), some (.dat (.int (p : Int))), some (.dat (.int y)), some (.dat (.lst (js.map fun j : Nat => D.int (j : Int)))), some (.dat (.lst (rs.map fun r : List Int => D.lst (r.map D.int)))), none, none], [.oth (tabX T.tw_l_right (lamQ "_law_right")), .oth (tabX T.tw_l_odds (lamQ "_law_odds")), .drw, .lst (X.map D.int), .lst [.int 0, .int 1], .lst (X.map D.int ++ [.int 0, .int 1]), .drw, .lst ((boxedI kd bs).map D.int ++ [.int 7])]⟩) (fun rs hrs => ?_) ?_
    rotate_left
    · walk_at "D"
      rw [eU']
      walk_at "nrm"
      walk_at "D"
      walk_at "nrm"
      refine wr_cat (ds := U.map D.int) (es := [.int y]) (.cel rfl) (.cel rfl) (by rw [List.length_map]; simp only [List.length]; omega) ?_
      walk_at "nrm"
      walk_at "D"
      rw [eV1']
      walk_at "nrm"
      walk_at "D"
      walk_at "nrm"
      refine wr_cat (ds := U.map D.int ++ [.int y]) (es := V1.map D.int) (.cel rfl) (.cel rfl) (by rw [List.length_append, List.length_map, List.length_map]; simp only [List.length]; omega) ?_
      walk_at "nrm"
      walk_at "D"
      rw [eU']
      walk_at "D"
      rw [eV1']
      walk_at "nrm"
      walk_at "D"
      walk_at "nrm"
      refine wr_cat (ds := U.map D.int) (es := V1.map D.int) (.cel rfl) (.cel rfl) (by rw [List.length_map, List.length_map]; omega) ?_
      walk_at "nrm"
      walk_at "D"
      rw [eU']
      walk_at "nrm"
      walk_at "D"
      walk_at "nrm"
      refine wr_cat (ds := U.map D.int) (es := [.int y]) (.cel rfl) (.cel rfl) (by rw [List.length_map]; simp only [List.length]; omega) ?_
      walk_at "nrm"
      walk_at "D"
      rw [eV']
      walk_at "nrm"
      walk_at "D"
      walk_at "nrm"
      refine wr_cat (ds := U.map D.int ++ [.int y]) (es := V.map D.int) (.cel rfl) (.cel rfl) (by rw [List.length_append, List.length_map, List.length_map]; simp only [List.length]; omega) ?_
      walk_at "nrm"
      walk_at "D"
      rw [show U.map D.int ++ [D.int y] ++ V1.map D.int = (U ++ [y] ++ V1).map D.int by rw [List.map_append, List.map_append]; rfl, show U.map D.int ++ [D.int y] ++ V.map D.int = (U ++ [y] ++ V).map D.int by rw [List.map_append, List.map_append]; rfl, ← List.map_append]
      refine ⟨[row, U ++ [y] ++ V1, U ++ V1, U ++ [y] ++ V, row], fun r hr => ?_, .fz 21 _ rfl .cut⟩
      simp only [List.mem_cons, List.not_mem_nil, or_false] at hr
      rcases hr with rfl | rfl | rfl | rfl | rfl
      · exact ⟨hrow, by omega⟩
      · exact ⟨Byts.cat (bU.app hy.1 hy.2) bV1, by rw [List.length_append, List.length_append]; simp only [List.length]; omega⟩
      · exact ⟨Byts.cat bU bV1, by rw [List.length_append]; omega⟩
      · exact ⟨Byts.cat (bU.app hy.1 hy.2) bV, by rw [List.length_append, List.length_append]; simp only [List.length]; omega⟩
      · exact ⟨hrow, by omega⟩
    refine ws_seqP (fun a : Option AV × Option AV => True) (fun a => ⟨[some (.dat (.scr (ns.map D.int))), some (.cel 6), some (.dat (.int c)), some (.dat (.int m)), some (.dat (.int kd)), some (.dat (.lst (bs.map D.int))), some (.dat (.lst (bs.map D.int))), some (.cel 7), some (.dat (.lst (A.map D.int))), some (.dat (.lst (row.map D.int))), some (.dat (.int (p : Int))), some (.dat (.int y)), some (.dat (.lst (js.map fun j : Nat => D.int (j : Int)))), some (.dat (.lst (rs.map fun r : List Int => D.lst (r.map D.int)))), a.1, a.2], [.oth (tabX T.tw_l_right (lamQ "_law_right")), .oth (tabX T.tw_l_odds (lamQ "_law_odds")), .drw, .lst (X.map D.int), .lst [.int 0, .int 1], .lst (X.map D.int ++ [.int 0, .int 1]), .drw, .lst ((boxedI kd bs).map D.int ++ [.int 7])]⟩) (fun a _ => ?_) ?_
    rotate_left
    · walk_at "D"
      refine loop_cut (fun es ρ => ∃ (rest2 : List (List Int)) (a14 a15 : Option AV), es = rest2.map (fun r : List Int => D.lst (r.map D.int)) ∧ (∀ r ∈ rest2, Byts r ∧ r.length ≤ 2000) ∧ ρ = ⟨[some (.dat (.scr (ns.map D.int))), some (.cel 6), some (.dat (.int c)), some (.dat (.int m)), some (.dat (.int kd)), some (.dat (.lst (bs.map D.int))), some (.dat (.lst (bs.map D.int))), some (.cel 7), some (.dat (.lst (A.map D.int))), some (.dat (.lst (row.map D.int))), some (.dat (.int (p : Int))), some (.dat (.int y)), some (.dat (.lst (js.map fun j : Nat => D.int (j : Int)))), some (.dat (.lst (rs.map fun r : List Int => D.lst (r.map D.int)))), a14, a15], [.oth (tabX T.tw_l_right (lamQ "_law_right")), .oth (tabX T.tw_l_odds (lamQ "_law_odds")), .drw, .lst (X.map D.int), .lst [.int 0, .int 1], .lst (X.map D.int ++ [.int 0, .int 1]), .drw, .lst ((boxedI kd bs).map D.int ++ [.int 7])]⟩) ⟨rs, _, _, rfl, hrs, rfl⟩ ?_ ?_
      · rintro ρ ⟨rest2, a14, a15, _, _, rfl⟩
        exact ⟨.dat _, (a14, a15), trivial, .tr .all⟩
      · rintro d es ρ ⟨rest2, a14, a15, hm, hr2, rfl⟩
        refine ⟨.dat _, ?_⟩
        cases rest2 with
        | nil => cases hm
        | cons r rest2 =>
        obtain ⟨rfl, rfl⟩ := List.cons.inj hm
        obtain ⟨br, lr⟩ := hr2 r List.mem_cons_self
        walk_at "D"
        walk_at "nr4"
        refine loopC_by (fun es ρ => ∃ (done rest3 : List Nat), js = done ++ rest3 ∧ es = rest3.map (fun j : Nat => D.int (j : Int)) ∧ ρ = ⟨[some (.dat (.scr (ns.map D.int))), some (.cel 6), some (.dat (.int c)), some (.dat (.int m)), some (.dat (.int kd)), some (.dat (.lst (bs.map D.int))), some (.dat (.lst (bs.map D.int))), some (.cel 7), some (.dat (.lst (A.map D.int))), some (.dat (.lst (row.map D.int))), some (.dat (.int (p : Int))), some (.dat (.int y)), some (.dat (.lst (js.map fun j : Nat => D.int (j : Int)))), some (.dat (.lst (rs.map fun r : List Int => D.lst (r.map D.int)))), some (.dat (.lst (r.map D.int))), none], [.oth (tabX T.tw_l_right (lamQ "_law_right")), .oth (tabX T.tw_l_odds (lamQ "_law_odds")), .drw, .lst (X.map D.int), .lst [.int 0, .int 1], .lst (X.map D.int ++ [.int 0, .int 1]), .drw, .lst ((boxedI kd bs).map D.int ++ [.int 7]), .lst (done.map fun j : Nat => D.int ((min j r.length : Nat) : Int))]⟩) ⟨[], js, rfl, rfl, rfl⟩ ?_ ?_
        · rintro ρ ⟨done, rest3, e1, e2, rfl⟩
          have e3 : rest3 = [] := by cases rest3 with | nil => rfl | cons => cases e2
          subst e3
          rw [List.append_nil] at e1
          subst e1
          refine ⟨.dat _, ?_⟩
          walk_at "D"
          refine wsp_frz (j := 8) rfl ?_
          walk_at "nr4"
          rw [show (js.map fun j : Nat => D.int ((min j r.length : Nat) : Int)) = (js.map fun j : Nat => min j r.length).map fun j : Nat => D.int (j : Int) by rw [List.map_map]; rfl]
          refine wsp_right (j := 0) rfl br lr (fun i hi => ?_) ?_
          · obtain ⟨i0, _, rfl⟩ := List.mem_map.mp hi
            exact Nat.min_le_right _ _
          walk_at "D"
          exact now ⟨rest2, _, _, rfl, fun x hx => hr2 x (List.mem_cons_of_mem _ hx), rfl⟩
        · rintro d es ρ ⟨done, rest3, e1, e2, rfl⟩
          refine ⟨.dat _, ?_⟩
          cases rest3 with
          | nil => cases e2
          | cons j rest3 =>
          obtain ⟨rfl, rfl⟩ := List.cons.inj e2
          walk_at "D"
          rw [List.length_map]
          refine wc_min2 ?_
          walk_at "D"
          · have := congrArg List.length e1
            rw [List.length_append] at this
            rw [List.length_map]; omega
          rw [show (if (r.length : Int) < (j : Int) then (r.length : Int) else (j : Int)) = ((min j r.length : Nat) : Int) by rw [Nat.min_def]; split <;> split <;> omega]
          refine now ⟨done ++ [j], rest3, by rw [e1, List.append_assoc]; rfl, rfl, ?_⟩
          rw [List.map_append]
          rfl
    obtain ⟨a14, a15⟩ := a
    refine ws_wipe [14, 15] ?_
    show WpS K F _ ⟨[some (.dat (.scr (ns.map D.int))), some (.cel 6), some (.dat (.int c)), some (.dat (.int m)), some (.dat (.int kd)), some (.dat (.lst (bs.map D.int))), some (.dat (.lst (bs.map D.int))), some (.cel 7), some (.dat (.lst (A.map D.int))), some (.dat (.lst (row.map D.int))), some (.dat (.int (p : Int))), some (.dat (.int y)), some (.dat (.lst (js.map fun j : Nat => D.int (j : Int)))), some (.dat (.lst (rs.map fun r : List Int => D.lst (r.map D.int)))), none, none], [.oth (tabX T.tw_l_right (lamQ "_law_right")), .oth (tabX T.tw_l_odds (lamQ "_law_odds")), .drw, .lst (X.map D.int), .lst [.int 0, .int 1], .lst (X.map D.int ++ [.int 0, .int 1]), .drw, .lst ((boxedI kd bs).map D.int ++ [.int 7])]⟩ _
    refine ws_seqP (fun _ : Unit => True) (fun _ => ⟨[some (.dat (.scr (ns.map D.int))), some (.cel 6), some (.dat (.int c)), some (.dat (.int m)), some (.dat (.int kd)), some (.dat (.lst (bs.map D.int))), some (.dat (.lst (bs.map D.int))), some (.cel 7), some (.dat (.lst (A.map D.int))), some (.dat (.lst (row.map D.int))), some (.dat (.int (p : Int))), some (.dat (.int y)), some (.dat (.lst (js.map fun j : Nat => D.int (j : Int)))), some (.dat (.lst (rs.map fun r : List Int => D.lst (r.map D.int)))), none, none], [.oth (tabX T.tw_l_right (lamQ "_law_right")), .oth (tabX T.tw_l_odds (lamQ "_law_odds")), .drw, .lst (X.map D.int), .lst [.int 0, .int 1], .lst (X.map D.int ++ [.int 0, .int 1]), .drw, .lst ((boxedI kd bs).map D.int ++ [.int 7])]⟩) (fun _ _ => ?_) ?_
    rotate_left
    · walk_at "D"
      refine wsp_box hkd.1 hkd.2 hb (by omega) ?_
      walk_at "D"
      refine wsp_boxed hkd.1 hkd.2 hb (by omega) ?_
      walk_at "D"
      refine wr_neD 1 (by walk_at "od") (by walk_at "od") (fi 0 _) (fi 0 _) (by decide) ?_
      rw [self_int]
      walk_at "D"
      refine we_call1 (x := .dat (.int 0)) (fun _ _ => Rep.int 0) ?_
      walk_at "D"
      refine wsp_boxed hkd.1 hkd.2 hb (by omega) ?_
      walk_at "D"
      refine wsp_frz (j := 10) rfl ?_
      walk_at "nr4"
      walk_at "c"
      refine w_box_at (ns := boxedI kd bs) (j := 0) bB (by omega) (Nat.zero_le _) ⟨rfl, ?_⟩
      rw [List.drop_zero, boxed_rd hkd.1 hkd.2 (by omega)]
      walk_at "D"
      rw [List.length_append, List.length_map, show (((boxedI kd bs).length + [D.int 7].length : Nat) : Int) - 1 = ((boxedI kd bs).length : Int) by simp only [List.length]; omega]
      have ee : resBx (boxedI kd bs).length (some (kd, bs, [])) = .tup [.int kd, .lst (bs.map D.int), .int ((boxedI kd bs).length : Int)] := by
        show D.tup [.int kd, .lst (bs.map D.int), .int (((boxedI kd bs).length : Int) - ((0 : Nat) : Int))] = _
        rw [show ((boxedI kd bs).length : Int) - ((0 : Nat) : Int) = ((boxedI kd bs).length : Int) by omega]
      rw [ee]
      have ff : fine 2 (.tup [.int kd, .lst (bs.map D.int), .int ((boxedI kd bs).length : Int)]) = true := by
        show (true && (fine 1 (.lst (bs.map D.int)) && (true && true))) = true
        rw [fi]
        rfl
      have fb : noB (.tup [.int kd, .lst (bs.map D.int), .int ((boxedI kd bs).length : Int)]) = true := by
        show (true && (noBs (bs.map D.int) && (true && true))) = true
        rw [noBs_intsG]
        rfl
      refine wr_neD 2 (.dat _) (.dat _) ff ff (by decide) ?_
      rw [(eqD_iff _ _ fb fb).mpr rfl]
      walk_at "D"
      exact ⟨(), trivial, .tr .cut⟩
    walk_at "D"
    refine wsp_odds (j := 6) (t := 1) rfl rfl hrow (by omega) hb (by omega) ?_
    walk_at "D"
    exact now ⟨rest, _, _, _, _, _, _, _, _, _, _, _, _, _, _, _, rfl, rfl⟩
end
theorem all_mk {l : PySem.W.OpenLaw} {w : World} {K : PySem.W.Frag} {h : Heap} {mg : Str → Option Value} {fa : Addr} (X : K.In h) (G : h.Ns mainGlobals mg) (hfa : mg "law" = some (.ref fa))
    {f0 : Addr} {od0 an0 : Option Addr} {sl0 : Array (Option Value)} {oc0 kV0 dc0 pm0 cd0 ct0 : Value}
    (a0 : PySem.W.nsIn K mainGlobals "is_number" = some (some (.ref f0)))
    (l0 : K.lookup f0 = some ⟨oc0, od0, .func (PySem.W.fnOf "is_number" "is_number" (defArgs s_is_number) (defBody s_is_number) (defScope s_is_number) .none kV0 dc0 pm0 an0 cd0 ct0), sl0⟩) (c0 : PySem.W.codeIn K cd0 "is_number" = true) (k0 : PySem.W.keepIn K (.ref f0) = true)
    {f1 : Addr} {od1 an1 : Option Addr} {sl1 : Array (Option Value)} {oc1 kV1 dc1 pm1 cd1 ct1 : Value}
    (a1 : PySem.W.nsIn K mainGlobals "is_whole" = some (some (.ref f1)))
    (l1 : K.lookup f1 = some ⟨oc1, od1, .func (PySem.W.fnOf "is_whole" "is_whole" (defArgs s_is_whole) (defBody s_is_whole) (defScope s_is_whole) .none kV1 dc1 pm1 an1 cd1 ct1), sl1⟩) (c1 : PySem.W.codeIn K cd1 "is_whole" = true) (k1 : PySem.W.keepIn K (.ref f1) = true)
    {f2 : Addr} {od2 an2 : Option Addr} {sl2 : Array (Option Value)} {oc2 kV2 dc2 pm2 cd2 ct2 : Value}
    (a2 : PySem.W.nsIn K mainGlobals "is_bytes" = some (some (.ref f2)))
    (l2 : K.lookup f2 = some ⟨oc2, od2, .func (PySem.W.fnOf "is_bytes" "is_bytes" (defArgs s_is_bytes) (defBody s_is_bytes) (defScope s_is_bytes) .none kV2 dc2 pm2 an2 cd2 ct2), sl2⟩) (c2 : PySem.W.codeIn K cd2 "is_bytes" = true) (k2 : PySem.W.keepIn K (.ref f2) = true)
    {f3 : Addr} {od3 an3 : Option Addr} {sl3 : Array (Option Value)} {oc3 kV3 dc3 pm3 cd3 ct3 : Value}
    (a3 : PySem.W.nsIn K mainGlobals "refuse_no_bytes" = some (some (.ref f3)))
    (l3 : K.lookup f3 = some ⟨oc3, od3, .func (PySem.W.fnOf "refuse_no_bytes" "refuse_no_bytes" (defArgs s_refuse_no_bytes) (defBody s_refuse_no_bytes) (defScope s_refuse_no_bytes) .none kV3 dc3 pm3 an3 cd3 ct3), sl3⟩) (c3 : PySem.W.codeIn K cd3 "refuse_no_bytes" = true) (k3 : PySem.W.keepIn K (.ref f3) = true)
    {f4 : Addr} {od4 an4 : Option Addr} {sl4 : Array (Option Value)} {oc4 kV4 dc4 pm4 cd4 ct4 : Value}
    (a4 : PySem.W.nsIn K mainGlobals "refuse_no_place" = some (some (.ref f4)))
    (l4 : K.lookup f4 = some ⟨oc4, od4, .func (PySem.W.fnOf "refuse_no_place" "refuse_no_place" (defArgs s_refuse_no_place) (defBody s_refuse_no_place) (defScope s_refuse_no_place) .none kV4 dc4 pm4 an4 cd4 ct4), sl4⟩) (c4 : PySem.W.codeIn K cd4 "refuse_no_place" = true) (k4 : PySem.W.keepIn K (.ref f4) = true)
    {f5 : Addr} {od5 an5 : Option Addr} {sl5 : Array (Option Value)} {oc5 kV5 dc5 pm5 cd5 ct5 : Value}
    (a5 : PySem.W.nsIn K mainGlobals "written" = some (some (.ref f5)))
    (l5 : K.lookup f5 = some ⟨oc5, od5, .func (PySem.W.fnOf "written" "written" (defArgs s_written) (defBody s_written) (defScope s_written) .none kV5 dc5 pm5 an5 cd5 ct5), sl5⟩) (c5 : PySem.W.codeIn K cd5 "written" = true) (k5 : PySem.W.keepIn K (.ref f5) = true)
    {f6 : Addr} {od6 an6 : Option Addr} {sl6 : Array (Option Value)} {oc6 kV6 dc6 pm6 cd6 ct6 : Value}
    (a6 : PySem.W.nsIn K mainGlobals "number_at" = some (some (.ref f6)))
    (l6 : K.lookup f6 = some ⟨oc6, od6, .func (PySem.W.fnOf "number_at" "number_at" (defArgs s_number_at) (defBody s_number_at) (defScope s_number_at) .none kV6 dc6 pm6 an6 cd6 ct6), sl6⟩) (c6 : PySem.W.codeIn K cd6 "number_at" = true) (k6 : PySem.W.keepIn K (.ref f6) = true)
    {f7 : Addr} {od7 an7 : Option Addr} {sl7 : Array (Option Value)} {oc7 kV7 dc7 pm7 cd7 ct7 : Value}
    (a7 : PySem.W.nsIn K mainGlobals "check" = some (some (.ref f7)))
    (l7 : K.lookup f7 = some ⟨oc7, od7, .func (PySem.W.fnOf "check" "check" (defArgs s_check) (defBody s_check) (defScope s_check) .none kV7 dc7 pm7 an7 cd7 ct7), sl7⟩) (c7 : PySem.W.codeIn K cd7 "check" = true) (k7 : PySem.W.keepIn K (.ref f7) = true)
    {f8 : Addr} {od8 an8 : Option Addr} {sl8 : Array (Option Value)} {oc8 kV8 dc8 pm8 cd8 ct8 : Value}
    (a8 : PySem.W.nsIn K mainGlobals "stuffed" = some (some (.ref f8)))
    (l8 : K.lookup f8 = some ⟨oc8, od8, .func (PySem.W.fnOf "stuffed" "stuffed" (defArgs s_stuffed) (defBody s_stuffed) (defScope s_stuffed) .none kV8 dc8 pm8 an8 cd8 ct8), sl8⟩) (c8 : PySem.W.codeIn K cd8 "stuffed" = true) (k8 : PySem.W.keepIn K (.ref f8) = true)
    {f9 : Addr} {od9 an9 : Option Addr} {sl9 : Array (Option Value)} {oc9 kV9 dc9 pm9 cd9 ct9 : Value}
    {D9 : Addr} (y9 : PySem.W.nsIn K mainGlobals "Growing" = some (some (.ref D9))) (a9 : PySem.W.findIn K (.ref D9) "__init__" = some (some (.ref f9)))
    (l9 : K.lookup f9 = some ⟨oc9, od9, .func (PySem.W.fnOf "__init__" "Growing.__init__" (defArgs s_Growing_init) (defBody s_Growing_init) (defScope s_Growing_init) .none kV9 dc9 pm9 an9 cd9 ct9), sl9⟩) (c9 : PySem.W.codeIn K cd9 "Growing.__init__" = true) (k9 : PySem.W.keepIn K (.ref f9) = true)
    {f10 : Addr} {od10 an10 : Option Addr} {sl10 : Array (Option Value)} {oc10 kV10 dc10 pm10 cd10 ct10 : Value}
    {D10 : Addr} (y10 : PySem.W.nsIn K mainGlobals "Growing" = some (some (.ref D10))) (a10 : PySem.W.findIn K (.ref D10) "grow" = some (some (.ref f10)))
    (l10 : K.lookup f10 = some ⟨oc10, od10, .func (PySem.W.fnOf "grow" "Growing.grow" (defArgs s_Growing_grow) (defBody s_Growing_grow) (defScope s_Growing_grow) .none kV10 dc10 pm10 an10 cd10 ct10), sl10⟩) (c10 : PySem.W.codeIn K cd10 "Growing.grow" = true) (k10 : PySem.W.keepIn K (.ref f10) = true)
    {f11 : Addr} {od11 an11 : Option Addr} {sl11 : Array (Option Value)} {oc11 kV11 dc11 pm11 cd11 ct11 : Value}
    {D11 : Addr} (y11 : PySem.W.nsIn K mainGlobals "Growing" = some (some (.ref D11))) (a11 : PySem.W.findIn K (.ref D11) "measure" = some (some (.ref f11)))
    (l11 : K.lookup f11 = some ⟨oc11, od11, .func (PySem.W.fnOf "measure" "Growing.measure" (defArgs s_Growing_measure) (defBody s_Growing_measure) (defScope s_Growing_measure) .none kV11 dc11 pm11 an11 cd11 ct11), sl11⟩) (c11 : PySem.W.codeIn K cd11 "Growing.measure" = true) (k11 : PySem.W.keepIn K (.ref f11) = true)
    {f12 : Addr} {od12 an12 : Option Addr} {sl12 : Array (Option Value)} {oc12 kV12 dc12 pm12 cd12 ct12 : Value}
    {D12 : Addr} (y12 : PySem.W.nsIn K mainGlobals "Growing" = some (some (.ref D12))) (a12 : PySem.W.findIn K (.ref D12) "body" = some (some (.ref f12)))
    (l12 : K.lookup f12 = some ⟨oc12, od12, .func (PySem.W.fnOf "body" "Growing.body" (defArgs s_Growing_body) (defBody s_Growing_body) (defScope s_Growing_body) .none kV12 dc12 pm12 an12 cd12 ct12), sl12⟩) (c12 : PySem.W.codeIn K cd12 "Growing.body" = true) (k12 : PySem.W.keepIn K (.ref f12) = true)
    {f13 : Addr} {od13 an13 : Option Addr} {sl13 : Array (Option Value)} {oc13 kV13 dc13 pm13 cd13 ct13 : Value}
    {D13 : Addr} (y13 : PySem.W.nsIn K mainGlobals "Growing" = some (some (.ref D13))) (a13 : PySem.W.findIn K (.ref D13) "is_right" = some (some (.ref f13)))
    (l13 : K.lookup f13 = some ⟨oc13, od13, .func (PySem.W.fnOf "is_right" "Growing.is_right" (defArgs s_Growing_is_right) (defBody s_Growing_is_right) (defScope s_Growing_is_right) .none kV13 dc13 pm13 an13 cd13 ct13), sl13⟩) (c13 : PySem.W.codeIn K cd13 "Growing.is_right" = true) (k13 : PySem.W.keepIn K (.ref f13) = true)
    {f14 : Addr} {od14 an14 : Option Addr} {sl14 : Array (Option Value)} {oc14 kV14 dc14 pm14 cd14 ct14 : Value}
    (a14 : PySem.W.nsIn K mainGlobals "sum_of" = some (some (.ref f14)))
    (l14 : K.lookup f14 = some ⟨oc14, od14, .func (PySem.W.fnOf "sum_of" "sum_of" (defArgs s_sum_of) (defBody s_sum_of) (defScope s_sum_of) .none kV14 dc14 pm14 an14 cd14 ct14), sl14⟩) (c14 : PySem.W.codeIn K cd14 "sum_of" = true) (k14 : PySem.W.keepIn K (.ref f14) = true)
    {f15 : Addr} {od15 an15 : Option Addr} {sl15 : Array (Option Value)} {oc15 kV15 dc15 pm15 cd15 ct15 : Value}
    (a15 : PySem.W.nsIn K mainGlobals "box" = some (some (.ref f15)))
    (l15 : K.lookup f15 = some ⟨oc15, od15, .func (PySem.W.fnOf "box" "box" (defArgs s_box) (defBody s_box) (defScope s_box) .none kV15 dc15 pm15 an15 cd15 ct15), sl15⟩) (c15 : PySem.W.codeIn K cd15 "box" = true) (k15 : PySem.W.keepIn K (.ref f15) = true)
    {f16 : Addr} {od16 an16 : Option Addr} {sl16 : Array (Option Value)} {oc16 kV16 dc16 pm16 cd16 ct16 : Value}
    (a16 : PySem.W.nsIn K mainGlobals "standing_at" = some (some (.ref f16)))
    (l16 : K.lookup f16 = some ⟨oc16, od16, .func (PySem.W.fnOf "standing_at" "standing_at" (defArgs s_standing_at) (defBody s_standing_at) (defScope s_standing_at) .none kV16 dc16 pm16 an16 cd16 ct16), sl16⟩) (c16 : PySem.W.codeIn K cd16 "standing_at" = true) (k16 : PySem.W.keepIn K (.ref f16) = true)
    {f17 : Addr} {od17 an17 : Option Addr} {sl17 : Array (Option Value)} {oc17 kV17 dc17 pm17 cd17 ct17 : Value}
    {dT17 : Addr} {do17 : Obj} {dn17 : Nat}
    (a17 : PySem.W.nsIn K mainGlobals "box_at" = some (some (.ref f17)))
    {dt17_0 : Tok}
    (l17 : K.lookup f17 = some ⟨oc17, od17, .func (PySem.W.fnOf "box_at" "box_at" (defArgs s_box_at) (defBody s_box_at) (defScope s_box_at) (.ref dT17) kV17 dc17 pm17 an17 cd17 ct17), sl17⟩) (c17 : PySem.W.codeIn K cd17 "box_at" = true) (k17 : PySem.W.keepIn K (.ref f17) = true)
    (e17 : K.lookup dT17 = some do17) (q17 : do17.data = .seq #[.int 0 dt17_0] dn17)
    {f18 : Addr} {od18 an18 : Option Addr} {sl18 : Array (Option Value)} {oc18 kV18 dc18 pm18 cd18 ct18 : Value}
    (a18 : PySem.W.nsIn K mainGlobals "_law_cell_at" = some (some (.ref f18)))
    (l18 : K.lookup f18 = some ⟨oc18, od18, .func (PySem.W.fnOf "_law_cell_at" "_law_cell_at" (defArgs s_l_cell_at) (defBody s_l_cell_at) (defScope s_l_cell_at) .none kV18 dc18 pm18 an18 cd18 ct18), sl18⟩) (c18 : PySem.W.codeIn K cd18 "_law_cell_at" = true) (k18 : PySem.W.keepIn K (.ref f18) = true)
    {f19 : Addr} {od19 an19 : Option Addr} {sl19 : Array (Option Value)} {oc19 kV19 dc19 pm19 cd19 ct19 : Value}
    (a19 : PySem.W.nsIn K mainGlobals "_law_digit" = some (some (.ref f19)))
    (l19 : K.lookup f19 = some ⟨oc19, od19, .func (PySem.W.fnOf "_law_digit" "_law_digit" (defArgs s_l_digit) (defBody s_l_digit) (defScope s_l_digit) .none kV19 dc19 pm19 an19 cd19 ct19), sl19⟩) (c19 : PySem.W.codeIn K cd19 "_law_digit" = true) (k19 : PySem.W.keepIn K (.ref f19) = true)
    {f20 : Addr} {od20 an20 : Option Addr} {sl20 : Array (Option Value)} {oc20 kV20 dc20 pm20 cd20 ct20 : Value}
    (a20 : PySem.W.nsIn K mainGlobals "_law_figures" = some (some (.ref f20)))
    (l20 : K.lookup f20 = some ⟨oc20, od20, .func (PySem.W.fnOf "_law_figures" "_law_figures" (defArgs s_l_figures) (defBody s_l_figures) (defScope s_l_figures) .none kV20 dc20 pm20 an20 cd20 ct20), sl20⟩) (c20 : PySem.W.codeIn K cd20 "_law_figures" = true) (k20 : PySem.W.keepIn K (.ref f20) = true)
    {f21 : Addr} {od21 an21 : Option Addr} {sl21 : Array (Option Value)} {oc21 kV21 dc21 pm21 cd21 ct21 : Value}
    (a21 : PySem.W.nsIn K mainGlobals "_law_number_at" = some (some (.ref f21)))
    (l21 : K.lookup f21 = some ⟨oc21, od21, .func (PySem.W.fnOf "_law_number_at" "_law_number_at" (defArgs s_l_number_at) (defBody s_l_number_at) (defScope s_l_number_at) .none kV21 dc21 pm21 an21 cd21 ct21), sl21⟩) (c21 : PySem.W.codeIn K cd21 "_law_number_at" = true) (k21 : PySem.W.keepIn K (.ref f21) = true)
    {f22 : Addr} {od22 an22 : Option Addr} {sl22 : Array (Option Value)} {oc22 kV22 dc22 pm22 cd22 ct22 : Value}
    (a22 : PySem.W.nsIn K mainGlobals "_law_odd_row" = some (some (.ref f22)))
    (l22 : K.lookup f22 = some ⟨oc22, od22, .func (PySem.W.fnOf "_law_odd_row" "_law_odd_row" (defArgs s_l_odd_row) (defBody s_l_odd_row) (defScope s_l_odd_row) .none kV22 dc22 pm22 an22 cd22 ct22), sl22⟩) (c22 : PySem.W.codeIn K cd22 "_law_odd_row" = true) (k22 : PySem.W.keepIn K (.ref f22) = true)
    {f23 : Addr} {od23 an23 : Option Addr} {sl23 : Array (Option Value)} {oc23 kV23 dc23 pm23 cd23 ct23 : Value}
    (a23 : PySem.W.nsIn K mainGlobals "_law_bytes" = some (some (.ref f23)))
    (l23 : K.lookup f23 = some ⟨oc23, od23, .func (PySem.W.fnOf "_law_bytes" "_law_bytes" (defArgs s_l_bytes) (defBody s_l_bytes) (defScope s_l_bytes) .none kV23 dc23 pm23 an23 cd23 ct23), sl23⟩) (c23 : PySem.W.codeIn K cd23 "_law_bytes" = true) (k23 : PySem.W.keepIn K (.ref f23) = true)
    {f24 : Addr} {od24 an24 : Option Addr} {sl24 : Array (Option Value)} {oc24 kV24 dc24 pm24 cd24 ct24 : Value}
    (a24 : PySem.W.nsIn K mainGlobals "_law_sum" = some (some (.ref f24)))
    (l24 : K.lookup f24 = some ⟨oc24, od24, .func (PySem.W.fnOf "_law_sum" "_law_sum" (defArgs s_l_sum) (defBody s_l_sum) (defScope s_l_sum) .none kV24 dc24 pm24 an24 cd24 ct24), sl24⟩) (c24 : PySem.W.codeIn K cd24 "_law_sum" = true) (k24 : PySem.W.keepIn K (.ref f24) = true)
    {f25 : Addr} {od25 an25 : Option Addr} {sl25 : Array (Option Value)} {oc25 kV25 dc25 pm25 cd25 ct25 : Value}
    (a25 : PySem.W.nsIn K mainGlobals "_law_stuffed" = some (some (.ref f25)))
    (l25 : K.lookup f25 = some ⟨oc25, od25, .func (PySem.W.fnOf "_law_stuffed" "_law_stuffed" (defArgs s_l_stuffed) (defBody s_l_stuffed) (defScope s_l_stuffed) .none kV25 dc25 pm25 an25 cd25 ct25), sl25⟩) (c25 : PySem.W.codeIn K cd25 "_law_stuffed" = true) (k25 : PySem.W.keepIn K (.ref f25) = true)
    {f26 : Addr} {od26 an26 : Option Addr} {sl26 : Array (Option Value)} {oc26 kV26 dc26 pm26 cd26 ct26 : Value}
    (a26 : PySem.W.nsIn K mainGlobals "_law_boxed" = some (some (.ref f26)))
    (l26 : K.lookup f26 = some ⟨oc26, od26, .func (PySem.W.fnOf "_law_boxed" "_law_boxed" (defArgs s_l_boxed) (defBody s_l_boxed) (defScope s_l_boxed) .none kV26 dc26 pm26 an26 cd26 ct26), sl26⟩) (c26 : PySem.W.codeIn K cd26 "_law_boxed" = true) (k26 : PySem.W.keepIn K (.ref f26) = true)
    {f27 : Addr} {od27 an27 : Option Addr} {sl27 : Array (Option Value)} {oc27 kV27 dc27 pm27 cd27 ct27 : Value}
    (a27 : PySem.W.nsIn K mainGlobals "_law_contents" = some (some (.ref f27)))
    (l27 : K.lookup f27 = some ⟨oc27, od27, .func (PySem.W.fnOf "_law_contents" "_law_contents" (defArgs s_l_contents) (defBody s_l_contents) (defScope s_l_contents) .none kV27 dc27 pm27 an27 cd27 ct27), sl27⟩) (c27 : PySem.W.codeIn K cd27 "_law_contents" = true) (k27 : PySem.W.keepIn K (.ref f27) = true)
    {f28 : Addr} {od28 an28 : Option Addr} {sl28 : Array (Option Value)} {oc28 kV28 dc28 pm28 cd28 ct28 : Value}
    (a28 : PySem.W.nsIn K mainGlobals "_law_box_at" = some (some (.ref f28)))
    (l28 : K.lookup f28 = some ⟨oc28, od28, .func (PySem.W.fnOf "_law_box_at" "_law_box_at" (defArgs s_l_box_at) (defBody s_l_box_at) (defScope s_l_box_at) .none kV28 dc28 pm28 an28 cd28 ct28), sl28⟩) (c28 : PySem.W.codeIn K cd28 "_law_box_at" = true) (k28 : PySem.W.keepIn K (.ref f28) = true)
    {f29 : Addr} {od29 an29 : Option Addr} {sl29 : Array (Option Value)} {oc29 kV29 dc29 pm29 cd29 ct29 : Value}
    (a29 : PySem.W.nsIn K mainGlobals "_law_word" = some (some (.ref f29)))
    (l29 : K.lookup f29 = some ⟨oc29, od29, .func (PySem.W.fnOf "_law_word" "_law_word" (defArgs s_l_word) (defBody s_l_word) (defScope s_l_word) .none kV29 dc29 pm29 an29 cd29 ct29), sl29⟩) (c29 : PySem.W.codeIn K cd29 "_law_word" = true) (k29 : PySem.W.keepIn K (.ref f29) = true)
    {f30 : Addr} {od30 an30 : Option Addr} {sl30 : Array (Option Value)} {oc30 kV30 dc30 pm30 ct30 : Value} {cw30 tw30 : Addr} {oo30 : Obj}
    (a30 : PySem.W.nsIn K mainGlobals "_law_right" = some (some (.ref f30)))
    (l30 : K.lookup f30 = some ⟨oc30, od30, .func (PySem.W.fnOf "_law_right" "_law_right" (defArgs s_l_right) (defBody s_l_right) (defScope s_l_right) .none kV30 dc30 pm30 an30 (.ref cw30) ct30), sl30⟩) (c30 : PySem.W.codeIn K (.ref cw30) "_law_right" = true) (k30 : PySem.W.keepIn K (.ref f30) = true)
    {f31 : Addr} {od31 an31 : Option Addr} {sl31 : Array (Option Value)} {oc31 kV31 dc31 pm31 ct31 : Value} {cw31 tw31 : Addr} {oo31 : Obj}
    (a31 : PySem.W.nsIn K mainGlobals "_law_odds" = some (some (.ref f31)))
    (l31 : K.lookup f31 = some ⟨oc31, od31, .func (PySem.W.fnOf "_law_odds" "_law_odds" (defArgs s_l_odds) (defBody s_l_odds) (defScope s_l_odds) .none kV31 dc31 pm31 an31 (.ref cw31) ct31), sl31⟩) (c31 : PySem.W.codeIn K (.ref cw31) "_law_odds" = true) (k31 : PySem.W.keepIn K (.ref f31) = true)
    {f32 : Addr} {od32 an32 : Option Addr} {sl32 : Array (Option Value)} {oc32 kV32 dc32 pm32 cd32 ct32 : Value}
    (a32 : PySem.W.nsIn K mainGlobals "_law_great" = some (some (.ref f32)))
    (l32 : K.lookup f32 = some ⟨oc32, od32, .func (PySem.W.fnOf "_law_great" "_law_great" (defArgs s_l_great) (defBody s_l_great) (defScope s_l_great) .none kV32 dc32 pm32 an32 cd32 ct32), sl32⟩) (c32 : PySem.W.codeIn K cd32 "_law_great" = true) (k32 : PySem.W.keepIn K (.ref f32) = true)
    {f33 : Addr} {od33 an33 : Option Addr} {sl33 : Array (Option Value)} {oc33 kV33 dc33 pm33 cd33 ct33 : Value}
    (a33 : PySem.W.nsIn K mainGlobals "law" = some (some (.ref f33)))
    (l33 : K.lookup f33 = some ⟨oc33, od33, .func (PySem.W.fnOf "law" "law" (defArgs s_law) (defBody s_law) (defScope s_law) .none kV33 dc33 pm33 an33 cd33 ct33), sl33⟩) (c33 : PySem.W.codeIn K cd33 "law" = true) (k33 : PySem.W.keepIn K (.ref f33) = true)
    (z_bool : PySem.W.nsIn K mainGlobals "bool" = some none)
    (z_divmod : PySem.W.nsIn K mainGlobals "divmod" = some none)
    (z_int : PySem.W.nsIn K mainGlobals "int" = some none)
    (z_isinstance : PySem.W.nsIn K mainGlobals "isinstance" = some none)
    (z_len : PySem.W.nsIn K mainGlobals "len" = some none)
    (z_list : PySem.W.nsIn K mainGlobals "list" = some none)
    (z_min : PySem.W.nsIn K mainGlobals "min" = some none)
    (z_range : PySem.W.nsIn K mainGlobals "range" = some none)
    (z_tuple : PySem.W.nsIn K mainGlobals "tuple" = some none)
    {ct_GREATEST_NUMBER : Tok} (g_GREATEST_NUMBER : PySem.W.nsIn K mainGlobals "GREATEST_NUMBER" = some (some (.int 1000000000000000000000000000000000000000000000000000000000000 ct_GREATEST_NUMBER)))
    {ct_BASE : Tok} (g_BASE : PySem.W.nsIn K mainGlobals "BASE" = some (some (.int 128 ct_BASE)))
    {ct_STUFFING : Tok} (g_STUFFING : PySem.W.nsIn K mainGlobals "STUFFING" = some (some (.int 2 ct_STUFFING)))
    {ca_START : Addr} {co_START : Obj} {cn_START : Nat} {cx_START_0 cx_START_1 cx_START_2 : Tok}
    (g_START : PySem.W.nsIn K mainGlobals "START" = some (some (.ref ca_START))) (e_START : K.lookup ca_START = some co_START) (qc_START : co_START.cls = .type "tuple") (q_START : co_START.data = .seq #[.int 0 cx_START_0, .int 0 cx_START_1, .int 1 cx_START_2] cn_START)
    {ct_END : Tok} (g_END : PySem.W.nsIn K mainGlobals "END" = some (some (.int 255 ct_END)))
    {ct_LEAST_KIND : Tok} (g_LEAST_KIND : PySem.W.nsIn K mainGlobals "LEAST_KIND" = some (some (.int 1 ct_LEAST_KIND)))
    {ct_GREATEST_KIND : Tok} (g_GREATEST_KIND : PySem.W.nsIn K mainGlobals "GREATEST_KIND" = some (some (.int 9 ct_GREATEST_KIND)))
    {ct_LONGEST_BODY : Tok} (g_LONGEST_BODY : PySem.W.nsIn K mainGlobals "LONGEST_BODY" = some (some (.int 60000 ct_LONGEST_BODY)))
    {ct_LONGEST_LENGTH : Tok} (g_LONGEST_LENGTH : PySem.W.nsIn K mainGlobals "LONGEST_LENGTH" = some (some (.int 3 ct_LONGEST_LENGTH)))
    {C_ScrollError : Addr} (g_ScrollError : PySem.W.nsIn K mainGlobals "ScrollError" = some (some (.ref C_ScrollError)))
    {C_NoNumber : Addr} (g_NoNumber : PySem.W.nsIn K mainGlobals "NoNumber" = some (some (.ref C_NoNumber)))
    (x_NoNumber : PySem.W.excIn K C_NoNumber [.type "ValueError", .type "Exception", .type "BaseException", .type "object"] "ValueError.__new__" = true) (kc_NoNumber : PySem.W.keepIn K (.ref C_NoNumber) = true) (bb_NoNumber : PySem.W.subIn K (.ref C_NoNumber) (.type "BaseException") = some true) (t_NoNumber : PySem.W.typeIn K (.ref C_NoNumber) = some (.type "type"))
    (xa_NoNumber : PySem.W.findIn K (.ref C_NoNumber) "__getattribute__" = some (some (.builtin "BaseException.__getattribute__"))) (xb_NoNumber : PySem.W.findIn K (.ref C_NoNumber) "__getattr__" = some none) (xc_NoNumber : PySem.W.hasDictIn K C_NoNumber = true) (xd_NoNumber : PySem.W.findIn K (.ref C_NoNumber) "__class__" = some (some (.builtin "object.__class__")))
    (xe_NoNumber : PySem.W.specialIn K (.builtin "object.__class__") "__get__" = some (some (.builtin "getset_descriptor.__get__"))) (xf_NoNumber : PySem.W.takesIn K (.builtin "object.__class__") = some true) (xg_NoNumber : PySem.W.mroIn K C_NoNumber (.type "object") = some true)
    {C_NoBytes : Addr} (g_NoBytes : PySem.W.nsIn K mainGlobals "NoBytes" = some (some (.ref C_NoBytes)))
    (x_NoBytes : PySem.W.excIn K C_NoBytes [.type "ValueError", .type "Exception", .type "BaseException", .type "object"] "ValueError.__new__" = true) (kc_NoBytes : PySem.W.keepIn K (.ref C_NoBytes) = true) (bb_NoBytes : PySem.W.subIn K (.ref C_NoBytes) (.type "BaseException") = some true) (t_NoBytes : PySem.W.typeIn K (.ref C_NoBytes) = some (.type "type"))
    (xa_NoBytes : PySem.W.findIn K (.ref C_NoBytes) "__getattribute__" = some (some (.builtin "BaseException.__getattribute__"))) (xb_NoBytes : PySem.W.findIn K (.ref C_NoBytes) "__getattr__" = some none) (xc_NoBytes : PySem.W.hasDictIn K C_NoBytes = true) (xd_NoBytes : PySem.W.findIn K (.ref C_NoBytes) "__class__" = some (some (.builtin "object.__class__")))
    (xe_NoBytes : PySem.W.specialIn K (.builtin "object.__class__") "__get__" = some (some (.builtin "getset_descriptor.__get__"))) (xf_NoBytes : PySem.W.takesIn K (.builtin "object.__class__") = some true) (xg_NoBytes : PySem.W.mroIn K C_NoBytes (.type "object") = some true)
    {C_NoPlace : Addr} (g_NoPlace : PySem.W.nsIn K mainGlobals "NoPlace" = some (some (.ref C_NoPlace)))
    (x_NoPlace : PySem.W.excIn K C_NoPlace [.type "ValueError", .type "Exception", .type "BaseException", .type "object"] "ValueError.__new__" = true) (kc_NoPlace : PySem.W.keepIn K (.ref C_NoPlace) = true) (bb_NoPlace : PySem.W.subIn K (.ref C_NoPlace) (.type "BaseException") = some true) (t_NoPlace : PySem.W.typeIn K (.ref C_NoPlace) = some (.type "type"))
    (xa_NoPlace : PySem.W.findIn K (.ref C_NoPlace) "__getattribute__" = some (some (.builtin "BaseException.__getattribute__"))) (xb_NoPlace : PySem.W.findIn K (.ref C_NoPlace) "__getattr__" = some none) (xc_NoPlace : PySem.W.hasDictIn K C_NoPlace = true) (xd_NoPlace : PySem.W.findIn K (.ref C_NoPlace) "__class__" = some (some (.builtin "object.__class__")))
    (xe_NoPlace : PySem.W.specialIn K (.builtin "object.__class__") "__get__" = some (some (.builtin "getset_descriptor.__get__"))) (xf_NoPlace : PySem.W.takesIn K (.builtin "object.__class__") = some true) (xg_NoPlace : PySem.W.mroIn K C_NoPlace (.type "object") = some true)
    {C_NoKind : Addr} (g_NoKind : PySem.W.nsIn K mainGlobals "NoKind" = some (some (.ref C_NoKind)))
    (x_NoKind : PySem.W.excIn K C_NoKind [.type "ValueError", .type "Exception", .type "BaseException", .type "object"] "ValueError.__new__" = true) (kc_NoKind : PySem.W.keepIn K (.ref C_NoKind) = true) (bb_NoKind : PySem.W.subIn K (.ref C_NoKind) (.type "BaseException") = some true) (t_NoKind : PySem.W.typeIn K (.ref C_NoKind) = some (.type "type"))
    (xa_NoKind : PySem.W.findIn K (.ref C_NoKind) "__getattribute__" = some (some (.builtin "BaseException.__getattribute__"))) (xb_NoKind : PySem.W.findIn K (.ref C_NoKind) "__getattr__" = some none) (xc_NoKind : PySem.W.hasDictIn K C_NoKind = true) (xd_NoKind : PySem.W.findIn K (.ref C_NoKind) "__class__" = some (some (.builtin "object.__class__")))
    (xe_NoKind : PySem.W.specialIn K (.builtin "object.__class__") "__get__" = some (some (.builtin "getset_descriptor.__get__"))) (xf_NoKind : PySem.W.takesIn K (.builtin "object.__class__") = some true) (xg_NoKind : PySem.W.mroIn K C_NoKind (.type "object") = some true)
    {C_Growing : Addr} (g_Growing : PySem.W.nsIn K mainGlobals "Growing" = some (some (.ref C_Growing)))
    (p1_Growing : PySem.W.plainGet K C_Growing Str.empty = true) (p2_Growing : PySem.W.hasDictIn K C_Growing = true) (p3_Growing : PySem.W.plainOver K C_Growing = true) (p4_Growing : PySem.W.findIn K (.ref C_Growing) "__setattr__" = some (some (.builtin "object.__setattr__"))) (p5_Growing : PySem.W.makesIn K C_Growing = true) (p6_Growing : PySem.W.keepIn K (.ref C_Growing) = true)
    (na_Growing_at : PySem.W.findIn K (.ref C_Growing) "at" = some none)
    (na_Growing_kind : PySem.W.findIn K (.ref C_Growing) "kind" = some none)
    (na_Growing_content : PySem.W.findIn K (.ref C_Growing) "content" = some none)
    (na_Growing_noughts : PySem.W.findIn K (.ref C_Growing) "noughts" = some none)
    (na_Growing_first : PySem.W.findIn K (.ref C_Growing) "first" = some none)
    (na_Growing_behind : PySem.W.findIn K (.ref C_Growing) "behind" = some none)
    (na_Growing_closed : PySem.W.findIn K (.ref C_Growing) "closed" = some none)
    (ma_Growing_init : PySem.W.findIn K (.ref C_Growing) "__init__" = some (some (.ref f9))) (mb_Growing_init : PySem.W.isFn K (.ref f9) = true)
    (ma_Growing_grow : PySem.W.findIn K (.ref C_Growing) "grow" = some (some (.ref f10))) (mb_Growing_grow : PySem.W.isFn K (.ref f10) = true)
    (ma_Growing_measure : PySem.W.findIn K (.ref C_Growing) "measure" = some (some (.ref f11))) (mb_Growing_measure : PySem.W.isFn K (.ref f11) = true)
    (ma_Growing_body : PySem.W.findIn K (.ref C_Growing) "body" = some (some (.ref f12))) (mb_Growing_body : PySem.W.isFn K (.ref f12) = true)
    (ma_Growing_is_right : PySem.W.findIn K (.ref C_Growing) "is_right" = some (some (.ref f13))) (mb_Growing_is_right : PySem.W.isFn K (.ref f13) = true)
    (sb_NoBytes_NoKind : PySem.W.subIn K (.ref C_NoBytes) (.ref C_NoKind) = some false) (bs_NoBytes_NoKind : PySem.W.subIn K (.ref C_NoKind) (.type "BaseException") = some true) (ts_NoBytes_NoKind : PySem.W.typeIn K (.ref C_NoKind) = some (.type "type")) (is_NoBytes_NoKind : PySem.W.isClsIn K C_NoKind = true)
    (sb_NoKind_NoKind : PySem.W.subIn K (.ref C_NoKind) (.ref C_NoKind) = some true) (bs_NoKind_NoKind : PySem.W.subIn K (.ref C_NoKind) (.type "BaseException") = some true) (ts_NoKind_NoKind : PySem.W.typeIn K (.ref C_NoKind) = some (.type "type")) (is_NoKind_NoKind : PySem.W.isClsIn K C_NoKind = true)
    (sb_NoNumber_NoKind : PySem.W.subIn K (.ref C_NoNumber) (.ref C_NoKind) = some false) (bs_NoNumber_NoKind : PySem.W.subIn K (.ref C_NoKind) (.type "BaseException") = some true) (ts_NoNumber_NoKind : PySem.W.typeIn K (.ref C_NoKind) = some (.type "type")) (is_NoNumber_NoKind : PySem.W.isClsIn K C_NoKind = true)
    (sb_NoPlace_NoKind : PySem.W.subIn K (.ref C_NoPlace) (.ref C_NoKind) = some false) (bs_NoPlace_NoKind : PySem.W.subIn K (.ref C_NoKind) (.type "BaseException") = some true) (ts_NoPlace_NoKind : PySem.W.typeIn K (.ref C_NoKind) = some (.type "type")) (is_NoPlace_NoKind : PySem.W.isClsIn K C_NoKind = true)
    (sb_NoBytes_NoBytes : PySem.W.subIn K (.ref C_NoBytes) (.ref C_NoBytes) = some true) (bs_NoBytes_NoBytes : PySem.W.subIn K (.ref C_NoBytes) (.type "BaseException") = some true) (ts_NoBytes_NoBytes : PySem.W.typeIn K (.ref C_NoBytes) = some (.type "type")) (is_NoBytes_NoBytes : PySem.W.isClsIn K C_NoBytes = true)
    (sb_NoKind_NoBytes : PySem.W.subIn K (.ref C_NoKind) (.ref C_NoBytes) = some false) (bs_NoKind_NoBytes : PySem.W.subIn K (.ref C_NoBytes) (.type "BaseException") = some true) (ts_NoKind_NoBytes : PySem.W.typeIn K (.ref C_NoBytes) = some (.type "type")) (is_NoKind_NoBytes : PySem.W.isClsIn K C_NoBytes = true)
    (sb_NoNumber_NoBytes : PySem.W.subIn K (.ref C_NoNumber) (.ref C_NoBytes) = some false) (bs_NoNumber_NoBytes : PySem.W.subIn K (.ref C_NoBytes) (.type "BaseException") = some true) (ts_NoNumber_NoBytes : PySem.W.typeIn K (.ref C_NoBytes) = some (.type "type")) (is_NoNumber_NoBytes : PySem.W.isClsIn K C_NoBytes = true)
    (sb_NoPlace_NoBytes : PySem.W.subIn K (.ref C_NoPlace) (.ref C_NoBytes) = some false) (bs_NoPlace_NoBytes : PySem.W.subIn K (.ref C_NoBytes) (.type "BaseException") = some true) (ts_NoPlace_NoBytes : PySem.W.typeIn K (.ref C_NoBytes) = some (.type "type")) (is_NoPlace_NoBytes : PySem.W.isClsIn K C_NoBytes = true)
    (sb_NoBytes_NoPlace : PySem.W.subIn K (.ref C_NoBytes) (.ref C_NoPlace) = some false) (bs_NoBytes_NoPlace : PySem.W.subIn K (.ref C_NoPlace) (.type "BaseException") = some true) (ts_NoBytes_NoPlace : PySem.W.typeIn K (.ref C_NoPlace) = some (.type "type")) (is_NoBytes_NoPlace : PySem.W.isClsIn K C_NoPlace = true)
    (sb_NoKind_NoPlace : PySem.W.subIn K (.ref C_NoKind) (.ref C_NoPlace) = some false) (bs_NoKind_NoPlace : PySem.W.subIn K (.ref C_NoPlace) (.type "BaseException") = some true) (ts_NoKind_NoPlace : PySem.W.typeIn K (.ref C_NoPlace) = some (.type "type")) (is_NoKind_NoPlace : PySem.W.isClsIn K C_NoPlace = true)
    (sb_NoNumber_NoPlace : PySem.W.subIn K (.ref C_NoNumber) (.ref C_NoPlace) = some false) (bs_NoNumber_NoPlace : PySem.W.subIn K (.ref C_NoPlace) (.type "BaseException") = some true) (ts_NoNumber_NoPlace : PySem.W.typeIn K (.ref C_NoPlace) = some (.type "type")) (is_NoNumber_NoPlace : PySem.W.isClsIn K C_NoPlace = true)
    (sb_NoPlace_NoPlace : PySem.W.subIn K (.ref C_NoPlace) (.ref C_NoPlace) = some true) (bs_NoPlace_NoPlace : PySem.W.subIn K (.ref C_NoPlace) (.type "BaseException") = some true) (ts_NoPlace_NoPlace : PySem.W.typeIn K (.ref C_NoPlace) = some (.type "type")) (is_NoPlace_NoPlace : PySem.W.isClsIn K C_NoPlace = true)
    (sb_NoBytes_ScrollError : PySem.W.subIn K (.ref C_NoBytes) (.ref C_ScrollError) = some true) (bs_NoBytes_ScrollError : PySem.W.subIn K (.ref C_ScrollError) (.type "BaseException") = some true) (ts_NoBytes_ScrollError : PySem.W.typeIn K (.ref C_ScrollError) = some (.type "type")) (is_NoBytes_ScrollError : PySem.W.isClsIn K C_ScrollError = true)
    (sb_NoKind_ScrollError : PySem.W.subIn K (.ref C_NoKind) (.ref C_ScrollError) = some true) (bs_NoKind_ScrollError : PySem.W.subIn K (.ref C_ScrollError) (.type "BaseException") = some true) (ts_NoKind_ScrollError : PySem.W.typeIn K (.ref C_ScrollError) = some (.type "type")) (is_NoKind_ScrollError : PySem.W.isClsIn K C_ScrollError = true)
    (sb_NoNumber_ScrollError : PySem.W.subIn K (.ref C_NoNumber) (.ref C_ScrollError) = some true) (bs_NoNumber_ScrollError : PySem.W.subIn K (.ref C_ScrollError) (.type "BaseException") = some true) (ts_NoNumber_ScrollError : PySem.W.typeIn K (.ref C_ScrollError) = some (.type "type")) (is_NoNumber_ScrollError : PySem.W.isClsIn K C_ScrollError = true)
    (sb_NoPlace_ScrollError : PySem.W.subIn K (.ref C_NoPlace) (.ref C_ScrollError) = some true) (bs_NoPlace_ScrollError : PySem.W.subIn K (.ref C_ScrollError) (.type "BaseException") = some true) (ts_NoPlace_ScrollError : PySem.W.typeIn K (.ref C_ScrollError) = some (.type "type")) (is_NoPlace_ScrollError : PySem.W.isClsIn K C_ScrollError = true)
    (io_NoBytes_NoBytes : PySem.W.kitOne K (.ref C_NoBytes) (.ref C_NoBytes) = some true)
    (io_NoKind_NoBytes : PySem.W.kitOne K (.ref C_NoKind) (.ref C_NoBytes) = some false)
    (io_NoNumber_NoBytes : PySem.W.kitOne K (.ref C_NoNumber) (.ref C_NoBytes) = some false)
    (io_NoPlace_NoBytes : PySem.W.kitOne K (.ref C_NoPlace) (.ref C_NoBytes) = some false)
    (io_NoBytes_NoNumber : PySem.W.kitOne K (.ref C_NoBytes) (.ref C_NoNumber) = some false)
    (io_NoKind_NoNumber : PySem.W.kitOne K (.ref C_NoKind) (.ref C_NoNumber) = some false)
    (io_NoNumber_NoNumber : PySem.W.kitOne K (.ref C_NoNumber) (.ref C_NoNumber) = some true)
    (io_NoPlace_NoNumber : PySem.W.kitOne K (.ref C_NoPlace) (.ref C_NoNumber) = some false)
    (io_NoBytes_NoPlace : PySem.W.kitOne K (.ref C_NoBytes) (.ref C_NoPlace) = some false)
    (io_NoKind_NoPlace : PySem.W.kitOne K (.ref C_NoKind) (.ref C_NoPlace) = some false)
    (io_NoNumber_NoPlace : PySem.W.kitOne K (.ref C_NoNumber) (.ref C_NoPlace) = some false)
    (io_NoPlace_NoPlace : PySem.W.kitOne K (.ref C_NoPlace) (.ref C_NoPlace) = some true)
    (io_NoBytes_NoKind : PySem.W.kitOne K (.ref C_NoBytes) (.ref C_NoKind) = some false)
    (io_NoKind_NoKind : PySem.W.kitOne K (.ref C_NoKind) (.ref C_NoKind) = some true)
    (io_NoNumber_NoKind : PySem.W.kitOne K (.ref C_NoNumber) (.ref C_NoKind) = some false)
    (io_NoPlace_NoKind : PySem.W.kitOne K (.ref C_NoPlace) (.ref C_NoKind) = some false)
    (lw30 : K.lookup cw30 = some oo30) (tv30 : tabO oo30 = some tw30) (hd30 : PySem.W.codeHdIn K cw30 tw30 = true) (nt30 : K.lookup tw30 = none) (gt30 : h.get? tw30 = some { cls := .none, data := .fields #[] })
    (lw31 : K.lookup cw31 = some oo31) (tv31 : tabO oo31 = some tw31) (hd31 : PySem.W.codeHdIn K cw31 tw31 = true) (nt31 : K.lookup tw31 = none) (gt31 : h.get? tw31 = some { cls := .none, data := .fields #[] })
    (nn30_31 : tw30 ≠ tw31)
    : LamX.LawAtS l w K CX0 14 63 "_law_script" mg fa h := by
  have e := hfa.symm.trans (PySem.W.mg_of X G a33)
  cases e
  have F0 := fun_mk (st := s_is_number) l0 c0 k0
  have F1 := fun_mk (st := s_is_whole) l1 c1 k1
  have F2 := fun_mk (st := s_is_bytes) l2 c2 k2
  have F3 := fun_mk (st := s_refuse_no_bytes) l3 c3 k3
  have F4 := fun_mk (st := s_refuse_no_place) l4 c4 k4
  have F5 := fun_mk (st := s_written) l5 c5 k5
  have F6 := fun_mk (st := s_number_at) l6 c6 k6
  have F7 := fun_mk (st := s_check) l7 c7 k7
  have F8 := fun_mk (st := s_stuffed) l8 c8 k8
  have F9 := fun_mk (st := s_Growing_init) l9 c9 k9
  have F10 := fun_mk (st := s_Growing_grow) l10 c10 k10
  have F11 := fun_mk (st := s_Growing_measure) l11 c11 k11
  have F12 := fun_mk (st := s_Growing_body) l12 c12 k12
  have F13 := fun_mk (st := s_Growing_is_right) l13 c13 k13
  have F14 := fun_mk (st := s_sum_of) l14 c14 k14
  have F15 := fun_mk (st := s_box) l15 c15 k15
  have F16 := fun_mk (st := s_standing_at) l16 c16 k16
  have F17 : FunD K "box_at" "box_at" (defArgs s_box_at) (defBody s_box_at) (defScope s_box_at) [V.int 0] [] f17 _ := ⟨⟨_, _, _, _, _, _, _, _, _, _, rfl, l17, c17, .inr ⟨(fun z => nomatch z), _, _, [.int 0 dt17_0], _, rfl, e17, q17, .cons ⟨_, rfl⟩ (.nil)⟩, .inl rfl⟩, k17⟩
  have F18 := fun_mk (st := s_l_cell_at) l18 c18 k18
  have F19 := fun_mk (st := s_l_digit) l19 c19 k19
  have F20 := fun_mk (st := s_l_figures) l20 c20 k20
  have F21 := fun_mk (st := s_l_number_at) l21 c21 k21
  have F22 := fun_mk (st := s_l_odd_row) l22 c22 k22
  have F23 := fun_mk (st := s_l_bytes) l23 c23 k23
  have F24 := fun_mk (st := s_l_sum) l24 c24 k24
  have F25 := fun_mk (st := s_l_stuffed) l25 c25 k25
  have F26 := fun_mk (st := s_l_boxed) l26 c26 k26
  have F27 := fun_mk (st := s_l_contents) l27 c27 k27
  have F28 := fun_mk (st := s_l_box_at) l28 c28 k28
  have F29 := fun_mk (st := s_l_word) l29 c29 k29
  have F30 := fun_mk (st := s_l_right) l30 c30 k30
  have F31 := fun_mk (st := s_l_odds) l31 c31 k31
  have F32 := fun_mk (st := s_l_great) l32 c32 k32
  have F33 := fun_mk (st := s_law) l33 c33 k33
  obtain ⟨ds17_1, v17_1, b17_1⟩ := F17.binds1 (ps := ["row", "at"]) 1 0 (fun z => nomatch z) rfl (fun T kV doc pm an cdv ct us its h1 h2 => match us, its, h1, h2 with | [_], [_], _, _ => ⟨_, rfl, rfl⟩)
  have b0 := F0.binds (ps := ["thing"]) fun _ _ _ _ _ _ us hl => match us, hl with | [_], _ => rfl
  have b1 := F1.binds (ps := ["thing", "low", "high"]) fun _ _ _ _ _ _ us hl => match us, hl with | [_, _, _], _ => rfl
  have b2 := F2.binds (ps := ["thing"]) fun _ _ _ _ _ _ us hl => match us, hl with | [_], _ => rfl
  have b3 := F3.binds (ps := ["row"]) fun _ _ _ _ _ _ us hl => match us, hl with | [_], _ => rfl
  have b4 := F4.binds (ps := ["row", "at"]) fun _ _ _ _ _ _ us hl => match us, hl with | [_, _], _ => rfl
  have b5 := F5.binds (ps := ["number"]) fun _ _ _ _ _ _ us hl => match us, hl with | [_], _ => rfl
  have b6 := F6.binds (ps := ["row", "at"]) fun _ _ _ _ _ _ us hl => match us, hl with | [_, _], _ => rfl
  have b7 := F7.binds (ps := ["row"]) fun _ _ _ _ _ _ us hl => match us, hl with | [_], _ => rfl
  have b8 := F8.binds (ps := ["row"]) fun _ _ _ _ _ _ us hl => match us, hl with | [_], _ => rfl
  have b9 := F9.binds (ps := ["self", "at"]) fun _ _ _ _ _ _ us hl => match us, hl with | [_, _], _ => rfl
  have b10 := F10.binds (ps := ["self", "byte"]) fun _ _ _ _ _ _ us hl => match us, hl with | [_, _], _ => rfl
  have b11 := F11.binds (ps := ["self"]) fun _ _ _ _ _ _ us hl => match us, hl with | [_], _ => rfl
  have b12 := F12.binds (ps := ["self"]) fun _ _ _ _ _ _ us hl => match us, hl with | [_], _ => rfl
  have b13 := F13.binds (ps := ["self"]) fun _ _ _ _ _ _ us hl => match us, hl with | [_], _ => rfl
  have b14 := F14.binds (ps := ["kind", "body"]) fun _ _ _ _ _ _ us hl => match us, hl with | [_, _], _ => rfl
  have b15 := F15.binds (ps := ["kind", "body"]) fun _ _ _ _ _ _ us hl => match us, hl with | [_, _], _ => rfl
  have b16 := F16.binds (ps := ["row", "at"]) fun _ _ _ _ _ _ us hl => match us, hl with | [_, _], _ => rfl
  have b17 : Binds K _ ["row", "at"] [] := bindsAll (F := F17) (ps := ["row", "at"]) (fun T kV doc pm an cdv ct us its h1 h2 => match us, its, h1, h2 with | [_, _], [_], _, _ => ⟨_, rfl, rfl⟩) (fun z => nomatch z)
  have b18 := F18.binds (ps := ["_law_script", "_law_k"]) fun _ _ _ _ _ _ us hl => match us, hl with | [_, _], _ => rfl
  have b19 := F19.binds (ps := ["_law_state", "_law_base"]) fun _ _ _ _ _ _ us hl => match us, hl with | [_, _], _ => rfl
  have b20 := F20.binds (ps := ["_law_number"]) fun _ _ _ _ _ _ us hl => match us, hl with | [_], _ => rfl
  have b21 := F21.binds (ps := ["_law_row", "_law_at"]) fun _ _ _ _ _ _ us hl => match us, hl with | [_, _], _ => rfl
  have b22 := F22.binds (ps := ["_law_state", "_law_row"]) fun _ _ _ _ _ _ us hl => match us, hl with | [_, _], _ => rfl
  have b23 := F23.binds (ps := ["_law_state", "_law_many"]) fun _ _ _ _ _ _ us hl => match us, hl with | [_, _], _ => rfl
  have b24 := F24.binds (ps := ["_law_row", "_law_number"]) fun _ _ _ _ _ _ us hl => match us, hl with | [_, _], _ => rfl
  have b25 := F25.binds (ps := ["_law_row"]) fun _ _ _ _ _ _ us hl => match us, hl with | [_], _ => rfl
  have b26 := F26.binds (ps := ["_law_kind", "_law_body"]) fun _ _ _ _ _ _ us hl => match us, hl with | [_, _], _ => rfl
  have b27 := F27.binds (ps := ["_law_row", "_law_at"]) fun _ _ _ _ _ _ us hl => match us, hl with | [_, _], _ => rfl
  have b28 := F28.binds (ps := ["_law_row", "_law_at"]) fun _ _ _ _ _ _ us hl => match us, hl with | [_, _], _ => rfl
  have b29 := F29.binds (ps := ["_law_ask"]) fun _ _ _ _ _ _ us hl => match us, hl with | [_], _ => rfl
  have b30 := F30.binds (ps := ["_law_row", "_law_places"]) fun _ _ _ _ _ _ us hl => match us, hl with | [_, _], _ => rfl
  have b31 := F31.binds (ps := ["_law_state", "_law_row", "_law_body"]) fun _ _ _ _ _ _ us hl => match us, hl with | [_, _, _], _ => rfl
  have b32 := F32.binds (ps := ["_law_state"]) fun _ _ _ _ _ _ us hl => match us, hl with | [_], _ => rfl
  have b33 := F33.binds (ps := ["_law_script"]) fun _ _ _ _ _ _ us hl => match us, hl with | [_], _ => rfl
  exact ⟨_, [(cw30, tw30), (cw31, tw31)], spLawT K tw30 tw31, (List.forall_mem_cons.mpr ⟨gt30, List.forall_mem_cons.mpr ⟨gt31, fun _ z => nomatch z⟩⟩), (List.forall_mem_cons.mpr ⟨nt30, List.forall_mem_cons.mpr ⟨nt31, fun _ z => nomatch z⟩⟩), (List.forall_mem_cons.mpr ⟨PySem.W.codeHd_of_K X hd30, List.forall_mem_cons.mpr ⟨PySem.W.codeHd_of_K X hd31, fun _ z => nomatch z⟩⟩), fun s v => .of_eq rfl, fun H a ns hl _ hT hS => ⟨a, ns, rfl, hS, hl, hT _ (List.mem_cons_self ..), hT _ (List.mem_cons_of_mem _ (List.mem_cons_self ..)), fun _ => rfl⟩, fun base _ _ tb => ok_law { a_is_number := _, d_is_number := _, F_is_number := F0, b_is_number := b0, g_is_number := PySem.W.mg_of X G a0, a_is_whole := _, d_is_whole := _, F_is_whole := F1, b_is_whole := b1, g_is_whole := PySem.W.mg_of X G a1, a_is_bytes := _, d_is_bytes := _, F_is_bytes := F2, b_is_bytes := b2, g_is_bytes := PySem.W.mg_of X G a2, a_refuse_no_bytes := _, d_refuse_no_bytes := _, F_refuse_no_bytes := F3, b_refuse_no_bytes := b3, g_refuse_no_bytes := PySem.W.mg_of X G a3, a_refuse_no_place := _, d_refuse_no_place := _, F_refuse_no_place := F4, b_refuse_no_place := b4, g_refuse_no_place := PySem.W.mg_of X G a4, a_written := _, d_written := _, F_written := F5, b_written := b5, g_written := PySem.W.mg_of X G a5, a_number_at := _, d_number_at := _, F_number_at := F6, b_number_at := b6, g_number_at := PySem.W.mg_of X G a6, a_check := _, d_check := _, F_check := F7, b_check := b7, g_check := PySem.W.mg_of X G a7, a_stuffed := _, d_stuffed := _, F_stuffed := F8, b_stuffed := b8, g_stuffed := PySem.W.mg_of X G a8, a_Growing_init := _, d_Growing_init := _, F_Growing_init := F9, b_Growing_init := b9, a_Growing_grow := _, d_Growing_grow := _, F_Growing_grow := F10, b_Growing_grow := b10, a_Growing_measure := _, d_Growing_measure := _, F_Growing_measure := F11, b_Growing_measure := b11, a_Growing_body := _, d_Growing_body := _, F_Growing_body := F12, b_Growing_body := b12, a_Growing_is_right := _, d_Growing_is_right := _, F_Growing_is_right := F13, b_Growing_is_right := b13, a_sum_of := _, d_sum_of := _, F_sum_of := F14, b_sum_of := b14, g_sum_of := PySem.W.mg_of X G a14, a_box := _, d_box := _, F_box := F15, b_box := b15, g_box := PySem.W.mg_of X G a15, a_standing_at := _, d_standing_at := _, F_standing_at := F16, b_standing_at := b16, g_standing_at := PySem.W.mg_of X G a16, a_box_at := _, d_box_at := _, F_box_at := F17, b_box_at := b17, g_box_at := PySem.W.mg_of X G a17, a_l_cell_at := _, d_l_cell_at := _, F_l_cell_at := F18, b_l_cell_at := b18, g_l_cell_at := PySem.W.mg_of X G a18, a_l_digit := _, d_l_digit := _, F_l_digit := F19, b_l_digit := b19, g_l_digit := PySem.W.mg_of X G a19, a_l_figures := _, d_l_figures := _, F_l_figures := F20, b_l_figures := b20, g_l_figures := PySem.W.mg_of X G a20, a_l_number_at := _, d_l_number_at := _, F_l_number_at := F21, b_l_number_at := b21, g_l_number_at := PySem.W.mg_of X G a21, a_l_odd_row := _, d_l_odd_row := _, F_l_odd_row := F22, b_l_odd_row := b22, g_l_odd_row := PySem.W.mg_of X G a22, a_l_bytes := _, d_l_bytes := _, F_l_bytes := F23, b_l_bytes := b23, g_l_bytes := PySem.W.mg_of X G a23, a_l_sum := _, d_l_sum := _, F_l_sum := F24, b_l_sum := b24, g_l_sum := PySem.W.mg_of X G a24, a_l_stuffed := _, d_l_stuffed := _, F_l_stuffed := F25, b_l_stuffed := b25, g_l_stuffed := PySem.W.mg_of X G a25, a_l_boxed := _, d_l_boxed := _, F_l_boxed := F26, b_l_boxed := b26, g_l_boxed := PySem.W.mg_of X G a26, a_l_contents := _, d_l_contents := _, F_l_contents := F27, b_l_contents := b27, g_l_contents := PySem.W.mg_of X G a27, a_l_box_at := _, d_l_box_at := _, F_l_box_at := F28, b_l_box_at := b28, g_l_box_at := PySem.W.mg_of X G a28, a_l_word := _, d_l_word := _, F_l_word := F29, b_l_word := b29, g_l_word := PySem.W.mg_of X G a29, a_l_right := _, d_l_right := _, F_l_right := F30, b_l_right := b30, g_l_right := PySem.W.mg_of X G a30, a_l_odds := _, d_l_odds := _, F_l_odds := F31, b_l_odds := b31, g_l_odds := PySem.W.mg_of X G a31, a_l_great := _, d_l_great := _, F_l_great := F32, b_l_great := b32, g_l_great := PySem.W.mg_of X G a32, a_law := _, d_law := _, F_law := F33, b_law := b33, g_law := PySem.W.mg_of X G a33, ds1_box_at := ds17_1, v1_box_at := v17_1, b1_box_at := b17_1, m_bool := PySem.W.mg_none_of X G z_bool, m_divmod := PySem.W.mg_none_of X G z_divmod, m_int := PySem.W.mg_none_of X G z_int, m_isinstance := PySem.W.mg_none_of X G z_isinstance, m_len := PySem.W.mg_none_of X G z_len, m_list := PySem.W.mg_none_of X G z_list, m_min := PySem.W.mg_none_of X G z_min, m_range := PySem.W.mg_none_of X G z_range, m_tuple := PySem.W.mg_none_of X G z_tuple, ct_GREATEST_NUMBER := ct_GREATEST_NUMBER, g_GREATEST_NUMBER := PySem.W.mg_of X G g_GREATEST_NUMBER, ct_BASE := ct_BASE, g_BASE := PySem.W.mg_of X G g_BASE, ct_STUFFING := ct_STUFFING, g_STUFFING := PySem.W.mg_of X G g_STUFFING, ca_START := ca_START, g_START := PySem.W.mg_of X G g_START, cs_START := ⟨_, _, _, e_START, qc_START, q_START, .cons ⟨_, rfl⟩ (.cons ⟨_, rfl⟩ (.cons ⟨_, rfl⟩ (.nil)))⟩, ct_END := ct_END, g_END := PySem.W.mg_of X G g_END, ct_LEAST_KIND := ct_LEAST_KIND, g_LEAST_KIND := PySem.W.mg_of X G g_LEAST_KIND, ct_GREATEST_KIND := ct_GREATEST_KIND, g_GREATEST_KIND := PySem.W.mg_of X G g_GREATEST_KIND, ct_LONGEST_BODY := ct_LONGEST_BODY, g_LONGEST_BODY := PySem.W.mg_of X G g_LONGEST_BODY, ct_LONGEST_LENGTH := ct_LONGEST_LENGTH, g_LONGEST_LENGTH := PySem.W.mg_of X G g_LONGEST_LENGTH, c_ScrollError := C_ScrollError, g_ScrollError := PySem.W.mg_of X G g_ScrollError, c_NoNumber := C_NoNumber, g_NoNumber := PySem.W.mg_of X G g_NoNumber, x_NoNumber := x_NoNumber, k_NoNumber := kc_NoNumber, bb_NoNumber := bb_NoNumber, t_NoNumber := t_NoNumber, xc_NoNumber := ⟨xa_NoNumber, xb_NoNumber, bb_NoNumber, xc_NoNumber, xd_NoNumber, xe_NoNumber, xf_NoNumber, xg_NoNumber⟩, c_NoBytes := C_NoBytes, g_NoBytes := PySem.W.mg_of X G g_NoBytes, x_NoBytes := x_NoBytes, k_NoBytes := kc_NoBytes, bb_NoBytes := bb_NoBytes, t_NoBytes := t_NoBytes, xc_NoBytes := ⟨xa_NoBytes, xb_NoBytes, bb_NoBytes, xc_NoBytes, xd_NoBytes, xe_NoBytes, xf_NoBytes, xg_NoBytes⟩, c_NoPlace := C_NoPlace, g_NoPlace := PySem.W.mg_of X G g_NoPlace, x_NoPlace := x_NoPlace, k_NoPlace := kc_NoPlace, bb_NoPlace := bb_NoPlace, t_NoPlace := t_NoPlace, xc_NoPlace := ⟨xa_NoPlace, xb_NoPlace, bb_NoPlace, xc_NoPlace, xd_NoPlace, xe_NoPlace, xf_NoPlace, xg_NoPlace⟩, c_NoKind := C_NoKind, g_NoKind := PySem.W.mg_of X G g_NoKind, x_NoKind := x_NoKind, k_NoKind := kc_NoKind, bb_NoKind := bb_NoKind, t_NoKind := t_NoKind, xc_NoKind := ⟨xa_NoKind, xb_NoKind, bb_NoKind, xc_NoKind, xd_NoKind, xe_NoKind, xf_NoKind, xg_NoKind⟩, c_Growing := C_Growing, g_Growing := PySem.W.mg_of X G g_Growing, cl_Growing := ⟨p1_Growing, p2_Growing, p3_Growing, p4_Growing⟩, mkk_Growing := p5_Growing, na_Growing_at := na_Growing_at, na_Growing_kind := na_Growing_kind, na_Growing_content := na_Growing_content, na_Growing_noughts := na_Growing_noughts, na_Growing_first := na_Growing_first, na_Growing_behind := na_Growing_behind, na_Growing_closed := na_Growing_closed, mk_Growing := ⟨p5_Growing, ma_Growing_init, mb_Growing_init, p6_Growing⟩, mt_Growing_grow := ⟨ma_Growing_grow, mb_Growing_grow, k10⟩, mt_Growing_measure := ⟨ma_Growing_measure, mb_Growing_measure, k11⟩, mt_Growing_body := ⟨ma_Growing_body, mb_Growing_body, k12⟩, mt_Growing_is_right := ⟨ma_Growing_is_right, mb_Growing_is_right, k13⟩, em_NoBytes_NoKind := exm_by bs_NoBytes_NoKind is_NoBytes_NoKind ts_NoBytes_NoKind sb_NoBytes_NoKind, em_NoKind_NoKind := exm_by bs_NoKind_NoKind is_NoKind_NoKind ts_NoKind_NoKind sb_NoKind_NoKind, em_NoNumber_NoKind := exm_by bs_NoNumber_NoKind is_NoNumber_NoKind ts_NoNumber_NoKind sb_NoNumber_NoKind, em_NoPlace_NoKind := exm_by bs_NoPlace_NoKind is_NoPlace_NoKind ts_NoPlace_NoKind sb_NoPlace_NoKind, em_NoBytes_NoBytes := exm_by bs_NoBytes_NoBytes is_NoBytes_NoBytes ts_NoBytes_NoBytes sb_NoBytes_NoBytes, em_NoKind_NoBytes := exm_by bs_NoKind_NoBytes is_NoKind_NoBytes ts_NoKind_NoBytes sb_NoKind_NoBytes, em_NoNumber_NoBytes := exm_by bs_NoNumber_NoBytes is_NoNumber_NoBytes ts_NoNumber_NoBytes sb_NoNumber_NoBytes, em_NoPlace_NoBytes := exm_by bs_NoPlace_NoBytes is_NoPlace_NoBytes ts_NoPlace_NoBytes sb_NoPlace_NoBytes, em_NoBytes_NoPlace := exm_by bs_NoBytes_NoPlace is_NoBytes_NoPlace ts_NoBytes_NoPlace sb_NoBytes_NoPlace, em_NoKind_NoPlace := exm_by bs_NoKind_NoPlace is_NoKind_NoPlace ts_NoKind_NoPlace sb_NoKind_NoPlace, em_NoNumber_NoPlace := exm_by bs_NoNumber_NoPlace is_NoNumber_NoPlace ts_NoNumber_NoPlace sb_NoNumber_NoPlace, em_NoPlace_NoPlace := exm_by bs_NoPlace_NoPlace is_NoPlace_NoPlace ts_NoPlace_NoPlace sb_NoPlace_NoPlace, em_NoBytes_ScrollError := exm_by bs_NoBytes_ScrollError is_NoBytes_ScrollError ts_NoBytes_ScrollError sb_NoBytes_ScrollError, em_NoKind_ScrollError := exm_by bs_NoKind_ScrollError is_NoKind_ScrollError ts_NoKind_ScrollError sb_NoKind_ScrollError, em_NoNumber_ScrollError := exm_by bs_NoNumber_ScrollError is_NoNumber_ScrollError ts_NoNumber_ScrollError sb_NoNumber_ScrollError, em_NoPlace_ScrollError := exm_by bs_NoPlace_ScrollError is_NoPlace_ScrollError ts_NoPlace_ScrollError sb_NoPlace_ScrollError, io_NoBytes_NoBytes := io_NoBytes_NoBytes, io_NoKind_NoBytes := io_NoKind_NoBytes, io_NoNumber_NoBytes := io_NoNumber_NoBytes, io_NoPlace_NoBytes := io_NoPlace_NoBytes, io_NoBytes_NoNumber := io_NoBytes_NoNumber, io_NoKind_NoNumber := io_NoKind_NoNumber, io_NoNumber_NoNumber := io_NoNumber_NoNumber, io_NoPlace_NoNumber := io_NoPlace_NoNumber, io_NoBytes_NoPlace := io_NoBytes_NoPlace, io_NoKind_NoPlace := io_NoKind_NoPlace, io_NoNumber_NoPlace := io_NoNumber_NoPlace, io_NoPlace_NoPlace := io_NoPlace_NoPlace, io_NoBytes_NoKind := io_NoBytes_NoKind, io_NoKind_NoKind := io_NoKind_NoKind, io_NoNumber_NoKind := io_NoNumber_NoKind, io_NoPlace_NoKind := io_NoPlace_NoKind, cw_l_right := cw30, tw_l_right := tw30, C_l_right := ⟨⟨_, _, _, _, _, _, _, _, rfl, l30, c30⟩⟩, cw_l_odds := cw31, tw_l_odds := tw31, C_l_odds := ⟨⟨_, _, _, _, _, _, _, _, rfl, l31, c31⟩⟩ } ⟨tb _ (List.mem_cons_self ..), tb _ (List.mem_cons_of_mem _ (List.mem_cons_self ..)), nn30_31⟩⟩
end LK
open PySem PySem.W PyProof.Rows
set_option maxHeartbeats 0 in
theorem PySem.Challenge.cw_lanescroll_k34_a_box_and_its_place_holds : PySem.Challenge.rw_lanescroll_k34_a_box_and_its_place.Holds := by
  w_on; o_law; k_head; (case hw => w_witness2)
  k_fill
  refine LamX.walk_ofTs (l := PySem.Challenge.rw_lanescroll_k34_a_box_and_its_place) (n := 63) (k := 14) (x := "_law_script") (CX := fun _ => L2.CX0) rfl (by decide) rfl ⟨rfl, by decide, by decide⟩ (fun w h Y => PySem.W.km_in_of Y) ?F (fun _ _ _ _ _ h => h)
  case F =>
    intro w mg fa h Y KX G hmg
    refine' LK.all_mk KX G hmg ?a0 ?l0 ?c0 ?k0 ?a1 ?l1 ?c1 ?k1 ?a2 ?l2 ?c2 ?k2 ?a3 ?l3 ?c3 ?k3 ?a4 ?l4 ?c4 ?k4 ?a5 ?l5 ?c5 ?k5 ?a6 ?l6 ?c6 ?k6 ?a7 ?l7 ?c7 ?k7 ?a8 ?l8 ?c8 ?k8 ?y9 ?a9 ?l9 ?c9 ?k9 ?y10 ?a10 ?l10 ?c10 ?k10 ?y11 ?a11 ?l11 ?c11 ?k11 ?y12 ?a12 ?l12 ?c12 ?k12 ?y13 ?a13 ?l13 ?c13 ?k13 ?a14 ?l14 ?c14 ?k14 ?a15 ?l15 ?c15 ?k15 ?a16 ?l16 ?c16 ?k16 ?a17 ?l17 ?c17 ?k17 ?e17 ?q17 ?a18 ?l18 ?c18 ?k18 ?a19 ?l19 ?c19 ?k19 ?a20 ?l20 ?c20 ?k20 ?a21 ?l21 ?c21 ?k21 ?a22 ?l22 ?c22 ?k22 ?a23 ?l23 ?c23 ?k23 ?a24 ?l24 ?c24 ?k24 ?a25 ?l25 ?c25 ?k25 ?a26 ?l26 ?c26 ?k26 ?a27 ?l27 ?c27 ?k27 ?a28 ?l28 ?c28 ?k28 ?a29 ?l29 ?c29 ?k29 ?a30 ?l30 ?c30 ?k30 ?a31 ?l31 ?c31 ?k31 ?a32 ?l32 ?c32 ?k32 ?a33 ?l33 ?c33 ?k33 ?z_bool ?z_divmod ?z_int ?z_isinstance ?z_len ?z_list ?z_min ?z_range ?z_tuple ?g_GREATEST_NUMBER ?g_BASE ?g_STUFFING ?g_START ?e_START ?qc_START ?q_START ?g_END ?g_LEAST_KIND ?g_GREATEST_KIND ?g_LONGEST_BODY ?g_LONGEST_LENGTH ?g_ScrollError ?g_NoNumber ?x_NoNumber ?kc_NoNumber ?bb_NoNumber ?t_NoNumber ?xa_NoNumber ?xb_NoNumber ?xc_NoNumber ?xd_NoNumber ?xe_NoNumber ?xf_NoNumber ?xg_NoNumber ?g_NoBytes ?x_NoBytes ?kc_NoBytes ?bb_NoBytes ?t_NoBytes ?xa_NoBytes ?xb_NoBytes ?xc_NoBytes ?xd_NoBytes ?xe_NoBytes ?xf_NoBytes ?xg_NoBytes ?g_NoPlace ?x_NoPlace ?kc_NoPlace ?bb_NoPlace ?t_NoPlace ?xa_NoPlace ?xb_NoPlace ?xc_NoPlace ?xd_NoPlace ?xe_NoPlace ?xf_NoPlace ?xg_NoPlace ?g_NoKind ?x_NoKind ?kc_NoKind ?bb_NoKind ?t_NoKind ?xa_NoKind ?xb_NoKind ?xc_NoKind ?xd_NoKind ?xe_NoKind ?xf_NoKind ?xg_NoKind ?g_Growing ?p1_Growing ?p2_Growing ?p3_Growing ?p4_Growing ?p5_Growing ?p6_Growing ?na_Growing_at ?na_Growing_kind ?na_Growing_content ?na_Growing_noughts ?na_Growing_first ?na_Growing_behind ?na_Growing_closed ?ma_Growing_init ?mb_Growing_init ?ma_Growing_grow ?mb_Growing_grow ?ma_Growing_measure ?mb_Growing_measure ?ma_Growing_body ?mb_Growing_body ?ma_Growing_is_right ?mb_Growing_is_right ?sb_NoBytes_NoKind ?bs_NoBytes_NoKind ?ts_NoBytes_NoKind ?is_NoBytes_NoKind ?sb_NoKind_NoKind ?bs_NoKind_NoKind ?ts_NoKind_NoKind ?is_NoKind_NoKind ?sb_NoNumber_NoKind ?bs_NoNumber_NoKind ?ts_NoNumber_NoKind ?is_NoNumber_NoKind ?sb_NoPlace_NoKind ?bs_NoPlace_NoKind ?ts_NoPlace_NoKind ?is_NoPlace_NoKind ?sb_NoBytes_NoBytes ?bs_NoBytes_NoBytes ?ts_NoBytes_NoBytes ?is_NoBytes_NoBytes ?sb_NoKind_NoBytes ?bs_NoKind_NoBytes ?ts_NoKind_NoBytes ?is_NoKind_NoBytes ?sb_NoNumber_NoBytes ?bs_NoNumber_NoBytes ?ts_NoNumber_NoBytes ?is_NoNumber_NoBytes ?sb_NoPlace_NoBytes ?bs_NoPlace_NoBytes ?ts_NoPlace_NoBytes ?is_NoPlace_NoBytes ?sb_NoBytes_NoPlace ?bs_NoBytes_NoPlace ?ts_NoBytes_NoPlace ?is_NoBytes_NoPlace ?sb_NoKind_NoPlace ?bs_NoKind_NoPlace ?ts_NoKind_NoPlace ?is_NoKind_NoPlace ?sb_NoNumber_NoPlace ?bs_NoNumber_NoPlace ?ts_NoNumber_NoPlace ?is_NoNumber_NoPlace ?sb_NoPlace_NoPlace ?bs_NoPlace_NoPlace ?ts_NoPlace_NoPlace ?is_NoPlace_NoPlace ?sb_NoBytes_ScrollError ?bs_NoBytes_ScrollError ?ts_NoBytes_ScrollError ?is_NoBytes_ScrollError ?sb_NoKind_ScrollError ?bs_NoKind_ScrollError ?ts_NoKind_ScrollError ?is_NoKind_ScrollError ?sb_NoNumber_ScrollError ?bs_NoNumber_ScrollError ?ts_NoNumber_ScrollError ?is_NoNumber_ScrollError ?sb_NoPlace_ScrollError ?bs_NoPlace_ScrollError ?ts_NoPlace_ScrollError ?is_NoPlace_ScrollError ?io_NoBytes_NoBytes ?io_NoKind_NoBytes ?io_NoNumber_NoBytes ?io_NoPlace_NoBytes ?io_NoBytes_NoNumber ?io_NoKind_NoNumber ?io_NoNumber_NoNumber ?io_NoPlace_NoNumber ?io_NoBytes_NoPlace ?io_NoKind_NoPlace ?io_NoNumber_NoPlace ?io_NoPlace_NoPlace ?io_NoBytes_NoKind ?io_NoKind_NoKind ?io_NoNumber_NoKind ?io_NoPlace_NoKind ?lw30 ?tv30 ?hd30 ?nt30 ?gt30 ?lw31 ?tv31 ?hd31 ?nt31 ?gt31 ?nn30_31
    (case a0 => k_is)
    (case l0 => k_is)
    (case c0 => k_is)
    (case k0 => k_is)
    (case a1 => k_is)
    (case l1 => k_is)
    (case c1 => k_is)
    (case k1 => k_is)
    (case a2 => k_is)
    (case l2 => k_is)
    (case c2 => k_is)
    (case k2 => k_is)
    (case a3 => k_is)
    (case l3 => k_is)
    (case c3 => k_is)
    (case k3 => k_is)
    (case a4 => k_is)
    (case l4 => k_is)
    (case c4 => k_is)
    (case k4 => k_is)
    (case a5 => k_is)
    (case l5 => k_is)
    (case c5 => k_is)
    (case k5 => k_is)
    (case a6 => k_is)
    (case l6 => k_is)
    (case c6 => k_is)
    (case k6 => k_is)
    (case a7 => k_is)
    (case l7 => k_is)
    (case c7 => k_is)
    (case k7 => k_is)
    (case a8 => k_is)
    (case l8 => k_is)
    (case c8 => k_is)
    (case k8 => k_is)
    (case y9 => k_is)
    (case a9 => k_is)
    (case l9 => k_is)
    (case c9 => k_is)
    (case k9 => k_is)
    (case y10 => k_is)
    (case a10 => k_is)
    (case l10 => k_is)
    (case c10 => k_is)
    (case k10 => k_is)
    (case y11 => k_is)
    (case a11 => k_is)
    (case l11 => k_is)
    (case c11 => k_is)
    (case k11 => k_is)
    (case y12 => k_is)
    (case a12 => k_is)
    (case l12 => k_is)
    (case c12 => k_is)
    (case k12 => k_is)
    (case y13 => k_is)
    (case a13 => k_is)
    (case l13 => k_is)
    (case c13 => k_is)
    (case k13 => k_is)
    (case a14 => k_is)
    (case l14 => k_is)
    (case c14 => k_is)
    (case k14 => k_is)
    (case a15 => k_is)
    (case l15 => k_is)
    (case c15 => k_is)
    (case k15 => k_is)
    (case a16 => k_is)
    (case l16 => k_is)
    (case c16 => k_is)
    (case k16 => k_is)
    (case a17 => k_is)
    (case l17 => k_is)
    (case c17 => k_is)
    (case k17 => k_is)
    (case e17 => k_is)
    (case q17 => first | rfl | k_is | k_exc)
    (case a18 => k_is)
    (case l18 => k_is)
    (case c18 => k_is)
    (case k18 => k_is)
    (case a19 => k_is)
    (case l19 => k_is)
    (case c19 => k_is)
    (case k19 => k_is)
    (case a20 => k_is)
    (case l20 => k_is)
    (case c20 => k_is)
    (case k20 => k_is)
    (case a21 => k_is)
    (case l21 => k_is)
    (case c21 => k_is)
    (case k21 => k_is)
    (case a22 => k_is)
    (case l22 => k_is)
    (case c22 => k_is)
    (case k22 => k_is)
    (case a23 => k_is)
    (case l23 => k_is)
    (case c23 => k_is)
    (case k23 => k_is)
    (case a24 => k_is)
    (case l24 => k_is)
    (case c24 => k_is)
    (case k24 => k_is)
    (case a25 => k_is)
    (case l25 => k_is)
    (case c25 => k_is)
    (case k25 => k_is)
    (case a26 => k_is)
    (case l26 => k_is)
    (case c26 => k_is)
    (case k26 => k_is)
    (case a27 => k_is)
    (case l27 => k_is)
    (case c27 => k_is)
    (case k27 => k_is)
    (case a28 => k_is)
    (case l28 => k_is)
    (case c28 => k_is)
    (case k28 => k_is)
    (case a29 => k_is)
    (case l29 => k_is)
    (case c29 => k_is)
    (case k29 => k_is)
    (case a30 => k_is)
    (case l30 => k_is)
    (case c30 => k_is)
    (case k30 => k_is)
    (case a31 => k_is)
    (case l31 => k_is)
    (case c31 => k_is)
    (case k31 => k_is)
    (case a32 => k_is)
    (case l32 => k_is)
    (case c32 => k_is)
    (case k32 => k_is)
    (case a33 => k_is)
    (case l33 => k_is)
    (case c33 => k_is)
    (case k33 => k_is)
    (case z_bool => k_is)
    (case z_divmod => k_is)
    (case z_int => k_is)
    (case z_isinstance => k_is)
    (case z_len => k_is)
    (case z_list => k_is)
    (case z_min => k_is)
    (case z_range => k_is)
    (case z_tuple => k_is)
    (case g_GREATEST_NUMBER => k_is)
    (case g_BASE => k_is)
    (case g_STUFFING => k_is)
    (case g_START => k_is)
    (case e_START => first | rfl | k_is | k_exc)
    (case qc_START => first | rfl | k_is | k_exc)
    (case q_START => first | rfl | k_is | k_exc)
    (case g_END => k_is)
    (case g_LEAST_KIND => k_is)
    (case g_GREATEST_KIND => k_is)
    (case g_LONGEST_BODY => k_is)
    (case g_LONGEST_LENGTH => k_is)
    (case g_ScrollError => k_is)
    (case g_NoNumber => k_is)
    (case x_NoNumber => k_exc)
    (case kc_NoNumber => k_is)
    (case bb_NoNumber => k_is)
    (case t_NoNumber => k_is)
    (case xa_NoNumber => k_is)
    (case xb_NoNumber => k_is)
    (case xc_NoNumber => k_is)
    (case xd_NoNumber => k_is)
    (case xe_NoNumber => k_is)
    (case xf_NoNumber => k_is)
    (case xg_NoNumber => k_is)
    (case g_NoBytes => k_is)
    (case x_NoBytes => k_exc)
    (case kc_NoBytes => k_is)
    (case bb_NoBytes => k_is)
    (case t_NoBytes => k_is)
    (case xa_NoBytes => k_is)
    (case xb_NoBytes => k_is)
    (case xc_NoBytes => k_is)
    (case xd_NoBytes => k_is)
    (case xe_NoBytes => k_is)
    (case xf_NoBytes => k_is)
    (case xg_NoBytes => k_is)
    (case g_NoPlace => k_is)
    (case x_NoPlace => k_exc)
    (case kc_NoPlace => k_is)
    (case bb_NoPlace => k_is)
    (case t_NoPlace => k_is)
    (case xa_NoPlace => k_is)
    (case xb_NoPlace => k_is)
    (case xc_NoPlace => k_is)
    (case xd_NoPlace => k_is)
    (case xe_NoPlace => k_is)
    (case xf_NoPlace => k_is)
    (case xg_NoPlace => k_is)
    (case g_NoKind => k_is)
    (case x_NoKind => k_exc)
    (case kc_NoKind => k_is)
    (case bb_NoKind => k_is)
    (case t_NoKind => k_is)
    (case xa_NoKind => k_is)
    (case xb_NoKind => k_is)
    (case xc_NoKind => k_is)
    (case xd_NoKind => k_is)
    (case xe_NoKind => k_is)
    (case xf_NoKind => k_is)
    (case xg_NoKind => k_is)
    (case g_Growing => k_is)
    (case p1_Growing => k_is)
    (case p2_Growing => k_is)
    (case p3_Growing => k_is)
    (case p4_Growing => k_is)
    (case p5_Growing => k_is)
    (case p6_Growing => k_is)
    (case na_Growing_at => k_is)
    (case na_Growing_kind => k_is)
    (case na_Growing_content => k_is)
    (case na_Growing_noughts => k_is)
    (case na_Growing_first => k_is)
    (case na_Growing_behind => k_is)
    (case na_Growing_closed => k_is)
    (case ma_Growing_init => k_is)
    (case mb_Growing_init => k_is)
    (case ma_Growing_grow => k_is)
    (case mb_Growing_grow => k_is)
    (case ma_Growing_measure => k_is)
    (case mb_Growing_measure => k_is)
    (case ma_Growing_body => k_is)
    (case mb_Growing_body => k_is)
    (case ma_Growing_is_right => k_is)
    (case mb_Growing_is_right => k_is)
    (case sb_NoBytes_NoKind => first | rfl | k_is | k_exc)
    (case bs_NoBytes_NoKind => k_is)
    (case ts_NoBytes_NoKind => k_is)
    (case is_NoBytes_NoKind => k_is)
    (case sb_NoKind_NoKind => first | rfl | k_is | k_exc)
    (case bs_NoKind_NoKind => k_is)
    (case ts_NoKind_NoKind => k_is)
    (case is_NoKind_NoKind => k_is)
    (case sb_NoNumber_NoKind => first | rfl | k_is | k_exc)
    (case bs_NoNumber_NoKind => k_is)
    (case ts_NoNumber_NoKind => k_is)
    (case is_NoNumber_NoKind => k_is)
    (case sb_NoPlace_NoKind => first | rfl | k_is | k_exc)
    (case bs_NoPlace_NoKind => k_is)
    (case ts_NoPlace_NoKind => k_is)
    (case is_NoPlace_NoKind => k_is)
    (case sb_NoBytes_NoBytes => first | rfl | k_is | k_exc)
    (case bs_NoBytes_NoBytes => k_is)
    (case ts_NoBytes_NoBytes => k_is)
    (case is_NoBytes_NoBytes => k_is)
    (case sb_NoKind_NoBytes => first | rfl | k_is | k_exc)
    (case bs_NoKind_NoBytes => k_is)
    (case ts_NoKind_NoBytes => k_is)
    (case is_NoKind_NoBytes => k_is)
    (case sb_NoNumber_NoBytes => first | rfl | k_is | k_exc)
    (case bs_NoNumber_NoBytes => k_is)
    (case ts_NoNumber_NoBytes => k_is)
    (case is_NoNumber_NoBytes => k_is)
    (case sb_NoPlace_NoBytes => first | rfl | k_is | k_exc)
    (case bs_NoPlace_NoBytes => k_is)
    (case ts_NoPlace_NoBytes => k_is)
    (case is_NoPlace_NoBytes => k_is)
    (case sb_NoBytes_NoPlace => first | rfl | k_is | k_exc)
    (case bs_NoBytes_NoPlace => k_is)
    (case ts_NoBytes_NoPlace => k_is)
    (case is_NoBytes_NoPlace => k_is)
    (case sb_NoKind_NoPlace => first | rfl | k_is | k_exc)
    (case bs_NoKind_NoPlace => k_is)
    (case ts_NoKind_NoPlace => k_is)
    (case is_NoKind_NoPlace => k_is)
    (case sb_NoNumber_NoPlace => first | rfl | k_is | k_exc)
    (case bs_NoNumber_NoPlace => k_is)
    (case ts_NoNumber_NoPlace => k_is)
    (case is_NoNumber_NoPlace => k_is)
    (case sb_NoPlace_NoPlace => first | rfl | k_is | k_exc)
    (case bs_NoPlace_NoPlace => k_is)
    (case ts_NoPlace_NoPlace => k_is)
    (case is_NoPlace_NoPlace => k_is)
    (case sb_NoBytes_ScrollError => first | rfl | k_is | k_exc)
    (case bs_NoBytes_ScrollError => k_is)
    (case ts_NoBytes_ScrollError => k_is)
    (case is_NoBytes_ScrollError => k_is)
    (case sb_NoKind_ScrollError => first | rfl | k_is | k_exc)
    (case bs_NoKind_ScrollError => k_is)
    (case ts_NoKind_ScrollError => k_is)
    (case is_NoKind_ScrollError => k_is)
    (case sb_NoNumber_ScrollError => first | rfl | k_is | k_exc)
    (case bs_NoNumber_ScrollError => k_is)
    (case ts_NoNumber_ScrollError => k_is)
    (case is_NoNumber_ScrollError => k_is)
    (case sb_NoPlace_ScrollError => first | rfl | k_is | k_exc)
    (case bs_NoPlace_ScrollError => k_is)
    (case ts_NoPlace_ScrollError => k_is)
    (case is_NoPlace_ScrollError => k_is)
    (case io_NoBytes_NoBytes => first | rfl | k_is | k_exc)
    (case io_NoKind_NoBytes => first | rfl | k_is | k_exc)
    (case io_NoNumber_NoBytes => first | rfl | k_is | k_exc)
    (case io_NoPlace_NoBytes => first | rfl | k_is | k_exc)
    (case io_NoBytes_NoNumber => first | rfl | k_is | k_exc)
    (case io_NoKind_NoNumber => first | rfl | k_is | k_exc)
    (case io_NoNumber_NoNumber => first | rfl | k_is | k_exc)
    (case io_NoPlace_NoNumber => first | rfl | k_is | k_exc)
    (case io_NoBytes_NoPlace => first | rfl | k_is | k_exc)
    (case io_NoKind_NoPlace => first | rfl | k_is | k_exc)
    (case io_NoNumber_NoPlace => first | rfl | k_is | k_exc)
    (case io_NoPlace_NoPlace => first | rfl | k_is | k_exc)
    (case io_NoBytes_NoKind => first | rfl | k_is | k_exc)
    (case io_NoKind_NoKind => first | rfl | k_is | k_exc)
    (case io_NoNumber_NoKind => first | rfl | k_is | k_exc)
    (case io_NoPlace_NoKind => first | rfl | k_is | k_exc)
    (case lw30 => first | k_is | rfl | kernel_rfl)
    (case tv30 => first | rfl | kernel_rfl | decide +kernel)
    (case hd30 => first | rfl | kernel_rfl | decide +kernel)
    (case nt30 => first | rfl | kernel_rfl | decide +kernel)
    (case gt30 => exact PySem.W.km_tabs_of Y _ (by first | k_mem | simp))
    (case lw31 => first | k_is | rfl | kernel_rfl)
    (case tv31 => first | rfl | kernel_rfl | decide +kernel)
    (case hd31 => first | rfl | kernel_rfl | decide +kernel)
    (case nt31 => first | rfl | kernel_rfl | decide +kernel)
    (case gt31 => exact PySem.W.km_tabs_of Y _ (by first | k_mem | simp))
    (case nn30_31 => first | rfl | kernel_rfl | decide +kernel)
