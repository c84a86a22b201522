import PyProof.Rows.All
import Wide.All
import OpenK.AllK
import Wide.FinOn
import PySem.Challenge.RW_lanescroll_k04_rules_told_and_valued
import HandS.ForMost
import HandS.ForExc
import HandS.IsInst
import HandS.TupLe
import HandS.Wide
import HandS.Defaults
import HandS.ExcIs
import HandS.Style
import HandS.Walk
import KE.KCallOwn
import HandS.FStr
import HandS.MakeKwOnly
import HandS.Star
import PyProof.CollectIter
import PyProof.WalksMore
import HandS.CallLocal
import HandS.ExcOwn
set_option Elab.async false
set_option linter.all false
set_option maxRecDepth 100000
set_option maxHeartbeats 4000000
namespace LK
open PySem PySem.Spec PyProof.Rows L2
def topS (i : Nat) : Stmt := PySem.Challenge.pw_lanescroll_k04_rules_told_and_valued.main.body.getD i (.Pass ⟨0, 0, 0, 0⟩)
abbrev s_is_number : Stmt := topS 4
abbrev N_is_number : List Str := ["thing"]
theorem sc_is_number : FnScope N_is_number ["thing"] (defScope s_is_number) := ⟨rfl, rfl, rfl, by decide +kernel, rfl, by decide +kernel, by decide +kernel⟩
abbrev s_is_whole : Stmt := topS 5
abbrev N_is_whole : List Str := ["thing", "low", "high"]
theorem sc_is_whole : FnScope N_is_whole ["thing", "low", "high"] (defScope s_is_whole) := ⟨rfl, rfl, rfl, by decide +kernel, rfl, by decide +kernel, by decide +kernel⟩
abbrev s_Rule_told : Stmt := inClass (topS 10) 0
abbrev N_Rule_told : List Str := ["self"]
theorem sc_Rule_told : FnScope N_Rule_told ["self"] (defScope s_Rule_told) := ⟨rfl, rfl, rfl, by decide +kernel, rfl, by decide +kernel, by decide +kernel⟩
abbrev s_Rule_needs : Stmt := inClass (topS 10) 1
abbrev N_Rule_needs : List Str := ["self"]
theorem sc_Rule_needs : FnScope N_Rule_needs ["self"] (defScope s_Rule_needs) := ⟨rfl, rfl, rfl, by decide +kernel, rfl, by decide +kernel, by decide +kernel⟩
abbrev s_Rule_value : Stmt := inClass (topS 10) 2
abbrev N_Rule_value : List Str := ["self", "found"]
theorem sc_Rule_value : FnScope N_Rule_value ["self", "found"] (defScope s_Rule_value) := ⟨rfl, rfl, rfl, by decide +kernel, rfl, by decide +kernel, by decide +kernel⟩
abbrev s_Plain_init : Stmt := inClass (topS 11) 0
abbrev N_Plain_init : List Str := ["self", "value"]
theorem sc_Plain_init : FnScope N_Plain_init ["self", "value"] (defScope s_Plain_init) := ⟨rfl, rfl, rfl, by decide +kernel, rfl, by decide +kernel, by decide +kernel⟩
abbrev s_Plain_str : Stmt := inClass (topS 11) 1
abbrev N_Plain_str : List Str := ["self"]
theorem sc_Plain_str : FnScope N_Plain_str ["self"] (defScope s_Plain_str) := ⟨rfl, rfl, rfl, by decide +kernel, rfl, by decide +kernel, by decide +kernel⟩
abbrev s_Plain_told : Stmt := inClass (topS 11) 2
abbrev N_Plain_told : List Str := ["self"]
theorem sc_Plain_told : FnScope N_Plain_told ["self"] (defScope s_Plain_told) := ⟨rfl, rfl, rfl, by decide +kernel, rfl, by decide +kernel, by decide +kernel⟩
abbrev s_Plain_needs : Stmt := inClass (topS 11) 3
abbrev N_Plain_needs : List Str := ["self"]
theorem sc_Plain_needs : FnScope N_Plain_needs ["self"] (defScope s_Plain_needs) := ⟨rfl, rfl, rfl, by decide +kernel, rfl, by decide +kernel, by decide +kernel⟩
abbrev s_Plain_value : Stmt := inClass (topS 11) 4
abbrev N_Plain_value : List Str := ["self", "found"]
theorem sc_Plain_value : FnScope N_Plain_value ["self", "found"] (defScope s_Plain_value) := ⟨rfl, rfl, rfl, by decide +kernel, rfl, by decide +kernel, by decide +kernel⟩
abbrev s_Moved_init : Stmt := inClass (topS 12) 0
abbrev N_Moved_init : List Str := ["self", "back", "cell", "add"]
theorem sc_Moved_init : FnScope N_Moved_init ["self", "back", "cell", "add"] (defScope s_Moved_init) := ⟨rfl, rfl, rfl, by decide +kernel, rfl, by decide +kernel, by decide +kernel⟩
abbrev s_Moved_str : Stmt := inClass (topS 12) 1
abbrev N_Moved_str : List Str := ["self"]
theorem sc_Moved_str : FnScope N_Moved_str ["self"] (defScope s_Moved_str) := ⟨rfl, rfl, rfl, by decide +kernel, rfl, by decide +kernel, by decide +kernel⟩
abbrev s_Moved_told : Stmt := inClass (topS 12) 2
abbrev N_Moved_told : List Str := ["self"]
theorem sc_Moved_told : FnScope N_Moved_told ["self"] (defScope s_Moved_told) := ⟨rfl, rfl, rfl, by decide +kernel, rfl, by decide +kernel, by decide +kernel⟩
abbrev s_Moved_needs : Stmt := inClass (topS 12) 3
abbrev N_Moved_needs : List Str := ["self"]
theorem sc_Moved_needs : FnScope N_Moved_needs ["self"] (defScope s_Moved_needs) := ⟨rfl, rfl, rfl, by decide +kernel, rfl, by decide +kernel, by decide +kernel⟩
abbrev s_Moved_value : Stmt := inClass (topS 12) 4
abbrev N_Moved_value : List Str := ["self", "found"]
theorem sc_Moved_value : FnScope N_Moved_value ["self", "found"] (defScope s_Moved_value) := ⟨rfl, rfl, rfl, by decide +kernel, rfl, by decide +kernel, by decide +kernel⟩
abbrev s_Mixed_init : Stmt := inClass (topS 13) 0
abbrev N_Mixed_init : List Str := ["self", "back", "cell", "other_back", "other_cell"]
theorem sc_Mixed_init : FnScope N_Mixed_init ["self", "back", "cell", "other_back", "other_cell"] (defScope s_Mixed_init) := ⟨rfl, rfl, rfl, by decide +kernel, rfl, by decide +kernel, by decide +kernel⟩
abbrev s_Mixed_str : Stmt := inClass (topS 13) 1
abbrev N_Mixed_str : List Str := ["self"]
theorem sc_Mixed_str : FnScope N_Mixed_str ["self"] (defScope s_Mixed_str) := ⟨rfl, rfl, rfl, by decide +kernel, rfl, by decide +kernel, by decide +kernel⟩
abbrev s_Mixed_told : Stmt := inClass (topS 13) 2
abbrev N_Mixed_told : List Str := ["self"]
theorem sc_Mixed_told : FnScope N_Mixed_told ["self"] (defScope s_Mixed_told) := ⟨rfl, rfl, rfl, by decide +kernel, rfl, by decide +kernel, by decide +kernel⟩
abbrev s_Mixed_needs : Stmt := inClass (topS 13) 3
abbrev N_Mixed_needs : List Str := ["self"]
theorem sc_Mixed_needs : FnScope N_Mixed_needs ["self"] (defScope s_Mixed_needs) := ⟨rfl, rfl, rfl, by decide +kernel, rfl, by decide +kernel, by decide +kernel⟩
abbrev s_Mixed_value : Stmt := inClass (topS 13) 4
abbrev N_Mixed_value : List Str := ["self", "found"]
theorem sc_Mixed_value : FnScope N_Mixed_value ["self", "found"] (defScope s_Mixed_value) := ⟨rfl, rfl, rfl, by decide +kernel, rfl, by decide +kernel, by decide +kernel⟩
abbrev s_is_value : Stmt := topS 14
abbrev N_is_value : List Str := ["thing"]
theorem sc_is_value : FnScope N_is_value ["thing"] (defScope s_is_value) := ⟨rfl, rfl, rfl, by decide +kernel, rfl, by decide +kernel, by decide +kernel⟩
abbrev s_is_back : Stmt := topS 15
abbrev N_is_back : List Str := ["thing"]
theorem sc_is_back : FnScope N_is_back ["thing"] (defScope s_is_back) := ⟨rfl, rfl, rfl, by decide +kernel, rfl, by decide +kernel, by decide +kernel⟩
abbrev s_is_cell : Stmt := topS 16
abbrev N_is_cell : List Str := ["thing"]
theorem sc_is_cell : FnScope N_is_cell ["thing"] (defScope s_is_cell) := ⟨rfl, rfl, rfl, by decide +kernel, rfl, by decide +kernel, by decide +kernel⟩
abbrev s_is_rule : Stmt := topS 17
abbrev N_is_rule : List Str := ["thing", "kind"]
theorem sc_is_rule : FnScope N_is_rule ["thing"] (defScope s_is_rule) := ⟨rfl, rfl, rfl, by decide +kernel, rfl, by decide +kernel, by decide +kernel⟩
abbrev s_rule_of : Stmt := topS 18
abbrev N_rule_of : List Str := ["told", "kind", "numbers"]
theorem sc_rule_of : FnScope N_rule_of ["told"] (defScope s_rule_of) := ⟨rfl, rfl, rfl, by decide +kernel, rfl, by decide +kernel, by decide +kernel⟩
abbrev s_l_cell_at : Stmt := topS 20
abbrev N_l_cell_at : List Str := ["_law_script", "_law_k"]
theorem sc_l_cell_at : FnScope N_l_cell_at ["_law_script", "_law_k"] (defScope s_l_cell_at) := ⟨rfl, rfl, rfl, by decide +kernel, rfl, by decide +kernel, by decide +kernel⟩
abbrev s_l_well : Stmt := topS 21
abbrev N_l_well : List Str := ["_law_script", "_law_k", "_law_there"]
theorem sc_l_well : FnScope N_l_well ["_law_script", "_law_k"] (defScope s_l_well) := ⟨rfl, rfl, rfl, by decide +kernel, rfl, by decide +kernel, by decide +kernel⟩
abbrev s_l_draw : Stmt := topS 22
abbrev N_l_draw : List Str := ["_law_well_here", "_law_many", "_law_found", "_law_number"]
theorem sc_l_draw : FnScope N_l_draw ["_law_well_here", "_law_many"] (defScope s_l_draw) := ⟨rfl, rfl, rfl, by decide +kernel, rfl, by decide +kernel, by decide +kernel⟩
abbrev s_l_whole : Stmt := topS 23
abbrev N_l_whole : List Str := ["_law_thing"]
theorem sc_l_whole : FnScope N_l_whole ["_law_thing"] (defScope s_l_whole) := ⟨rfl, rfl, rfl, by decide +kernel, rfl, by decide +kernel, by decide +kernel⟩
abbrev s_l_edge : Stmt := topS 24
abbrev N_l_edge : List Str := ["_law_well_here", "_law_low", "_law_high", "_law_way"]
theorem sc_l_edge : FnScope N_l_edge ["_law_well_here", "_law_low", "_law_high"] (defScope s_l_edge) := ⟨rfl, rfl, rfl, by decide +kernel, rfl, by decide +kernel, by decide +kernel⟩
abbrev s_l_rule : Stmt := topS 25
abbrev N_l_rule : List Str := ["_law_well_here", "_law_way", "_law_alike", "_law_first", "_law_there"]
theorem sc_l_rule : FnScope N_l_rule ["_law_well_here"] (defScope s_l_rule) := ⟨rfl, rfl, rfl, by decide +kernel, rfl, by decide +kernel, by decide +kernel⟩
abbrev s_l_needs : Stmt := topS 26
abbrev N_l_needs : List Str := ["_law_row"]
theorem sc_l_needs : FnScope N_l_needs ["_law_row"] (defScope s_l_needs) := ⟨rfl, rfl, rfl, by decide +kernel, rfl, by decide +kernel, by decide +kernel⟩
abbrev s_l_worth : Stmt := topS 27
abbrev N_l_worth : List Str := ["_law_row", "_law_found"]
theorem sc_l_worth : FnScope N_l_worth ["_law_row", "_law_found"] (defScope s_l_worth) := ⟨rfl, rfl, rfl, by decide +kernel, rfl, by decide +kernel, by decide +kernel⟩
abbrev s_l_word : Stmt := topS 28
abbrev N_l_word : List Str := ["_law_row"]
theorem sc_l_word : FnScope N_l_word ["_law_row"] (defScope s_l_word) := ⟨rfl, rfl, rfl, by decide +kernel, rfl, by decide +kernel, by decide +kernel⟩
abbrev s_l_by_name : Stmt := topS 29
abbrev N_l_by_name : List Str := ["_law_row"]
theorem sc_l_by_name : FnScope N_l_by_name ["_law_row"] (defScope s_l_by_name) := ⟨rfl, rfl, rfl, by decide +kernel, rfl, by decide +kernel, by decide +kernel⟩
abbrev s_l_of_its_class : Stmt := topS 30
abbrev N_l_of_its_class : List Str := ["_law_rule_here", "_law_row"]
theorem sc_l_of_its_class : FnScope N_l_of_its_class ["_law_rule_here", "_law_row"] (defScope s_l_of_its_class) := ⟨rfl, rfl, rfl, by decide +kernel, rfl, by decide +kernel, by decide +kernel⟩
abbrev s_l_numbers : Stmt := topS 31
abbrev N_l_numbers : List Str := ["_law_row", "_law_wanted", "_law_one"]
theorem sc_l_numbers : FnScope N_l_numbers ["_law_row", "_law_wanted"] (defScope s_l_numbers) := ⟨rfl, rfl, rfl, by decide +kernel, rfl, by decide +kernel, by decide +kernel⟩
abbrev s_l_pairs : Stmt := topS 32
abbrev N_l_pairs : List Str := ["_law_found", "_law_wanted", "_law_one", "_law_two"]
theorem sc_l_pairs : FnScope N_l_pairs ["_law_found", "_law_wanted"] (defScope s_l_pairs) := ⟨rfl, rfl, rfl, by decide +kernel, rfl, by decide +kernel, by decide +kernel⟩
abbrev s_l_right : Stmt := topS 33
abbrev N_l_right : List Str := ["_law_rule_here", "_law_row", "_law_worths", "_law_pairs_here", "_law_listed", "_law_handed", "_law_worth_here"]
theorem sc_l_right : FnScope N_l_right ["_law_rule_here", "_law_row", "_law_worths"] (defScope s_l_right) := ⟨rfl, rfl, rfl, by decide +kernel, rfl, by decide +kernel, by decide +kernel⟩
abbrev s_law : Stmt := topS 34
abbrev N_law : List Str := ["_law_script", "_law_row", "_law_other_told", "_law_well_here", "_law_worths", "_law_others", "_law_rule_here", "_law_other"]
theorem sc_law : FnScope N_law ["_law_script"] (defScope s_law) := ⟨rfl, rfl, rfl, by decide +kernel, rfl, by decide +kernel, by decide +kernel⟩
def kg_Mixed_init_other_cell_other_back {α : Type} : List α → List α → List α
  | [u0, u1, u2], [w0, w1] => [u0, u1, u2, w1, w0]
  | _, _ => []
def kg_Plain_init_value {α : Type} : List α → List α → List α
  | [u0], [w0] => [u0, w0]
  | _, _ => []
def kg_Moved_init_add_back_cell {α : Type} : List α → List α → List α
  | [u0], [w0, w1, w2] => [u0, w1, w2, w0]
  | _, _ => []
def kg_rule_of_told {α : Type} : List α → List α → List α
  | [], [w0] => [w0]
  | _, _ => []
structure Txt (K : PySem.W.Frag) (mg : Str → Option Value) : Type where
  a_is_number : Addr
  d_is_number : FuncData
  F_is_number : Fun K "is_number" "is_number" s_is_number a_is_number d_is_number
  g_is_number : mg "is_number" = some (.ref a_is_number)
  b_is_number : Binds K d_is_number ["thing"] []
  a_is_whole : Addr
  d_is_whole : FuncData
  F_is_whole : Fun K "is_whole" "is_whole" s_is_whole a_is_whole d_is_whole
  g_is_whole : mg "is_whole" = some (.ref a_is_whole)
  b_is_whole : Binds K d_is_whole ["thing", "low", "high"] []
  a_Rule_told : Addr
  d_Rule_told : FuncData
  F_Rule_told : Fun K "told" "Rule.told" s_Rule_told a_Rule_told d_Rule_told
  b_Rule_told : Binds K d_Rule_told ["self"] []
  a_Rule_needs : Addr
  d_Rule_needs : FuncData
  F_Rule_needs : Fun K "needs" "Rule.needs" s_Rule_needs a_Rule_needs d_Rule_needs
  b_Rule_needs : Binds K d_Rule_needs ["self"] []
  a_Rule_value : Addr
  d_Rule_value : FuncData
  F_Rule_value : Fun K "value" "Rule.value" s_Rule_value a_Rule_value d_Rule_value
  b_Rule_value : Binds K d_Rule_value ["self", "found"] []
  a_Plain_init : Addr
  d_Plain_init : FuncData
  F_Plain_init : Fun K "__init__" "Plain.__init__" s_Plain_init a_Plain_init d_Plain_init
  b_Plain_init : Binds K d_Plain_init ["self", "value"] []
  a_Plain_str : Addr
  d_Plain_str : FuncData
  F_Plain_str : Fun K "__str__" "Plain.__str__" s_Plain_str a_Plain_str d_Plain_str
  b_Plain_str : Binds K d_Plain_str ["self"] []
  a_Plain_told : Addr
  d_Plain_told : FuncData
  F_Plain_told : Fun K "told" "Plain.told" s_Plain_told a_Plain_told d_Plain_told
  b_Plain_told : Binds K d_Plain_told ["self"] []
  a_Plain_needs : Addr
  d_Plain_needs : FuncData
  F_Plain_needs : Fun K "needs" "Plain.needs" s_Plain_needs a_Plain_needs d_Plain_needs
  b_Plain_needs : Binds K d_Plain_needs ["self"] []
  a_Plain_value : Addr
  d_Plain_value : FuncData
  F_Plain_value : Fun K "value" "Plain.value" s_Plain_value a_Plain_value d_Plain_value
  b_Plain_value : Binds K d_Plain_value ["self", "found"] []
  a_Moved_init : Addr
  d_Moved_init : FuncData
  F_Moved_init : Fun K "__init__" "Moved.__init__" s_Moved_init a_Moved_init d_Moved_init
  b_Moved_init : Binds K d_Moved_init ["self", "back", "cell", "add"] []
  a_Moved_str : Addr
  d_Moved_str : FuncData
  F_Moved_str : Fun K "__str__" "Moved.__str__" s_Moved_str a_Moved_str d_Moved_str
  b_Moved_str : Binds K d_Moved_str ["self"] []
  a_Moved_told : Addr
  d_Moved_told : FuncData
  F_Moved_told : Fun K "told" "Moved.told" s_Moved_told a_Moved_told d_Moved_told
  b_Moved_told : Binds K d_Moved_told ["self"] []
  a_Moved_needs : Addr
  d_Moved_needs : FuncData
  F_Moved_needs : Fun K "needs" "Moved.needs" s_Moved_needs a_Moved_needs d_Moved_needs
  b_Moved_needs : Binds K d_Moved_needs ["self"] []
  a_Moved_value : Addr
  d_Moved_value : FuncData
  F_Moved_value : Fun K "value" "Moved.value" s_Moved_value a_Moved_value d_Moved_value
  b_Moved_value : Binds K d_Moved_value ["self", "found"] []
  a_Mixed_init : Addr
  d_Mixed_init : FuncData
  F_Mixed_init : Fun K "__init__" "Mixed.__init__" s_Mixed_init a_Mixed_init d_Mixed_init
  b_Mixed_init : Binds K d_Mixed_init ["self", "back", "cell", "other_back", "other_cell"] []
  a_Mixed_str : Addr
  d_Mixed_str : FuncData
  F_Mixed_str : Fun K "__str__" "Mixed.__str__" s_Mixed_str a_Mixed_str d_Mixed_str
  b_Mixed_str : Binds K d_Mixed_str ["self"] []
  a_Mixed_told : Addr
  d_Mixed_told : FuncData
  F_Mixed_told : Fun K "told" "Mixed.told" s_Mixed_told a_Mixed_told d_Mixed_told
  b_Mixed_told : Binds K d_Mixed_told ["self"] []
  a_Mixed_needs : Addr
  d_Mixed_needs : FuncData
  F_Mixed_needs : Fun K "needs" "Mixed.needs" s_Mixed_needs a_Mixed_needs d_Mixed_needs
  b_Mixed_needs : Binds K d_Mixed_needs ["self"] []
  a_Mixed_value : Addr
  d_Mixed_value : FuncData
  F_Mixed_value : Fun K "value" "Mixed.value" s_Mixed_value a_Mixed_value d_Mixed_value
  b_Mixed_value : Binds K d_Mixed_value ["self", "found"] []
  a_is_value : Addr
  d_is_value : FuncData
  F_is_value : Fun K "is_value" "is_value" s_is_value a_is_value d_is_value
  g_is_value : mg "is_value" = some (.ref a_is_value)
  b_is_value : Binds K d_is_value ["thing"] []
  a_is_back : Addr
  d_is_back : FuncData
  F_is_back : Fun K "is_back" "is_back" s_is_back a_is_back d_is_back
  g_is_back : mg "is_back" = some (.ref a_is_back)
  b_is_back : Binds K d_is_back ["thing"] []
  a_is_cell : Addr
  d_is_cell : FuncData
  F_is_cell : Fun K "is_cell" "is_cell" s_is_cell a_is_cell d_is_cell
  g_is_cell : mg "is_cell" = some (.ref a_is_cell)
  b_is_cell : Binds K d_is_cell ["thing"] []
  a_is_rule : Addr
  d_is_rule : FuncData
  F_is_rule : Fun K "is_rule" "is_rule" s_is_rule a_is_rule d_is_rule
  g_is_rule : mg "is_rule" = some (.ref a_is_rule)
  b_is_rule : Binds K d_is_rule ["thing"] []
  a_rule_of : Addr
  d_rule_of : FuncData
  F_rule_of : Fun K "rule_of" "rule_of" s_rule_of a_rule_of d_rule_of
  g_rule_of : mg "rule_of" = some (.ref a_rule_of)
  b_rule_of : Binds K d_rule_of ["told"] []
  a_l_cell_at : Addr
  d_l_cell_at : FuncData
  F_l_cell_at : Fun K "_law_cell_at" "_law_cell_at" s_l_cell_at a_l_cell_at d_l_cell_at
  g_l_cell_at : mg "_law_cell_at" = some (.ref a_l_cell_at)
  b_l_cell_at : Binds K d_l_cell_at ["_law_script", "_law_k"] []
  a_l_well : Addr
  d_l_well : FuncData
  F_l_well : Fun K "_law_well" "_law_well" s_l_well a_l_well d_l_well
  g_l_well : mg "_law_well" = some (.ref a_l_well)
  b_l_well : Binds K d_l_well ["_law_script", "_law_k"] []
  a_l_draw : Addr
  d_l_draw : FuncData
  F_l_draw : Fun K "_law_draw" "_law_draw" s_l_draw a_l_draw d_l_draw
  g_l_draw : mg "_law_draw" = some (.ref a_l_draw)
  b_l_draw : Binds K d_l_draw ["_law_well_here", "_law_many"] []
  a_l_whole : Addr
  d_l_whole : FuncData
  F_l_whole : Fun K "_law_whole" "_law_whole" s_l_whole a_l_whole d_l_whole
  g_l_whole : mg "_law_whole" = some (.ref a_l_whole)
  b_l_whole : Binds K d_l_whole ["_law_thing"] []
  a_l_edge : Addr
  d_l_edge : FuncData
  F_l_edge : Fun K "_law_edge" "_law_edge" s_l_edge a_l_edge d_l_edge
  g_l_edge : mg "_law_edge" = some (.ref a_l_edge)
  b_l_edge : Binds K d_l_edge ["_law_well_here", "_law_low", "_law_high"] []
  a_l_rule : Addr
  d_l_rule : FuncData
  F_l_rule : Fun K "_law_rule" "_law_rule" s_l_rule a_l_rule d_l_rule
  g_l_rule : mg "_law_rule" = some (.ref a_l_rule)
  b_l_rule : Binds K d_l_rule ["_law_well_here"] []
  a_l_needs : Addr
  d_l_needs : FuncData
  F_l_needs : Fun K "_law_needs" "_law_needs" s_l_needs a_l_needs d_l_needs
  g_l_needs : mg "_law_needs" = some (.ref a_l_needs)
  b_l_needs : Binds K d_l_needs ["_law_row"] []
  a_l_worth : Addr
  d_l_worth : FuncData
  F_l_worth : Fun K "_law_worth" "_law_worth" s_l_worth a_l_worth d_l_worth
  g_l_worth : mg "_law_worth" = some (.ref a_l_worth)
  b_l_worth : Binds K d_l_worth ["_law_row", "_law_found"] []
  a_l_word : Addr
  d_l_word : FuncData
  F_l_word : Fun K "_law_word" "_law_word" s_l_word a_l_word d_l_word
  g_l_word : mg "_law_word" = some (.ref a_l_word)
  b_l_word : Binds K d_l_word ["_law_row"] []
  a_l_by_name : Addr
  d_l_by_name : FuncData
  F_l_by_name : Fun K "_law_by_name" "_law_by_name" s_l_by_name a_l_by_name d_l_by_name
  g_l_by_name : mg "_law_by_name" = some (.ref a_l_by_name)
  b_l_by_name : Binds K d_l_by_name ["_law_row"] []
  a_l_of_its_class : Addr
  d_l_of_its_class : FuncData
  F_l_of_its_class : Fun K "_law_of_its_class" "_law_of_its_class" s_l_of_its_class a_l_of_its_class d_l_of_its_class
  g_l_of_its_class : mg "_law_of_its_class" = some (.ref a_l_of_its_class)
  b_l_of_its_class : Binds K d_l_of_its_class ["_law_rule_here", "_law_row"] []
  a_l_numbers : Addr
  d_l_numbers : FuncData
  F_l_numbers : Fun K "_law_numbers" "_law_numbers" s_l_numbers a_l_numbers d_l_numbers
  g_l_numbers : mg "_law_numbers" = some (.ref a_l_numbers)
  b_l_numbers : Binds K d_l_numbers ["_law_row", "_law_wanted"] []
  a_l_pairs : Addr
  d_l_pairs : FuncData
  F_l_pairs : Fun K "_law_pairs" "_law_pairs" s_l_pairs a_l_pairs d_l_pairs
  g_l_pairs : mg "_law_pairs" = some (.ref a_l_pairs)
  b_l_pairs : Binds K d_l_pairs ["_law_found", "_law_wanted"] []
  a_l_right : Addr
  d_l_right : FuncData
  F_l_right : Fun K "_law_right" "_law_right" s_l_right a_l_right d_l_right
  g_l_right : mg "_law_right" = some (.ref a_l_right)
  b_l_right : Binds K d_l_right ["_law_rule_here", "_law_row", "_law_worths"] []
  a_law : Addr
  d_law : FuncData
  F_law : Fun K "law" "law" s_law a_law d_law
  g_law : mg "law" = some (.ref a_law)
  b_law : Binds K d_law ["_law_script"] []
  kb_Mixed_init_other_cell_other_back : KBn K d_Mixed_init ["self", "back", "cell", "other_back", "other_cell"] 3 ["other_cell", "other_back"] (fun us ws => kg_Mixed_init_other_cell_other_back us ws) (fun us ws => kg_Mixed_init_other_cell_other_back us ws)
  kb_Plain_init_value : KBn K d_Plain_init ["self", "value"] 1 ["value"] (fun us ws => kg_Plain_init_value us ws) (fun us ws => kg_Plain_init_value us ws)
  kb_Moved_init_add_back_cell : KBn K d_Moved_init ["self", "back", "cell", "add"] 1 ["add", "back", "cell"] (fun us ws => kg_Moved_init_add_back_cell us ws) (fun us ws => kg_Moved_init_add_back_cell us ws)
  kb_rule_of_told : KBn K d_rule_of ["told"] 0 ["told"] (fun us ws => kg_rule_of_told us ws) (fun us ws => kg_rule_of_told us ws)
  m_all : mg "all" = none
  m_bool : mg "bool" = none
  m_int : mg "int" = none
  m_isinstance : mg "isinstance" = none
  m_len : mg "len" = none
  m_list : mg "list" = none
  m_str : mg "str" = none
  m_tuple : mg "tuple" = none
  m_zip : mg "zip" = none
  c_ScrollError : Addr
  g_ScrollError : mg "ScrollError" = some (.ref c_ScrollError)
  c_NoRule : Addr
  g_NoRule : mg "NoRule" = some (.ref c_NoRule)
  c_Rule : Addr
  g_Rule : mg "Rule" = some (.ref c_Rule)
  c_Plain : Addr
  g_Plain : mg "Plain" = some (.ref c_Plain)
  c_Moved : Addr
  g_Moved : mg "Moved" = some (.ref c_Moved)
  c_Mixed : Addr
  g_Mixed : mg "Mixed" = some (.ref c_Mixed)
  ct_GREATEST_VALUE : Tok
  g_GREATEST_VALUE : mg "GREATEST_VALUE" = some (.int 255 ct_GREATEST_VALUE)
  ct_GREATEST_BACK : Tok
  g_GREATEST_BACK : mg "GREATEST_BACK" = some (.int 200 ct_GREATEST_BACK)
  ct_LAST_CELL : Tok
  g_LAST_CELL : mg "LAST_CELL" = some (.int 15 ct_LAST_CELL)
  cl_Rule : Cls K c_Rule
  mkk_Rule : PySem.W.makesIn K c_Rule = true
  na_Rule_worth : NoAttr K c_Rule "worth"
  na_Rule_back : NoAttr K c_Rule "back"
  na_Rule_cell : NoAttr K c_Rule "cell"
  na_Rule_added : NoAttr K c_Rule "added"
  na_Rule_other_back : NoAttr K c_Rule "other_back"
  na_Rule_other_cell : NoAttr K c_Rule "other_cell"
  mt_Rule_told : Meth K c_Rule "told" a_Rule_told
  mt_Rule_needs : Meth K c_Rule "needs" a_Rule_needs
  mt_Rule_value : Meth K c_Rule "value" a_Rule_value
  cl_Plain : Cls K c_Plain
  mkk_Plain : PySem.W.makesIn K c_Plain = true
  na_Plain_worth : NoAttr K c_Plain "worth"
  na_Plain_back : NoAttr K c_Plain "back"
  na_Plain_cell : NoAttr K c_Plain "cell"
  na_Plain_added : NoAttr K c_Plain "added"
  na_Plain_other_back : NoAttr K c_Plain "other_back"
  na_Plain_other_cell : NoAttr K c_Plain "other_cell"
  mk_Plain : Mk K c_Plain a_Plain_init
  mt_Plain_str : Meth K c_Plain "__str__" a_Plain_str
  mt_Plain_told : Meth K c_Plain "told" a_Plain_told
  mt_Plain_needs : Meth K c_Plain "needs" a_Plain_needs
  mt_Plain_value : Meth K c_Plain "value" a_Plain_value
  cl_Moved : Cls K c_Moved
  mkk_Moved : PySem.W.makesIn K c_Moved = true
  na_Moved_worth : NoAttr K c_Moved "worth"
  na_Moved_back : NoAttr K c_Moved "back"
  na_Moved_cell : NoAttr K c_Moved "cell"
  na_Moved_added : NoAttr K c_Moved "added"
  na_Moved_other_back : NoAttr K c_Moved "other_back"
  na_Moved_other_cell : NoAttr K c_Moved "other_cell"
  mk_Moved : Mk K c_Moved a_Moved_init
  mt_Moved_str : Meth K c_Moved "__str__" a_Moved_str
  mt_Moved_told : Meth K c_Moved "told" a_Moved_told
  mt_Moved_needs : Meth K c_Moved "needs" a_Moved_needs
  mt_Moved_value : Meth K c_Moved "value" a_Moved_value
  cl_Mixed : Cls K c_Mixed
  mkk_Mixed : PySem.W.makesIn K c_Mixed = true
  na_Mixed_worth : NoAttr K c_Mixed "worth"
  na_Mixed_back : NoAttr K c_Mixed "back"
  na_Mixed_cell : NoAttr K c_Mixed "cell"
  na_Mixed_added : NoAttr K c_Mixed "added"
  na_Mixed_other_back : NoAttr K c_Mixed "other_back"
  na_Mixed_other_cell : NoAttr K c_Mixed "other_cell"
  mk_Mixed : Mk K c_Mixed a_Mixed_init
  mt_Mixed_str : Meth K c_Mixed "__str__" a_Mixed_str
  mt_Mixed_told : Meth K c_Mixed "told" a_Mixed_told
  mt_Mixed_needs : Meth K c_Mixed "needs" a_Mixed_needs
  mt_Mixed_value : Meth K c_Mixed "value" a_Mixed_value
  x_NoRule : PySem.W.excIn K c_NoRule [.type "ValueError", .type "Exception", .type "BaseException", .type "object"] "ValueError.__new__" = true
  k_NoRule : PySem.W.keepIn K (.ref c_NoRule) = true
  bb_NoRule : PySem.W.subIn K (.ref c_NoRule) (.type "BaseException") = some true
  t_NoRule : PySem.W.typeIn K (.ref c_NoRule) = some (.type "type")
  xc_NoRule : ExcC K c_NoRule
  ki_Rule_Mixed : PySem.W.kitOne K (.ref c_Rule) (.ref c_Mixed) = some false
  ki_Plain_Mixed : PySem.W.kitOne K (.ref c_Plain) (.ref c_Mixed) = some false
  ki_Moved_Mixed : PySem.W.kitOne K (.ref c_Moved) (.ref c_Mixed) = some false
  ki_Mixed_Mixed : PySem.W.kitOne K (.ref c_Mixed) (.ref c_Mixed) = some true
  ki_Rule_Rule : PySem.W.kitOne K (.ref c_Rule) (.ref c_Rule) = some true
  ki_Plain_Rule : PySem.W.kitOne K (.ref c_Plain) (.ref c_Rule) = some true
  ki_Moved_Rule : PySem.W.kitOne K (.ref c_Moved) (.ref c_Rule) = some true
  ki_Mixed_Rule : PySem.W.kitOne K (.ref c_Mixed) (.ref c_Rule) = some true
  ki_Rule_Plain : PySem.W.kitOne K (.ref c_Rule) (.ref c_Plain) = some false
  ki_Plain_Plain : PySem.W.kitOne K (.ref c_Plain) (.ref c_Plain) = some true
  ki_Moved_Plain : PySem.W.kitOne K (.ref c_Moved) (.ref c_Plain) = some false
  ki_Mixed_Plain : PySem.W.kitOne K (.ref c_Mixed) (.ref c_Plain) = some false
  ki_Rule_Moved : PySem.W.kitOne K (.ref c_Rule) (.ref c_Moved) = some false
  ki_Plain_Moved : PySem.W.kitOne K (.ref c_Plain) (.ref c_Moved) = some false
  ki_Moved_Moved : PySem.W.kitOne K (.ref c_Moved) (.ref c_Moved) = some true
  ki_Mixed_Moved : PySem.W.kitOne K (.ref c_Mixed) (.ref c_Moved) = some false
  ty_Rule : ∀ {H : Hp} {a dx : Addr} {fs : List (Str × V)}, H a = some (.ins c_Rule dx fs) → TyX K H (.ref a) (.ref c_Rule)
  ty_Plain : ∀ {H : Hp} {a dx : Addr} {fs : List (Str × V)}, H a = some (.ins c_Plain dx fs) → TyX K H (.ref a) (.ref c_Plain)
  ty_Moved : ∀ {H : Hp} {a dx : Addr} {fs : List (Str × V)}, H a = some (.ins c_Moved dx fs) → TyX K H (.ref a) (.ref c_Moved)
  ty_Mixed : ∀ {H : Hp} {a dx : Addr} {fs : List (Str × V)}, H a = some (.ins c_Mixed dx fs) → TyX K H (.ref a) (.ref c_Mixed)
/-! ### heaps -/
/-- all but what stands at p is as it was -/
def Frm (p : Addr) (H H' : Hp) : Prop := ∀ b o, b ≠ p → H b = some o → H' b = some o
theorem Frm.get {p q : Addr} {H H' : Hp} {o : HO} (f : Frm p H H') (n : q ≠ p) (h : H q = some o) : H' q = some o := f q o n h
theorem Frm.refl {p : Addr} {H : Hp} : Frm p H H := fun _ _ _ h => h
theorem Frm.trans {p : Addr} {H H1 H2 : Hp} (a : Frm p H H1) (b : Frm p H1 H2) : Frm p H H2 := fun c o n h => b c o n (a c o n h)
theorem Frm.upd {p : Addr} {H : Hp} {o : HO} : Frm p H (upd H p o) := fun c u n h => by rw [upd_ne n]; exact h
theorem upd_old {H : Hp} {a q : Addr} {o o' : HO} (na : H a = none) (h : H q = some o) : upd H a o' q = some o := by
  rw [upd_ne (ne_of_none h na)]; exact h
theorem upd_oth {H : Hp} {a q : Addr} {o o' : HO} (na : q ≠ a) (h : H q = some o) : upd H a o' q = some o := by
  rw [upd_ne na]; exact h
theorem Frm.new {p a : Addr} {H H' : Hp} {o : HO} (f : Frm p H H') (na : H' a = none) : Frm p H (L2.upd H' a o) := fun c u n h => upd_old na (f c u n h)
theorem Frm.upd2 {p : Addr} {H H' : Hp} {o : HO} (f : Frm p H H') : Frm p H (L2.upd H' p o) := f.trans .upd
theorem Frm.own {p a : Addr} {H H' : Hp} {o : HO} (f : Frm p H H') (na : H a = none) : Frm p H (L2.upd H' a o) := fun c u n h => upd_oth (ne_of_none h na) (f c u n h)
theorem Frm.new2 {p a : Addr} {H H' : Hp} {o o2 : HO} (f : Frm p H H') (na : H' a = none) : Frm p H (L2.upd (L2.upd H' a o2) a o) := by rw [upd_upd]; exact f.new na
theorem upd_old2 {H : Hp} {a q : Addr} {o o' o2 : HO} (na : H a = none) (h : H q = some o) : upd (upd H a o2) a o' q = some o := by rw [upd_upd]; exact upd_old na h
theorem new_ne {H : Hp} {a q : Addr} {o : HO} (na : H a = none) (h : H q = some o) : a ≠ q := fun e => by subst e; rw [na] at h; cases h
theorem Same.get {q : Addr} {H H' : Hp} {o : HO} (f : Same H H') (h : H q = some o) : H' q = some o := f q o h
theorem Same.new {a : Addr} {H H' : Hp} {o : HO} (f : Same H H') (na : H' a = none) : Same H (L2.upd H' a o) := fun c u h => upd_old na (f c u h)
theorem Same.new2 {a : Addr} {H H' : Hp} {o o2 : HO} (f : Same H H') (na : H' a = none) : Same H (L2.upd (L2.upd H' a o2) a o) := by rw [upd_upd]; exact Same.new f na
theorem Same.own {a : Addr} {H H' : Hp} {o : HO} (f : Same H H') (na : H a = none) : Same H (L2.upd H' a o) := fun c u h => upd_oth (ne_of_none h na) (f c u h)
theorem Same.frm {p : Addr} {H H' : Hp} (f : Same H H') : Frm p H H' := fun c u _ h => f c u h
/-- what is new to an elder heap and stands apart is no matter -/
theorem Frm.same {p : Addr} {H H' : Hp} (f : Frm p H H') (n : H p = none) : Same H H' := fun c u h => f c u (ne_of_none h n) h
theorem Same.byFrm {p : Addr} {H H1 H2 : Hp} (f : Same H H1) (g : Frm p H1 H2) (n : H p = none) : Same H H2 := fun c u h => g c u (ne_of_none h n) (f c u h)
theorem Frm.none {p q : Addr} {H H' : Hp} (f : Frm p H H') (n : q ≠ p) (h : H' q = none) : H q = none := by
  cases e : H q with
  | none => rfl
  | some o => rw [f q o n e] at h; cases h
theorem Same.none {q : Addr} {H H' : Hp} (f : Same H H') (h : H' q = none) : H q = none := by
  cases e : H q with
  | none => rfl
  | some o => rw [f q o e] at h; cases h
/-! ### sizes, ifs -/
theorem szb {n : Nat} (h : n ≤ 16000000) : n ≤ sizeLine := Nat.le_trans h (by decide)
theorem szbl {n : Nat} (h : n ≤ 16000000) : n < sizeLine := Nat.lt_of_le_of_lt h (by decide)
theorem sz {n : Nat} (h : Nat.ble n 1000 = true) : n ≤ sizeLine := Nat.le_trans (Nat.le_of_ble_eq_true h) (by decide)
theorem szl {n : Nat} (h : Nat.ble n 1000 = true) : n < sizeLine := Nat.lt_of_le_of_lt (Nat.le_of_ble_eq_true h) (by decide)
theorem szn {n : Nat} (h : n ≤ 1000) : n ≤ sizeLine := Nat.le_trans h (by decide)
theorem sznl {n : Nat} (h : n ≤ 1000) : n < sizeLine := Nat.lt_of_le_of_lt h (by decide)
theorem ifT {c : Bool} {A B : Prop} (h : c = true) (a : A) : if c = true then A else B := by rw [if_pos h]; exact a
theorem ifF {c : Bool} {A B : Prop} (h : c = false) (b : B) : if c = true then A else B := by rw [h, if_neg Bool.false_ne_true]; exact b
theorem ifC {c : Bool} {A B : Prop} (a : c = true → A) (b : c = false → B) : if c = true then A else B := by
  cases c with
  | true => exact ifT rfl (a rfl)
  | false => exact ifF rfl (b rfl)
theorem ifAnd {k1 k2 : Bool} {A : Prop} {Q : VK} {H : Hp} (a : Q (.bl k2) H → A) (h : Q (.bl (k1 && k2)) H) : if k1 = true then A else Q (.bl false) H := by
  cases k1 with
  | true => exact ifT rfl (a h)
  | false => exact ifF rfl h
/-! ### items at a drawn place -/
theorem at_nn {α : Type} {xs : List α} {d : Int} (h0 : 0 ≤ d) (h1 : d < xs.length) : ∃ v, atI xs d = some v ∧ v ∈ xs ∧ xs[d.toNat]? = some v := by
  have h2 : d.toNat < xs.length := by omega
  have e : (d.toNat : Int) = d := by omega
  have k := atI_nat (List.getElem?_eq_getElem h2)
  rw [e] at k
  exact ⟨xs[d.toNat], k, List.getElem_mem h2, List.getElem?_eq_getElem h2⟩
theorem ixP {K : PySem.W.Frag} {H : Hp} {Q : VK} {p : Addr} {xs : List V} {d : Int} (R : V → Prop) (hp : SqL K H p xs) (h0 : 0 ≤ d) (h1 : d < xs.length) (all : ∀ v ∈ xs, R v) (k : ∀ v, R v → Q v H) : rIxL K (.ref p) (.int d) H Q := by
  obtain ⟨v, e, m, _⟩ := at_nn h0 h1
  exact ⟨_, _, _, _, rfl, rfl, hp, e, k v (all v m)⟩
theorem ixG {K : PySem.W.Frag} {H : Hp} {Q : VK} {p : Addr} {xs : List V} {d : Int} (hp : SqL K H p xs) (h0 : 0 ≤ d) (h1 : d < xs.length) (k : ∀ v, xs[d.toNat]? = some v → Q v H) : rIxL K (.ref p) (.int d) H Q := by
  obtain ⟨v, e, _, m⟩ := at_nn h0 h1
  exact ⟨_, _, _, _, rfl, rfl, hp, e, k v m⟩
def isI : V → Bool
  | .int _ => true
  | _ => false
theorem ixI {K : PySem.W.Frag} {H : Hp} {Q : VK} {p : Addr} {xs : List V} {d : Int} (hp : SqL K H p xs) (h0 : 0 ≤ d) (h1 : d < xs.length) (all : xs.all isI = true) (k : ∀ i, V.int i ∈ xs → Q (.int i) H) : rIxL K (.ref p) (.int d) H Q := by
  refine ixP (fun v => (∃ i, v = .int i) ∧ v ∈ xs) hp h0 h1 (fun v hv => ⟨?_, hv⟩) (fun v ⟨⟨i, e⟩, m⟩ => ?_)
  · have := List.all_eq_true.mp all v hv
    cases v <;> first | exact ⟨_, rfl⟩ | cases this
  · subst e; exact k i m
/-! ### a call with keywords alone -/
section
variable {X : Cx} {CX : CXT} {k : Nat} {f : Addr} {fd : FuncData} {ps ks : List Str} {sp : Sp} {E : XK} {x : Str} {p pos : Pos} {kws : List Keyword} {tk : TA} {g : List Value → List Value → List Value} {gV : List V → List V → List V}
theorem pe_callN0 (F : FnOk X.prog X.w X.K X.mg X.base CX k f fd ps sp) (hr : Room k X.A) (hg : Gl X x) (hm : X.mg x = some (.ref f)) (hk : PySem.W.keepIn X.K (.ref f) = true) (hb : KBn X.K fd ps 0 ks g gV) (hx : Passes CX X E)
    (hkw : PK X kws tk) (hall : (backToKw pos (keywordEach kws X.env)).all (·.1.isSome) = true := by rfl) (hks : (backToKw pos (keywordEach kws X.env)).filterMap (·.1) = ks := by rfl)
    (hdb : (x == ("__debug__" : Str)) = false := by decide)
    (hpl : ((backTo pos (starEach [] X.env)).any (·.1) || (backToKw pos (keywordEach kws X.env)).any (·.1.isNone)) = false := by rfl) :
    PE X (.Call (.Name x p) [] kws pos) (tCallN 0 ks.length sp gV E tNil tk) := by
  refine ⟨fun pins s σ H Q I h => ?_⟩
  refine wpAny_Call_Name_kw (ld_glob I hg hm ?_ hdb)
  refine PySem.W.callWith_KW0 (h₀ := X.base) I.ok.mod.kin hk hall (thn (hkw.run pos pins s σ H _ I h) fun ws s2 ⟨zs, H2, I2, rz, l1, l2, q2⟩ => ⟨I2.kIn, ?_⟩) hpl
  rw [hks]
  exact run_fnN F hr hb hx I2 .nil rz rfl l2 q2
end
section
variable {K : PySem.W.Frag} {x qual : Str} {st : Stmt} {f : Addr} {fd : FuncData} {ps ks : List Str} {n : Nat}
theorem kbAll {F : Fun K x qual st f fd} {g : {α : Type} → List α → List α → List α} (h : ∀ (kV doc pm : Value) (an : Option Addr) (cdv ct : Value) (us ws : List Value), us.length = n → ws.length = ks.length →
    bindArgs (PySem.W.fnOf x qual (defArgs st) (defBody st) (defScope st) .none kV doc pm an cdv ct) ⟨us, ks.zip ws⟩ = pure (ps.zip (g us ws)))
    (hrel : ∀ {vs : List V} {us : List Value} {zs : List V} {ws : List Value}, Vals vs us → Vals zs ws → Vals (g vs zs) (g us ws)) : KBn K fd ps n ks (fun us ws => g us ws) (fun us ws => g us ws) := by
  obtain ⟨oc, od, kV, doc, pm, an, cdv, ct, osl, rfl, lk, hcd⟩ := F.ex
  exact ⟨fun s us ws _ h1 h2 => .of_eq (h kV doc pm an cdv ct us ws h1 h2), fun r1 r2 => hrel r1 r2⟩
variable {params : Arguments} {body : List Stmt} {scope : Scope} {dvs : List V}
theorem bindsAll {F : FunD K x qual params body scope dvs [] f fd}
    (h : ∀ (T : Addr) (kV doc pm : Value) (an : Option Addr) (cdv ct : Value) (us its : List Value), us.length = ps.length → its.length = dvs.length →
      ∃ k, bindArgs (PySem.W.fnOf x qual params body scope (.ref T) kV doc pm an cdv ct) ⟨us, []⟩ = seqItems? (.ref T) >>= k ∧ k (some its.toArray) = pure (ps.zip us)) (hd : dvs ≠ []) : Binds K fd ps [] := by
  obtain ⟨ds, hv, hb⟩ := F.binds1 (ps := ps) ps.length dvs.length hd (by omega) (fun T kV doc pm an cdv ct us its h1 h2 => by
    obtain ⟨k, e1, e2⟩ := h T kV doc pm an cdv ct us its h1 h2
    refine ⟨k, e1, ?_⟩
    rw [e2, ← h2, List.drop_length, List.append_nil])
  rw [List.drop_length] at hv
  cases hv
  exact hb
theorem kbAllD {F : FunD K x qual params body scope dvs [] f fd} {g : {α : Type} → List α → List α → List α}
    (h : ∀ (T : Addr) (kV doc pm : Value) (an : Option Addr) (cdv ct : Value) (us its ws : List Value), us.length = n → its.length = dvs.length → ws.length = ks.length →
      ∃ k, bindArgs (PySem.W.fnOf x qual params body scope (.ref T) kV doc pm an cdv ct) ⟨us, ks.zip ws⟩ = seqItems? (.ref T) >>= k ∧ k (some its.toArray) = pure (ps.zip (g us ws))) (hd : dvs ≠ [])
    (hrel : ∀ {vs : List V} {us : List Value} {zs : List V} {ws : List Value}, Vals vs us → Vals zs ws → Vals (g vs zs) (g us ws)) : KBn K fd ps n ks (fun us ws => g us ws) (fun us ws => g us ws) := by
  obtain ⟨oc, od, dV, kV, doc, pm, an, cdv, ct, osl, rfl, lk, hcd, hD, hK⟩ := F.ex
  rcases hD with ⟨e, _⟩ | ⟨_, T, o, its, m, rfl, lT, oT, rT⟩
  · exact absurd e hd
  · refine ⟨fun s us ws X l1 l2 => ?_, fun r1 r2 => hrel r1 r2⟩
    obtain ⟨k, e1, e2⟩ := h T kV doc pm an cdv ct us its ws l1 rT.length.symm l2
    refine BindsTo.of_looks fun M => ?_
    rw [e1]
    exact looks_items X lT oT (.of_pure e2)
theorem exm_by {K : PySem.W.Frag} {C S : Addr} {b : Bool} (h1 : PySem.W.subIn K (.ref S) (.type "BaseException") = some true) (h2 : PySem.W.isClsIn K S = true) (h3 : PySem.W.typeIn K (.ref S) = some (.type "type")) (h4 : PySem.W.subIn K (.ref C) (.ref S) = some b) :
    PySem.W.exmOne K (.ref C) (.ref S) = some b := by
  have e1 : (PySem.W.subIn K (.ref S) (.type "BaseException") == some true) = true := by rw [h1] <;> rfl
  have e2 : ((PySem.W.clsIn K S).isSome && PySem.W.typeIn K (.ref S) == some (.type "type")) = true := by
    have h2' : (PySem.W.clsIn K S).isSome = true := h2
    rw [h2', h3] <;> rfl
  show (if (PySem.W.subIn K (.ref S) (.type "BaseException") == some true) = true then (if ((PySem.W.clsIn K S).isSome && PySem.W.typeIn K (.ref S) == some (.type "type")) = true then PySem.W.subIn K (.ref C) (.ref S) else none) else none) = some b
  rw [if_pos e1, if_pos e2]
  exact h4
end
/-! ### a < b < c of whole numbers, as one answer -/
def MonoE (t : TE) : Prop := ∀ (σ : L2.St) (H : Hp) (Q Q' : VK), (∀ v H', Q v H' → Q' v H') → t σ H Q → t σ H Q'
theorem mn_var {i : Nat} : MonoE (tVar i) := fun _ _ _ _ k ⟨v, e, q⟩ => ⟨v, e, k _ _ q⟩
theorem mn_c {v : V} : MonoE (tC v) := fun _ _ _ _ k q => k _ _ q
theorem mn_I0 {g : Int → Int → V} {ta tb : TE} (a : MonoE ta) (b : MonoE tb) : MonoE (tOp (rI0 g) ta tb) := fun σ H Q Q' k h =>
  a σ H _ _ (fun _ H1 h1 => b σ H1 _ _ (fun _ _ ⟨i, j, e1, e2, q⟩ => ⟨i, j, e1, e2, k _ _ q⟩) h1) h
theorem mn_I {C : Int → Int → Prop} {g : Int → Int → V} {ta tb : TE} (a : MonoE ta) (b : MonoE tb) : MonoE (tOp (rI C g) ta tb) := fun σ H Q Q' k h =>
  a σ H _ _ (fun _ H1 h1 => b σ H1 _ _ (fun _ _ ⟨i, j, e1, e2, c, q⟩ => ⟨i, j, e1, e2, c, k _ _ q⟩) h1) h
theorem mn_ixL {K : PySem.W.Frag} {ta tb : TE} (a : MonoE ta) (b : MonoE tb) : MonoE (tOp (rIxL K) ta tb) := fun σ H Q Q' k h =>
  a σ H _ _ (fun _ H1 h1 => b σ H1 _ _ (fun _ _ ⟨p, xs, i, v, e1, e2, s, e, q⟩ => ⟨p, xs, i, v, e1, e2, s, e, k _ _ q⟩) h1) h
theorem mn_ixT {K : PySem.W.Frag} {ta tb : TE} (a : MonoE ta) (b : MonoE tb) : MonoE (tOp (rIxT K) ta tb) := fun σ H Q Q' k h =>
  a σ H _ _ (fun _ H1 h1 => b σ H1 _ _ (fun _ _ ⟨p, xs, i, v, e1, e2, s, e, q⟩ => ⟨p, xs, i, v, e1, e2, s, e, k _ _ q⟩) h1) h
theorem mn_len {r : List V → Hp → VK → Prop} {ta : TE} (a : MonoE ta) (hr : ∀ vs H (Q Q' : VK), (∀ v H', Q v H' → Q' v H') → r vs H Q → r vs H Q') : MonoE (tCB r (tCons ta tNil)) := fun σ H Q Q' k h =>
  a σ H _ _ (fun _ H1 h1 => hr _ _ _ _ k h1) h
def tChI (g g' : Int → Int → Bool) (ta tb tc : TE) : TE := fun σ H Q => ta σ H fun x H1 => tb σ H1 fun y H2 => tc σ H2 fun z H3 => ∃ i j l : Int, x = .int i ∧ y = .int j ∧ z = .int l ∧ H3 = H2 ∧ Q (.bl (g i j && g' j l)) H2
/-- what c's reading tells is told at once: c changes nothing -/
theorem tChI_to {g g' : Int → Int → Bool} {ta tb tc : TE} (ma : MonoE ta) (mb : MonoE tb) (mc : MonoE tc) {σ : L2.St} {H : Hp} {Q : VK} (cx : ∀ (σ : L2.St) (H : Hp) (Q : V → Hp → Prop), tc σ H Q → ∃ v H', Q v H') (h : tChI g g' ta tb tc σ H Q) :
    tChain (rI0 fun i j => .bl (g i j)) (rI0 fun i j => .bl (g' i j)) ta tb tc σ H Q := by
  refine ma σ H _ _ (fun x H1 h1 => mb σ H1 _ _ (fun y H2 h2 => ?_) h1) h
  obtain ⟨_, _, i, j, l, ex, ey, _, _, q⟩ := cx _ _ _ h2
  refine ⟨i, j, ex, ey, _, rfl, ?_⟩
  cases e : g i j with
  | true =>
    refine ifT rfl (mc σ H2 _ _ (fun z H3 h3 => ?_) h2)
    obtain ⟨i', j', l', ex', ey', ez, e3, q'⟩ := h3
    have e1 : i' = i := V.int.inj (ex'.symm.trans ex)
    have e2 : j' = j := V.int.inj (ey'.symm.trans ey)
    subst e1 e2 ez e3
    rw [e, Bool.true_and] at q'
    exact ⟨j', l', ey, rfl, q'⟩
  | false =>
    rw [e, Bool.false_and] at q
    exact ifF rfl q
def ShowsE (t : TE) : Prop := ∀ (σ : L2.St) (H : Hp) (Q : V → Hp → Prop), t σ H Q → ∃ v H', Q v H'
theorem sh_var {i : Nat} : ShowsE (tVar i) := fun _ _ _ ⟨v, _, q⟩ => ⟨v, _, q⟩
theorem sh_c {v : V} : ShowsE (tC v) := fun _ _ _ q => ⟨_, _, q⟩
theorem sh_I0 {g : Int → Int → V} {ta tb : TE} (a : ShowsE ta) (b : ShowsE tb) : ShowsE (tOp (rI0 g) ta tb) := fun σ H Q h => by
  obtain ⟨x, H1, h1⟩ := a _ _ _ h
  obtain ⟨y, H2, h2⟩ := b _ _ _ h1
  obtain ⟨i, j, _, _, q⟩ := h2
  exact ⟨_, _, q⟩
theorem sh_I {C : Int → Int → Prop} {g : Int → Int → V} {ta tb : TE} (a : ShowsE ta) (b : ShowsE tb) : ShowsE (tOp (rI C g) ta tb) := fun σ H Q h => by
  obtain ⟨x, H1, h1⟩ := a _ _ _ h
  obtain ⟨y, H2, h2⟩ := b _ _ _ h1
  obtain ⟨i, j, _, _, _, q⟩ := h2
  exact ⟨_, _, q⟩
theorem sh_ixL {K : PySem.W.Frag} {ta tb : TE} (a : ShowsE ta) (b : ShowsE tb) : ShowsE (tOp (rIxL K) ta tb) := fun σ H Q h => by
  obtain ⟨x, H1, h1⟩ := a _ _ _ h
  obtain ⟨y, H2, h2⟩ := b _ _ _ h1
  obtain ⟨_, _, _, _, _, _, _, _, q⟩ := h2
  exact ⟨_, _, q⟩
theorem sh_ixT {K : PySem.W.Frag} {ta tb : TE} (a : ShowsE ta) (b : ShowsE tb) : ShowsE (tOp (rIxT K) ta tb) := fun σ H Q h => by
  obtain ⟨x, H1, h1⟩ := a _ _ _ h
  obtain ⟨y, H2, h2⟩ := b _ _ _ h1
  obtain ⟨_, _, _, _, _, _, _, _, q⟩ := h2
  exact ⟨_, _, q⟩
theorem PE.weak {X : Cx} {e : Expr} {t t' : TE} (h : PE X e t) (w : ∀ σ H Q, t' σ H Q → t σ H Q) : PE X e t' := ⟨fun pins s σ H Q I q => h.run pins s σ H Q I (w _ _ _ q)⟩
theorem pe_chainI {X : Cx} {op op' : CmpOp} {g g' : Int → Int → Bool} {a b c : Expr} {ta tb tc : TE} {pos : Pos} (ho : OpR X (compareOp op) (rI0 fun i j => .bl (g i j))) (ho' : OpR X (compareOp op') (rI0 fun i j => .bl (g' i j)))
    (ha : PE X a ta) (hb : PE X b tb) (hc : PE X c tc) (ma : MonoE ta) (mb : MonoE tb) (mc : MonoE tc) (sc : ShowsE tc) (hm : lastMarks [op, op'] [b, c] = false := by rfl) : PE X (.Compare a [op, op'] [b, c] pos) (tChI g g' ta tb tc) :=
  PE.weak (pe_chain ho ho' ha hb hc hm) (fun _ _ _ h => tChI_to ma mb mc sc h)
/-! ### rules within a comprehension: the written part by its own name -/
section
variable {X : Cx} {K : PySem.W.Frag}
theorem ix_listK (h : X.K = K) : IxR X (rIxL K) := h ▸ ix_list
theorem ix_tupK (h : X.K = K) : IxR X (rIxT K) := h ▸ ix_tup
theorem sl_listK (h : X.K = K) : SlR X (rSlL K) := h ▸ sl_list
theorem call_len_seqK (h : X.K = K) : CallR X (.builtin "len") (fun xs H Q => ∃ p ys, xs = [.ref p] ∧ (SqL K H p ys ∨ SqT K H p ys) ∧ Q (.int ys.length) H) := h ▸ call_len_seq
end
section
variable {X : Cx} {K : PySem.W.Frag}
theorem call_isiB (h : X.K = K) : CallR X (.builtin "isinstance") (rIsi K) := h ▸ call_isi
end
/-! ### comprehensions and loops whose invariants speak of the heap at their begin -/
theorem lcL {K : PySem.W.Frag} {a : Addr} {xs : List V} {g : TG} {tt : TT} {te : TE} {vs : List Nat} {σ : L2.St} {H1 : Hp} {D : Addr} {Qd : Hp → Prop} (Pv : Hp → Nat → Hp → Prop) (h0 : Pv H1 0 (upd H1 D (.lst []))) (hl : ∀ i H, i ≤ xs.length → Pv H1 i H → SqL K H a xs)
    (hs : ∀ i x H, xs[i]? = some x → Pv H1 i H → g x (wipe σ vs) H fun σ2 H2 => wipe σ2 vs = wipe σ vs ∧ tt σ2 H2 fun b H3 =>
      if b = true then te σ2 H3 fun y H4 => ∃ acc, H4 D = some (.lst acc) ∧ acc.length < sizeLine ∧ Pv H1 (i + 1) (upd H4 D (.lst (acc ++ [y]))) else Pv H1 (i + 1) H3) (hd : ∀ H, Pv H1 xs.length H → Qd H) :
    ∃ W : Nat → Nat → Hp → Prop, (∃ m, W 0 m (upd H1 D (.lst []))) ∧ ∀ i m H, W i m H →
      ((Itl K a).stop i H ∧ Qd H) ∨ ((Itl K a).go i H ∧ ∃ Nx : Hp → Prop, (∀ H', Nx H' → ∃ m', m' < m ∧ W (i + 1) m' H') ∧ ∀ x H', (Itl K a).yld i H x H' → g x (wipe σ vs) H' fun σ2 H2 => wipe σ2 vs = wipe σ vs ∧ tt σ2 H2 fun b H3 =>
        if b = true then te σ2 H3 fun y H4 => ∃ acc, H4 D = some (.lst acc) ∧ acc.length < sizeLine ∧ Nx (upd H4 D (.lst (acc ++ [y]))) else Nx H3) := lc_list (Pv H1) h0 hl hs hd
theorem lcR {lo : Int} {n : Nat} {g : TG} {tt : TT} {te : TE} {vs : List Nat} {σ : L2.St} {H1 : Hp} {D : Addr} {Qd : Hp → Prop} (Pv : Hp → Nat → Hp → Prop) (h0 : Pv H1 0 (upd H1 D (.lst [])))
    (hs : ∀ i H, i < n → Pv H1 i H → g (.int (lo + i)) (wipe σ vs) H fun σ2 H2 => wipe σ2 vs = wipe σ vs ∧ tt σ2 H2 fun b H3 =>
      if b = true then te σ2 H3 fun y H4 => ∃ acc, H4 D = some (.lst acc) ∧ acc.length < sizeLine ∧ Pv H1 (i + 1) (upd H4 D (.lst (acc ++ [y]))) else Pv H1 (i + 1) H3) (hd : ∀ H, Pv H1 n H → Qd H) :
    ∃ W : Nat → Nat → Hp → Prop, (∃ m, W 0 m (upd H1 D (.lst []))) ∧ ∀ i m H, W i m H →
      ((Itr lo n).stop i H ∧ Qd H) ∨ ((Itr lo n).go i H ∧ ∃ Nx : Hp → Prop, (∀ H', Nx H' → ∃ m', m' < m ∧ W (i + 1) m' H') ∧ ∀ x H', (Itr lo n).yld i H x H' → g x (wipe σ vs) H' fun σ2 H2 => wipe σ2 vs = wipe σ vs ∧ tt σ2 H2 fun b H3 =>
        if b = true then te σ2 H3 fun y H4 => ∃ acc, H4 D = some (.lst acc) ∧ acc.length < sizeLine ∧ Nx (upd H4 D (.lst (acc ++ [y]))) else Nx H3) := lc_range (Pv H1) h0 hs hd
theorem forL {K : PySem.W.Frag} {a : Addr} {xs : List V} {g : TG} {tb : TS} {D : Ends} {σ : L2.St} {H : Hp} (Pv : Hp → Nat → L2.St → Hp → Prop) (h0 : Pv H 0 σ H) (hl : ∀ i σ H', i ≤ xs.length → Pv H i σ H' → SqL K H' a xs)
    (hs : ∀ i x σ H', xs[i]? = some x → Pv H i σ H' → g x σ H' fun σ2 H2 => tb { D with nx := Pv H (i + 1), ct := Pv H (i + 1), bk := D.nx } σ2 H2) (hd : ∀ σ H', Pv H xs.length σ H' → D.nx σ H') :
    ∃ W : Nat → Nat → L2.St → Hp → Prop, (∃ m, W 0 m σ H) ∧ ∀ i m σ H, W i m σ H →
      ((Itl K a).stop i H ∧ D.nx σ H) ∨ ((Itl K a).go i H ∧ ∃ N : L2.St → Hp → Prop, (∀ σ' H', N σ' H' → ∃ m', m' < m ∧ W (i + 1) m' σ' H') ∧ ∀ x H', (Itl K a).yld i H x H' → g x σ H' fun σ2 H2 => tb { D with nx := N, ct := N, bk := D.nx } σ2 H2) := for_list (Pv H) h0 hl hs hd
theorem forR {lo : Int} {n : Nat} {g : TG} {tb : TS} {D : Ends} {σ : L2.St} {H : Hp} (Pv : Hp → Nat → L2.St → Hp → Prop) (h0 : Pv H 0 σ H)
    (hs : ∀ i σ H', i < n → Pv H i σ H' → g (.int (lo + i)) σ H' fun σ2 H2 => tb { D with nx := Pv H (i + 1), ct := Pv H (i + 1), bk := D.nx } σ2 H2) (hd : ∀ σ H', Pv H n σ H' → D.nx σ H') :
    ∃ W : Nat → Nat → L2.St → Hp → Prop, (∃ m, W 0 m σ H) ∧ ∀ i m σ H, W i m σ H →
      ((Itr lo n).stop i H ∧ D.nx σ H) ∨ ((Itr lo n).go i H ∧ ∃ N : L2.St → Hp → Prop, (∀ σ' H', N σ' H' → ∃ m', m' < m ∧ W (i + 1) m' σ' H') ∧ ∀ x H', (Itr lo n).yld i H x H' → g x σ H' fun σ2 H2 => tb { D with nx := N, ct := N, bk := D.nx } σ2 H2) := for_range (Pv H) h0 hs hd
/-- a call's answer when nothing but it matters: the heap by a name -/
theorem name_heap {P : Hp → Prop} {H : Hp} (h : ∀ H', H' = H → P H') : P H := h H rfl
/-! ### a, *b = a tuple -/
theorem Walks.later {prog : Program} {w : World} {A : Around} {I : Addr} {fp wr : List Addr} {n : Nat} {P : Nat → Value → Prop} {St : Nat → Heap → Prop} (W : Walks prog w A I fp wr (n + 1) P St) :
    Walks prog w A I fp wr n (fun i => P (i + 1)) (fun i => St (i + 1)) where
  sub := W.sub
  frame i := W.frame (i + 1)
  item i s Q E hi st hQ := W.item (i + 1) s Q E (by omega) st hQ
  done s Q E st hQ := W.done s Q E st hQ
  self i := W.self (i + 1)
theorem unpack_star {prog : Program} {w : World} {A : Around} {E : Value → Shared → Prop} {s : Shared} {t : Addr} {x : Value} {xs : List Value} {Q : List Value → Shared → Prop} (hh : A.handled = none) (ht : IsTup s.heap t (x :: xs).toArray) (hz : xs.length ≤ sizeLine)
    (hQ : ∀ (h' : Heap) (tk : Nat), (∀ b o, s.heap.get? b = some o → h'.get? b = some o) → Q [x, .ref h'.objs.size] { s with heap := h'.push { cls := .type "list", data := .seq xs.toArray }, toks := tk }) :
    wpAny (model prog w) A (unpackItems (.ref t) 2 (some 1)) Q E s := by
  have hlt : t ≠ s.heap.objs.size := by
    obtain ⟨o, ho, _⟩ := ht
    exact Nat.ne_of_lt (Heap.lt_size ho)
  unfold unpackItems
  refine wpAny_bind ?_
  unfold notIterableAtAll
  refine wpAny_bind (wpAny_specialOf ht.typeIs slot_tuple_iter.lookup (wpAny_pure ?_))
  simp only [Bool.false_eq_true, if_false]
  refine wpAny_bind (wpAny_holding (iter_tuple ht (wpAny_bind (wpAny_holding (draw_tuple hlt 1 0 _ _ ⟨_, Heap.get?_push_size _ rfl, rfl, rfl⟩ (ht.push _) (by simp) fun h1 it1 same1 => ?_)))))
  have ht1 : IsTup h1 t (x :: xs).toArray := (ht.push _).extBut same1.extBut hlt
  have e1 : List.take 1 (List.drop 0 (x :: xs).toArray.toList) = [x] := rfl
  rw [e1, if_neg (by simp)]
  refine wpAny_bind (wpAny_holding ?_)
  have W := (Walks.later (Walks.tuple (prog := prog) (w := w) (A := A.in1) hh s.heap.objs.size t hlt (x :: xs).toArray)).toS
  have hbig : s.heap.objs.size < h1.objs.size := by
    obtain ⟨o, ho, _⟩ := it1
    exact Heap.lt_size ho
  refine wpAny_collect_iter (T := "tuple_iterator") (.inr (.inr (.inr rfl))) W (fun i s' st => st.1.typeIs) ⟨it1, ht1⟩ (fun b hb => ?_) (by simp) (fun s' acc mv items => ?_) hz
  · simp only [List.mem_cons, List.not_mem_nil, or_false] at hb
    obtain ⟨o, ho, _⟩ := id ht1
    rcases hb with rfl | rfl
    · exact hbig
    · exact Heap.lt_size ho
  · have el : acc.toList = xs := by
      refine List.ext_getElem (by simpa using items.1) fun j h2 h3 => ?_
      have := items.2 j acc.toList[j] (by simp)
      simpa [List.getElem?_eq_getElem h3] using this.symm
    rw [el, if_neg (by omega)]
    refine wpAny_bind (wpAny_newList ?_ )
    have em : List.take (xs.length - (2 - 1 - 1)) xs = xs := List.take_of_length_le (by omega)
    have ed : List.drop (xs.length - (2 - 1 - 1)) xs = [] := List.drop_of_length_le (by omega)
    rw [em, ed, Moved.eq_with mv]
    refine wpAny_pure (hQ s'.heap s'.toks fun b o e => ?_)
    have nb : b ≠ s.heap.objs.size := Nat.ne_of_lt (Heap.lt_size e)
    exact mv.heap b o (by simpa using nb) (same1.extBut b o nb (Heap.get?_push_of_some _ e))
def gStar (K : PySem.W.Frag) (g0 g1 : TG) : TG := fun v σ H Q => ∃ a x xs, v = .ref a ∧ SqT K H a (x :: xs) ∧ ∀ l, H l = none → g0 x σ (upd H l (.lst xs)) fun σ1 H1 => g1 (.ref l) σ1 H1 Q
theorem pg_star {X : Cx} {e0 e1 : Expr} {p pos : Pos} {k : Nat} {g0 g1 : TG} (hc : X.calm = true) (h0 : PG X e0 g0) (h1 : PG X e1 g1) (he : assignEach [e0, .Starred e1 p] X.env = [(false, assign e0 X.env), (true, assign e1 X.env)] := by rfl) :
    PG X (.Tuple [e0, .Starred e1 p] k pos) (gStar X.K g0 g1) := by
  constructor
  rintro pins s σ H v u Q I r ⟨a, x, xs, rfl, hq, hw⟩
  cases r
  obtain ⟨its, rv, ht, hz⟩ := I.tuple hq
  cases rv with
  | @cons _ y _ ys ry rys =>
    rw [assign_Tuple]
    refine wpAny_bind (wpAny_standAt ?_)
    unfold unpack
    rw [he]
    refine wpAny_bind (wpAny_holding (unpack_star (I.ok.hd hc) ht (by rw [← rys.length]; simp only [List.length] at hz; omega) fun h' tk kp => ?_))
    have I1 : Inv X pins σ H { s with heap := h', toks := tk } := I.kept kp
    have I2 := I1.lnew (t' := tk) rys (by simp only [List.length] at hz; omega)
    refine assignInOrder_cons (thn (h0.run pins _ σ _ _ _ _ I2 ry (hw _ I1.fresh)) fun _ s1 z => ?_)
    obtain ⟨σ1, H1, I3, q1⟩ := z
    refine assignInOrder_cons (thn (h1.run pins s1 σ1 H1 (.ref h'.objs.size) _ Q I3 rfl q1) fun _ s2 z => ?_)
    exact assignInOrder_nil z
/-! ### a class made of the things of a list -/
def tMakeS (K : PySem.W.Frag) (C : Addr) (sp : Sp) (E : XK) (te : TE) : TE := fun u G Q => te u G fun y G1 => ∃ a xs, y = .ref a ∧ (SqT K G1 a xs ∨ SqL K G1 a xs) ∧
  ∀ o d, G1 o = none → G1 d = none → d ≠ o → sp (.ref o :: xs) (upd (upd G1 d (.own o)) o (.ins C d [])) (fun v G2 => v = .non ∧ Q (.ref o) G2) E
theorem pe_makeS {X : Cx} {CT : CXT} {k : Nat} {f C : Addr} {fd : FuncData} {ps : List Str} {sp : Sp} {E : XK} {x : Str} {p q pos : Pos} {e : Expr} {te : TE} (M : Mk X.K C f) (F : FnOk X.prog X.w X.K X.mg X.base CT k f fd ps sp) (hr : Room (k + 1) X.A) (hg : Gl X x) (hm : X.mg x = some (.ref C)) (hb : Binds X.K fd ps []) (hx : Passes CT X E) (he : PE X e te)
    (nd : (x == ("__debug__" : Str)) = false := by decide) (hs : starEach [.Starred e q] X.env = [(true, eval e X.env)] := by rfl) : PE X (.Call (.Name x p) [.Starred e q] [] pos) (tMakeS X.K C sp E te) := by
  constructor
  intro pins s u G Q I h
  refine wpAny_Call_Name_kw (ld_glob I hg hm (PySem.W.callWith_S (h₀ := X.base) I.ok.mod.kin M.kp (thn (he.run pins s u G _ I h) ?_) hs) nd)
  rintro v s1 ⟨y, G1, I1, ry, a, xs, rfl, hxs, q⟩
  cases ry
  refine StX.star_any I1 hxs fun us s2 I2 rv => ⟨I2.kIn, ?_⟩
  refine run_make (dvs := []) M F hr hb .nil hx I2 rv fun o d h1 h2 h3 => ?_
  rw [List.append_nil]
  exact q o d h1 h2 h3
/-! ### str of an object whose class has its own __str__ -/
def rStrOwn (C : Addr) (sp : Sp) : List V → Hp → VK → Prop := fun xs H Q => ∃ a d fs, xs = [.ref a] ∧ H a = some (.ins C d fs) ∧ sp [.ref a] H (fun v H2 => (∃ z, v = .str z) ∧ Q v H2) E0
theorem call_strOwn {X : Cx} {k : Nat} {f C : Addr} {fd : FuncData} {p : Str} {sp : Sp} (m : Meth X.K C "__str__" f) (F : FnOk X.prog X.w X.K X.mg X.base CX0 k f fd [p] sp) (hr : Room (k + 2) X.A) (hb : Binds X.K fd [p] []) : CallR X (.type "str") (rStrOwn C sp) := by
  intro pins s σ H xs us Q I r h
  obtain ⟨a, d, fs, rfl, ha, q⟩ := h
  obtain ⟨u, rfl, ru⟩ := vals1 r
  cases ru
  obtain ⟨mA, O, _⟩ := ins_get I.hok ha
  obtain ⟨od, J, _⟩ := O.look
  have hr2 : Room k X.A.in1.in1 := Room.in1 (Room.in1 hr)
  refine PySem.W.kso_call hr2.units0 I.kIn J m.at_ m.fn (wpAny_call (codeAny_mono (F.run X.A.in1.in1 X.stack s H ⟨[.ref a], []⟩ [.ref a] [.ref a] _ E0 hr2 (Env0.in1 (Env0.in1 I.env0)) (hb s [.ref a] I.kIn rfl) (.cons rfl .nil) q) fun r s' hq => ?_))
  cases r with
  | error e => exact hq.elim
  | ok fl =>
    cases fl with
    | ret u =>
      obtain ⟨v, H', I3, rv, ⟨z, rfl⟩, q3⟩ := I.after hq
      obtain ⟨t, rfl⟩ := rv
      exact ⟨.str z, H', I3, ⟨_, rfl⟩, q3⟩
    | next => exact hq.elim
    | brk => exact hq.elim
    | cont => exact hq.elim
/-! ### a method of an object whose class is one of several -/
theorem pe_either {X : Cx} {e : Expr} {t u : TE} (h : PE X e t) (k : PE X e u) : PE X e (fun σ H Q => t σ H Q ∨ u σ H Q) := ⟨fun pins s σ H Q I q => q.elim (h.run pins s σ H Q I) (k.run pins s σ H Q I)⟩
/-! ### lists of whole numbers as data -/
theorem dpInts {K : PySem.W.Frag} {H : Hp} : ∀ ns : List Int, DpAll K H (ns.map V.int) (ns.map PyData.int)
  | [] => .nil
  | n :: ns => .cons (.int n) (dpInts ns)
theorem layInts : ∀ ns : List Int, PyData.canLayAll0 (ns.map PyData.int) = true
  | [] => rfl
  | n :: ns => by simp [PyData.canLayAll0, PyData.canLay0, layInts ns]
theorem depInts : ∀ ns : List Int, PyData.depthAll (ns.map PyData.int) = 0
  | [] => rfl
  | n :: ns => by simp [PyData.depthAll, PyData.depth, depInts ns]
theorem shapedL (ns : List Int) : SeqAt.shaped (.list (ns.map PyData.int)) = true := by
  show (PyData.canLayAll0 (ns.map PyData.int) && decide (PyData.depthAll (ns.map PyData.int) + 1 ≤ 64)) = true
  rw [layInts, depInts]; rfl
theorem shapedT (ns : List Int) : SeqAt.shaped (.tuple (ns.map PyData.int)) = true := by
  show (PyData.canLayAll0 (ns.map PyData.int) && decide (PyData.depthAll (ns.map PyData.int) + 1 ≤ 64)) = true
  rw [layInts, depInts]; rfl
theorem neqInts {K : PySem.W.Frag} {H : Hp} {Q : VK} {p q : Addr} {ns ms : List Int} (h1 : SqL K H p (ns.map V.int)) (h2 : SqL K H q (ms.map V.int)) (k : Q (.bl (!decide (ns = ms))) H) : rNeD K (.ref p) (.ref q) H Q := by
  refine ⟨_, _, .lst h1 (dpInts ns), .lst h2 (dpInts ms), shapedL ns, shapedL ms, ?_⟩
  have e : PyData.eqv (.list (ns.map PyData.int)) (.list (ms.map PyData.int)) = decide (ns = ms) := by
    rw [PyData.eqv]; exact PySem.W.ked_eqvAll ns ms
  rw [e]; exact k
theorem eqInts {K : PySem.W.Frag} {H : Hp} {Q : VK} {p q : Addr} {ns ms : List Int} (h1 : SqL K H p (ns.map V.int)) (h2 : SqL K H q (ms.map V.int)) (k : Q (.bl (decide (ns = ms))) H) : rEqD K (.ref p) (.ref q) H Q := by
  refine ⟨_, _, .lst h1 (dpInts ns), .lst h2 (dpInts ms), shapedL ns, shapedL ms, ?_⟩
  have e : PyData.eqv (.list (ns.map PyData.int)) (.list (ms.map PyData.int)) = decide (ns = ms) := by
    rw [PyData.eqv]; exact PySem.W.ked_eqvAll ns ms
  rw [e]; exact k
theorem neqIntsT {K : PySem.W.Frag} {H : Hp} {Q : VK} {p q : Addr} {ns ms : List Int} (h1 : SqT K H p (ns.map V.int)) (h2 : SqT K H q (ms.map V.int)) (k : Q (.bl (!decide (ns = ms))) H) : rNeD K (.ref p) (.ref q) H Q := by
  refine ⟨_, _, .tup h1 (dpInts ns), .tup h2 (dpInts ms), shapedT ns, shapedT ms, ?_⟩
  have e : PyData.eqv (.tuple (ns.map PyData.int)) (.tuple (ms.map PyData.int)) = decide (ns = ms) := by
    rw [PyData.eqv]; exact PySem.W.ked_eqvAll ns ms
  rw [e]; exact k
theorem eqIntsT {K : PySem.W.Frag} {H : Hp} {Q : VK} {p q : Addr} {ns ms : List Int} (h1 : SqT K H p (ns.map V.int)) (h2 : SqT K H q (ms.map V.int)) (k : Q (.bl (decide (ns = ms))) H) : rEqD K (.ref p) (.ref q) H Q := by
  refine ⟨_, _, .tup h1 (dpInts ns), .tup h2 (dpInts ms), shapedT ns, shapedT ms, ?_⟩
  have e : PyData.eqv (.tuple (ns.map PyData.int)) (.tuple (ms.map PyData.int)) = decide (ns = ms) := by
    rw [PyData.eqv]; exact PySem.W.ked_eqvAll ns ms
  rw [e]; exact k
/-! ### slices -/
theorem cutV_mem {xs : List V} {lo hi : Option Int} {v : V} (h : v ∈ cutV xs lo hi) : v ∈ xs := List.mem_of_mem_drop (List.mem_of_mem_take h)
theorem cutV_lo {xs : List V} {n : Int} (h0 : 0 ≤ n) (h1 : n ≤ xs.length) : cutV xs (some n) none = xs.drop n.toNat := by
  have e : HT.sIx xs.length 0 (some n) = n.toNat := by
    have q : n = ((n.toNat : Nat) : Int) := by omega
    rw [q, HT.sIx_nat]
    omega
  unfold cutV
  rw [e, HT.sIx_none]
  exact List.take_of_length_le (by rw [List.length_drop]; exact Nat.le_refl _)
theorem cutV_hi {xs : List V} {n : Int} (h0 : 0 ≤ n) (h1 : n ≤ xs.length) : cutV xs none (some n) = xs.take n.toNat := by
  have e : HT.sIx xs.length xs.length (some n) = n.toNat := by
    have q : n = ((n.toNat : Nat) : Int) := by omega
    rw [q, HT.sIx_nat]
    omega
  unfold cutV
  rw [e, HT.sIx_none]
  rfl
/-! ### what a thing is, as far as it matters: a whole number or of one of the other kinds -/
def others : List String := ["bool", "NoneType", "str", "tuple", "list", "dict"]
inductive Thing (K : PySem.W.Frag) (H : Hp) : V → Prop where
  | int (i : Int) : Thing K H (.int i)
  | odd {v : V} {t : String} (ty : TyX K H v (.type t)) (m : t ∈ others) (n : isI v = false) : Thing K H v
def spNumber (K : PySem.W.Frag) : Sp := fun vs H Q _ => ∃ v, vs = [v] ∧ Thing K H v ∧ Q (.bl (isI v)) H
/-! ### what a thing is stays so -/
theorem TyX.keep {K : PySem.W.Frag} {H H' : Hp} {v : V} {t : Value} (f : ∀ b o, v = .ref b → H b = some o → H' b = some o) (h : TyX K H v t) : TyX K H' v t := by
  cases h with
  | base b =>
    refine .base ?_
    cases b with
    | non => exact .non
    | bl x => exact .bl x
    | int i => exact .int i
    | str x => exact .str x
    | flt x => exact .flt x
    | lst e => exact .lst (f _ _ rfl e)
    | frz e => exact .frz (f _ _ rfl e)
    | tup e => exact .tup (f _ _ rfl e)
    | dK e => exact .dK (f _ _ rfl e)
    | dT e => exact .dT (f _ _ rfl e)
    | ins e a b c d g => exact .ins (f _ _ rfl e) a b c d g
  | byt b => exact .byt b
  | set e => exact .set (f _ _ rfl e)
  | kList e c => exact .kList e c
  | kTuple e c => exact .kTuple e c
  | kDict e c => exact .kDict e c
  | fTuple e => exact .fTuple (f _ _ rfl e)
  | fDict e => exact .fDict (f _ _ rfl e)
theorem Thing.keep {K : PySem.W.Frag} {H H' : Hp} {v : V} (f : ∀ b o, v = .ref b → H b = some o → H' b = some o) (h : Thing K H v) : Thing K H' v := by
  cases h with
  | int i => exact .int i
  | odd ty m n => exact .odd (TyX.keep f ty) m n
local macro_rules | `(tactic| walk_at "sm") => `(tactic| first
  | assumption
  | exact (show Sm 64 _ by unfold Sm; decide)
  | (refine' Sm.mul ?m1 ?m2; (case m1 => walk_at "sm"); (case m2 => walk_at "sm"))
  | (refine' Sm.add ?m1 ?m2; (case m1 => walk_at "sm"); (case m2 => walk_at "sm"))
  | (refine' Sm.sub ?m1 ?m2; (case m1 => walk_at "sm"); (case m2 => walk_at "sm"))
  | (refine' Sm.neg ?m1; (case m1 => walk_at "sm"))
  | fail)
local macro_rules | `(tactic| walk_at "ne") => `(tactic| first
  | assumption
  | exact Ne.symm (by assumption)
  | (refine' new_ne ?n1 ?n2; (case n1 => assumption); (case n2 => walk_at "hp"))
  | (refine' Ne.symm (new_ne ?n1 ?n2); (case n1 => assumption); (case n2 => walk_at "hp"))
  | fail)
local macro_rules | `(tactic| walk_at "hp") => `(tactic| first
  | assumption
  | exact upd_same
  | (refine' upd_old ?na ?ho; (case na => assumption); (case ho => walk_at "hp"))
  | (refine' upd_old2 ?na ?ho; (case na => assumption); (case ho => walk_at "hp"))
  | (refine' upd_oth ?na ?ho; (case na => walk_at "ne"); (case ho => walk_at "hp"))
  | (refine' Same.get ?na ?ho; (case na => assumption); (case ho => walk_at "hp"))
  | (refine' Frm.get ?na ?nb ?ho; (case na => assumption); (case nb => walk_at "ne"); (case ho => walk_at "hp"))
  | fail)
local macro_rules | `(tactic| walk_at "fr") => `(tactic| first
  | assumption
  | exact Frm.refl
  | exact Same.refl _
  | (refine' Frm.upd2 ?f; (case f => walk_at "fr"))
  | (refine' Frm.new ?f ?n; (case n => assumption); (case f => walk_at "fr"))
  | (refine' Frm.new2 ?f ?n; (case n => assumption); (case f => walk_at "fr"))
  | (refine' Frm.own ?f ?n; (case n => assumption); (case f => walk_at "fr"))
  | (refine' Frm.trans ?f ?g; (case g => first | assumption | exact Same.frm (by assumption)); (case f => walk_at "fr"))
  | (refine' Same.new ?f ?n; (case n => assumption); (case f => walk_at "fr"))
  | (refine' Same.new2 ?f ?n; (case n => assumption); (case f => walk_at "fr"))
  | (refine' Same.own ?f ?n; (case n => assumption); (case f => walk_at "fr"))
  | (refine' Same.trans ?f ?g; (case g => assumption); (case f => walk_at "fr"))
  | (refine' Same.byFrm ?f ?g ?n; (case g => assumption); (case n => assumption); (case f => walk_at "fr"))
  | fail)
/-- one step of a reading, where its form alone tells it -/
local macro_rules | `(tactic| walk_at "g") => `(tactic| first
  | refine ⟨_, rfl, ?_⟩
  | refine ⟨_, _, rfl, rfl, ?_⟩
  | refine ⟨rfl, ?_⟩
  | refine ⟨sz rfl, fun _ _ => ?_⟩
  | refine ⟨.inl ⟨rfl, _, SqL.of (by walk_at "hp")⟩, ?_⟩
  | refine ⟨_, _, rfl, .inl (SqL.of (by walk_at "hp")), ?_⟩
  | refine ⟨_, _, rfl, .inr (SqT.of (by walk_at "hp")), ?_⟩
  | refine ⟨_, _, rfl, SqL.of (by walk_at "hp"), fun _ _ => ?_⟩
  | refine ⟨_, _, _, _, rfl, rfl, SqL.of (by walk_at "hp"), rfl, ?_⟩
  | refine ⟨_, _, _, _, rfl, rfl, SqT.of (by walk_at "hp"), rfl, ?_⟩
  | refine ⟨(show (0 : Int) < _ by first | decide | assumption), ?_⟩
  | refine ⟨⟨(show (0 : Int) < _ by first | decide | assumption), by first | decide | assumption⟩, ?_⟩
  | refine ⟨⟨(show (0 : Int) ≤ _ by decide), by decide, by decide⟩, ?_⟩
  | refine ⟨_, _, _, _, rfl, rfl, by walk_at "hp", by walk_at "hp", sz rfl, ?_⟩
  | refine ⟨_, _, _, _, rfl, rfl, by walk_at "hp", rfl, ?_⟩
  | refine ⟨(show CMul _ _ by first | exact .inl ⟨by decide, by decide⟩ | exact .inr ⟨by decide, by decide⟩ | exact .inl ⟨by omega, by omega⟩ | exact .inr ⟨by omega, by omega⟩), ?_⟩
  | refine ⟨(show CMulW _ _ from Sm.mulok (by walk_at "sm") (by walk_at "sm") (by decide) (by decide)), ?_⟩
  | refine ⟨(show CDivZ _ _ from ⟨by first | assumption | omega, Sm.mono (by walk_at "sm") (by decide)⟩), ?_⟩
  | fail)
/-- a drawn figure: a call of digit -/
local macro_rules | `(tactic| walk_at "dg") => `(tactic| (refine ⟨_, _, _, rfl, by walk_at "hp", by assumption, by first | decide | omega, by first | decide | omega, fun _ _ _ _ _ _ _ _ => ?_⟩))
/-- a list's item at a drawn place -/
local macro_rules | `(tactic| walk_at "ixI") => `(tactic| (refine' ixI (SqL.of ?h) ?h0 ?h1 ?al (fun _ _ => ?k); (case h => walk_at "hp"); (case al => rfl); (case h0 => first | assumption | omega); (case h1 => first | assumption | (simp only [List.length]; omega))))

/-! ### rules -/
def inB (lo hi : Int) : V → Bool
  | .int i => decide (lo ≤ i) && decide (i ≤ hi)
  | _ => false
theorem inB_odd {lo hi : Int} {v : V} (h : isI v = false) : inB lo hi v = false := by
  cases v <;> first | rfl | cases h
theorem inB_int {lo hi : Int} {v : V} (h : inB lo hi v = true) : ∃ n, v = .int n ∧ lo ≤ n ∧ n ≤ hi := by
  cases v with
  | int i =>
    have h2 : (decide (lo ≤ i) && decide (i ≤ hi)) = true := h
    rw [Bool.and_eq_true] at h2
    exact ⟨i, rfl, of_decide_eq_true h2.1, of_decide_eq_true h2.2⟩
  | _ => cases h
theorem int_inB {lo hi n : Int} (h0 : lo ≤ n) (h1 : n ≤ hi) : inB lo hi (.int n) = true := by
  show (decide (lo ≤ n) && decide (n ≤ hi)) = true
  rw [decide_eq_true h0, decide_eq_true h1]; rfl
def plainB : List V → Bool
  | [a] => inB 0 255 a
  | _ => false
def movedB : List V → Bool
  | [a, b, c] => inB 1 200 a && (inB 0 15 b && inB 0 255 c)
  | _ => false
def mixedB : List V → Bool
  | [a, b, c, d] => inB 1 200 a && (inB 0 15 b && (inB 1 200 c && inB 0 15 d))
  | _ => false
def kindB (v : V) (r : List V) : Bool := if decide (v = .str "plain") = true then plainB r else if decide (v = .str "moved") = true then movedB r else if decide (v = .str "mixed") = true then mixedB r else false
def ruleB : List V → Bool
  | v :: r => kindB v r
  | [] => false
inductive RuleL : List V → Prop where
  | plain (a : Int) (h0 : 0 ≤ a) (h1 : a ≤ 255) : RuleL [.str "plain", .int a]
  | moved (a b c : Int) (h0 : 1 ≤ a) (h1 : a ≤ 200) (h2 : 0 ≤ b) (h3 : b ≤ 15) (h4 : 0 ≤ c) (h5 : c ≤ 255) : RuleL [.str "moved", .int a, .int b, .int c]
  | mixed (a b c d : Int) (h0 : 1 ≤ a) (h1 : a ≤ 200) (h2 : 0 ≤ b) (h3 : b ≤ 15) (h4 : 1 ≤ c) (h5 : c ≤ 200) (h6 : 0 ≤ d) (h7 : d ≤ 15) : RuleL [.str "mixed", .int a, .int b, .int c, .int d]
theorem RuleL.of {xs : List V} (h : ruleB xs = true) : RuleL xs := by
  cases xs with
  | nil => cases h
  | cons v r =>
    have h2 : (if decide (v = .str "plain") = true then plainB r else if decide (v = .str "moved") = true then movedB r else if decide (v = .str "mixed") = true then mixedB r else false) = true := h
    split at h2
    · rename_i c
      have c := of_decide_eq_true c
      subst c
      rcases r with _ | ⟨a, _ | ⟨b, r⟩⟩
      · cases h2
      · obtain ⟨n, rfl, n0, n1⟩ := inB_int h2
        exact .plain n n0 n1
      · cases h2
    · split at h2
      · rename_i c
        have c := of_decide_eq_true c
        subst c
        rcases r with _ | ⟨a, _ | ⟨b, _ | ⟨c, _ | ⟨d, r⟩⟩⟩⟩
        · cases h2
        · cases h2
        · cases h2
        · have h3 : (inB 1 200 a && (inB 0 15 b && inB 0 255 c)) = true := h2
          rw [Bool.and_eq_true, Bool.and_eq_true] at h3
          obtain ⟨x, rfl, x0, x1⟩ := inB_int h3.1
          obtain ⟨y, rfl, y0, y1⟩ := inB_int h3.2.1
          obtain ⟨z, rfl, z0, z1⟩ := inB_int h3.2.2
          exact .moved x y z x0 x1 y0 y1 z0 z1
        · cases h2
      · split at h2
        · rename_i c
          have c := of_decide_eq_true c
          subst c
          rcases r with _ | ⟨a, _ | ⟨b, _ | ⟨c, _ | ⟨d, _ | ⟨e, r⟩⟩⟩⟩⟩
          · cases h2
          · cases h2
          · cases h2
          · cases h2
          · have h3 : (inB 1 200 a && (inB 0 15 b && (inB 1 200 c && inB 0 15 d))) = true := h2
            rw [Bool.and_eq_true, Bool.and_eq_true, Bool.and_eq_true] at h3
            obtain ⟨x, rfl, x0, x1⟩ := inB_int h3.1
            obtain ⟨y, rfl, y0, y1⟩ := inB_int h3.2.1
            obtain ⟨z, rfl, z0, z1⟩ := inB_int h3.2.2.1
            obtain ⟨u, rfl, u0, u1⟩ := inB_int h3.2.2.2
            exact .mixed x y z u x0 x1 y0 y1 z0 z1 u0 u1
          · cases h2
        · cases h2
theorem RuleL.is {xs : List V} (h : RuleL xs) : ruleB xs = true := by
  cases h with
  | plain a h0 h1 => exact int_inB h0 h1
  | moved a b c h0 h1 h2 h3 h4 h5 =>
    show (inB 1 200 (.int a) && (inB 0 15 (.int b) && inB 0 255 (.int c))) = true
    rw [int_inB h0 h1, int_inB h2 h3, int_inB h4 h5]; rfl
  | mixed a b c d h0 h1 h2 h3 h4 h5 h6 h7 =>
    show (inB 1 200 (.int a) && (inB 0 15 (.int b) && (inB 1 200 (.int c) && inB 0 15 (.int d)))) = true
    rw [int_inB h0 h1, int_inB h2 h3, int_inB h4 h5, int_inB h6 h7]; rfl
theorem RuleL.data {xs : List V} (h : RuleL xs) : ∃ (s : Str) (ns : List Int), xs = .str s :: ns.map V.int ∧ PyData.canLay0 (.str s) = true := by
  cases h with
  | plain a => exact ⟨"plain", [a], rfl, by decide +kernel⟩
  | moved a b c => exact ⟨"moved", [a, b, c], rfl, by decide +kernel⟩
  | mixed a b c d => exact ⟨"mixed", [a, b, c, d], rfl, by decide +kernel⟩
theorem evSelf (s : Str) (ns : List Int) : PyData.eqvAll (.str s :: ns.map PyData.int) (.str s :: ns.map PyData.int) = true := by
  show (PyData.eqv (.str s) (.str s) && PyData.eqvAll (ns.map PyData.int) (ns.map PyData.int)) = true
  rw [show PyData.eqvAll (ns.map PyData.int) (ns.map PyData.int) = true from (PySem.W.ked_eqvAll ns ns).trans (decide_eq_true rfl)]
  simp [PyData.eqv]
theorem shSelf {s : Str} (ns : List Int) (hs : PyData.canLay0 (.str s) = true) : (PyData.canLayAll0 (.str s :: ns.map PyData.int) && decide (PyData.depthAll (.str s :: ns.map PyData.int) + 1 ≤ 64)) = true := by
  have e1 : PyData.canLayAll0 (.str s :: ns.map PyData.int) = true := by simp [PyData.canLayAll0, hs, layInts]
  rw [e1, Bool.true_and]
  refine decide_eq_true ?_
  simp only [PyData.depthAll, PyData.depth, depInts]
  omega
theorem eqRuleT {K : PySem.W.Frag} {H : Hp} {Q : VK} {p q : Addr} {xs : List V} (r : RuleL xs) (h1 : SqT K H p xs) (h2 : SqT K H q xs) (k : Q (.bl true) H) : rEqD K (.ref p) (.ref q) H Q := by
  obtain ⟨s, ns, rfl, hs⟩ := r.data
  refine ⟨.tuple (.str s :: ns.map PyData.int), .tuple (.str s :: ns.map PyData.int), .tup h1 (.cons (.str _) (dpInts ns)), .tup h2 (.cons (.str _) (dpInts ns)), shSelf ns hs, shSelf ns hs, ?_⟩
  rw [show PyData.eqv (.tuple (.str s :: ns.map PyData.int)) (.tuple (.str s :: ns.map PyData.int)) = true from by rw [PyData.eqv]; exact evSelf s ns]
  exact k
theorem eqRuleL {K : PySem.W.Frag} {H : Hp} {Q : VK} {p q : Addr} {xs : List V} (r : RuleL xs) (h1 : SqL K H p xs) (h2 : SqL K H q xs) (k : Q (.bl true) H) : rEqD K (.ref p) (.ref q) H Q := by
  obtain ⟨s, ns, rfl, hs⟩ := r.data
  refine ⟨.list (.str s :: ns.map PyData.int), .list (.str s :: ns.map PyData.int), .lst h1 (.cons (.str _) (dpInts ns)), .lst h2 (.cons (.str _) (dpInts ns)), shSelf ns hs, shSelf ns hs, ?_⟩
  rw [show PyData.eqv (.list (.str s :: ns.map PyData.int)) (.list (.str s :: ns.map PyData.int)) = true from by rw [PyData.eqv]; exact evSelf s ns]
  exact k
/-! ### is it a text -/
theorem tyx_str {K : PySem.W.Frag} {H : Hp} {v : V} {u : Value} (ty : TyX K H v u) (e : u = .type "str") : ∃ s, v = .str s := by
  cases ty with
  | base b => cases b <;> first | exact ⟨_, rfl⟩ | (cases e; done) | (injection e with e; exact absurd e (by decide))
  | byt b => injection e with e; exact absurd e (by decide)
  | set _ => injection e with e; exact absurd e (by decide)
  | kList _ _ => injection e with e; exact absurd e (by decide)
  | kTuple _ _ => injection e with e; exact absurd e (by decide)
  | kDict _ _ => injection e with e; exact absurd e (by decide)
  | fTuple _ => injection e with e; exact absurd e (by decide)
  | fDict _ => injection e with e; exact absurd e (by decide)
theorem thing_str {K : PySem.W.Frag} {H : Hp} {v : V} (h : Thing K H v) : (∃ s, v = .str s) ∨ ((∀ s, v ≠ .str s) ∧ ∃ t, TyX K H v (.type t) ∧ kitB t "str" = some false) := by
  cases h with
  | int i => exact .inr ⟨(fun s z => nomatch z), _, .base (.int i), by decide +kernel⟩
  | @odd _ t ty m n =>
    simp only [others, List.mem_cons, List.not_mem_nil, or_false] at m
    have key : ∀ s, v = .str s → t = "str" := by
      rintro s rfl
      cases ty with
      | base b => cases b; rfl
    rcases m with rfl | rfl | rfl | rfl | rfl | rfl
    · exact .inr ⟨(fun s z => absurd (key s z) (by decide)), _, ty, by decide +kernel⟩
    · exact .inr ⟨(fun s z => absurd (key s z) (by decide)), _, ty, by decide +kernel⟩
    · exact .inl (tyx_str ty rfl)
    · exact .inr ⟨(fun s z => absurd (key s z) (by decide)), _, ty, by decide +kernel⟩
    · exact .inr ⟨(fun s z => absurd (key s z) (by decide)), _, ty, by decide +kernel⟩
    · exact .inr ⟨(fun s z => absurd (key s z) (by decide)), _, ty, by decide +kernel⟩
theorem ruleB_nostr {v : V} {r : List V} (h : ∀ s, v ≠ .str s) : ruleB (v :: r) = false := by
  show (if decide (v = .str "plain") = true then plainB r else if decide (v = .str "moved") = true then movedB r else if decide (v = .str "mixed") = true then mixedB r else false) = false
  rw [decide_eq_false (h _), decide_eq_false (h _), decide_eq_false (h _)]
  rfl
def notuple : List String := ["bool", "NoneType", "str", "list", "dict", "int"]
/-- a thing that may be handed in as a rule, or none -/
inductive Told (K : PySem.W.Frag) (H : Hp) : V → Bool → Prop where
  | tup {p : Addr} {xs : List V} (e : H p = some (.tup xs)) (t : ∀ x ∈ xs, Thing K H x) : Told K H (.ref p) (ruleB xs)
  | odd {v : V} {t : String} (ty : TyX K H v (.type t)) (m : t ∈ notuple) : Told K H v false
theorem Told.same {K : PySem.W.Frag} {H H' : Hp} {v : V} {b : Bool} (f : Same H H') (h : Told K H v b) : Told K H' v b := by
  cases h with
  | tup e t => exact .tup (f _ _ e) (fun x hx => (t x hx).keep fun b o _ h => f b o h)
  | odd ty m => exact .odd (TyX.keep (fun b o _ h => f b o h) ty) m
/-! ### promises -/
def spWhole (K : PySem.W.Frag) : Sp := fun vs H Q _ => ∃ v lo hi, vs = [v, .int lo, .int hi] ∧ Thing K H v ∧ Q (.bl (inB lo hi v)) H
def spIn (K : PySem.W.Frag) (lo hi : Int) : Sp := fun vs H Q _ => ∃ v, vs = [v] ∧ Thing K H v ∧ Q (.bl (inB lo hi v)) H
def spInit1 (C : Addr) : Sp := fun vs H Q _ => ∃ (o d : Addr) (v1 : V), vs = [.ref o, v1] ∧ H o = some (.ins C d []) ∧ Q .non (upd H o (.ins C d [("worth", v1)]))
def spInit3 (C : Addr) : Sp := fun vs H Q _ => ∃ (o d : Addr) (v1 v2 v3 : V), vs = [.ref o, v1, v2, v3] ∧ H o = some (.ins C d []) ∧ Q .non (upd H o (.ins C d [("back", v1), ("cell", v2), ("added", v3)]))
def spInit4 (C : Addr) : Sp := fun vs H Q _ => ∃ (o d : Addr) (v1 v2 v3 v4 : V), vs = [.ref o, v1, v2, v3, v4] ∧ H o = some (.ins C d []) ∧ Q .non (upd H o (.ins C d [("back", v1), ("cell", v2), ("other_back", v3), ("other_cell", v4)]))
def spTold1 (C : Addr) : Sp := fun vs H Q _ => ∃ (o d : Addr) (v1 : V), vs = [.ref o] ∧ H o = some (.ins C d [("worth", v1)]) ∧ ∀ n, H n = none → Q (.ref n) (upd H n (.tup [.str "plain", v1]))
def spTold3 (C : Addr) : Sp := fun vs H Q _ => ∃ (o d : Addr) (v1 v2 v3 : V), vs = [.ref o] ∧ H o = some (.ins C d [("back", v1), ("cell", v2), ("added", v3)]) ∧ ∀ n, H n = none → Q (.ref n) (upd H n (.tup [.str "moved", v1, v2, v3]))
def spTold4 (C : Addr) : Sp := fun vs H Q _ => ∃ (o d : Addr) (v1 v2 v3 v4 : V), vs = [.ref o] ∧ H o = some (.ins C d [("back", v1), ("cell", v2), ("other_back", v3), ("other_cell", v4)]) ∧ ∀ n, H n = none → Q (.ref n) (upd H n (.tup [.str "mixed", v1, v2, v3, v4]))
/-- a rule that is told as xs stands at o -/
inductive RuleAt (cP cM cX : Addr) (H : Hp) (o : Addr) : List V → Prop where
  | plain {d : Addr} {a : V} (e : H o = some (.ins cP d [("worth", a)])) : RuleAt cP cM cX H o [.str "plain", a]
  | moved {d : Addr} {a b c : V} (e : H o = some (.ins cM d [("back", a), ("cell", b), ("added", c)])) : RuleAt cP cM cX H o [.str "moved", a, b, c]
  | mixed {d : Addr} {a b c x : V} (e : H o = some (.ins cX d [("back", a), ("cell", b), ("other_back", c), ("other_cell", x)])) : RuleAt cP cM cX H o [.str "mixed", a, b, c, x]
theorem RuleAt.keep {cP cM cX : Addr} {H H' : Hp} {o : Addr} {xs : List V} (f : ∀ u, H o = some u → H' o = some u) (h : RuleAt cP cM cX H o xs) : RuleAt cP cM cX H' o xs := by
  cases h with
  | plain e => exact .plain (f _ e)
  | moved e => exact .moved (f _ e)
  | mixed e => exact .mixed (f _ e)
def spIsRule (K : PySem.W.Frag) : Sp := fun vs H Q _ => ∃ v b, vs = [v] ∧ Told K H v b ∧ Q (.bl b) H
def spRuleOf (K : PySem.W.Frag) (C cP cM cX : Addr) : Sp := fun vs H Q E => ∃ v b, vs = [v] ∧ Told K H v b ∧
  (b = true → ∀ p xs, v = .ref p → H p = some (.tup xs) → RuleL xs → ∀ H' o, Same H H' → H o = none → RuleAt cP cM cX H' o xs → Q (.ref o) H') ∧ (b = false → E (.ref C) none H)
/-! ### what rules need -/
def needL : List V → List (List V)
  | [_, _] => []
  | [_, a, b, _] => [[a, b]]
  | [_, a, b, c, d] => [[a, b], [c, d]]
  | _ => []
/-- a list of tuples -/
def TupsAt (H : Hp) (l : Addr) (nl : List (List V)) : Prop := ∃ ts : List Addr, H l = some (.lst (ts.map V.ref)) ∧ Paired (fun t xs => H t = some (.tup xs)) ts nl
theorem TupsAt.keep {H H' : Hp} {l : Addr} {nl : List (List V)} (f : ∀ b o, H b = some o → H' b = some o) (h : TupsAt H l nl) : TupsAt H' l nl := by
  obtain ⟨ts, e, p⟩ := h
  exact ⟨ts, f _ _ e, Paired.mono (fun a b h => f _ _ h) p⟩
def spNeeds1 (C : Addr) : Sp := fun vs H Q _ => ∃ (o d : Addr) (v1 : V), vs = [.ref o] ∧ H o = some (.ins C d [("worth", v1)]) ∧ ∀ H' l, Same H H' → H l = none → TupsAt H' l [] → Q (.ref l) H'
def spNeeds3 (C : Addr) : Sp := fun vs H Q _ => ∃ (o d : Addr) (v1 v2 v3 : V), vs = [.ref o] ∧ H o = some (.ins C d [("back", v1), ("cell", v2), ("added", v3)]) ∧ ∀ H' l, Same H H' → H l = none → TupsAt H' l [[v1, v2]] → Q (.ref l) H'
def spNeeds4 (C : Addr) : Sp := fun vs H Q _ => ∃ (o d : Addr) (v1 v2 v3 v4 : V), vs = [.ref o] ∧ H o = some (.ins C d [("back", v1), ("cell", v2), ("other_back", v3), ("other_cell", v4)]) ∧ ∀ H' l, Same H H' → H l = none → TupsAt H' l [[v1, v2], [v3, v4]] → Q (.ref l) H'
def spValue1 (K : PySem.W.Frag) (C : Addr) : Sp := fun vs H Q _ => ∃ (o d : Addr) (v1 f : V), vs = [.ref o, f] ∧ H o = some (.ins C d [("worth", v1)]) ∧ Q v1 H
def spValue3 (K : PySem.W.Frag) (C : Addr) : Sp := fun vs H Q _ => ∃ (o d l : Addr) (v1 v2 : V) (c x : Int) (r : List V), vs = [.ref o, .ref l] ∧ H o = some (.ins C d [("back", v1), ("cell", v2), ("added", .int c)]) ∧ H l = some (.lst (.int x :: r)) ∧ Q (.int ((x + c) % 256)) H
def spValue4 (K : PySem.W.Frag) (C : Addr) : Sp := fun vs H Q _ => ∃ (o d l : Addr) (v1 v2 v3 v4 : V) (x y : Int) (r : List V), vs = [.ref o, .ref l] ∧ H o = some (.ins C d [("back", v1), ("cell", v2), ("other_back", v3), ("other_cell", v4)]) ∧ H l = some (.lst (.int x :: .int y :: r)) ∧ Q (.int ((x + y) / 2)) H
theorem empty_app (a : Str) : Str.empty ++ a = a := by
  show Str.append Str.empty a = a
  simp [Str.append, Str.empty]
def tx (a : Int) : Str := Str.ofString (toString a)
theorem tx_fin : ∀ n : Fin 256, (Str.ofString (toString ((n.val : Nat) : Int))).length ≤ 3 := by decide +kernel
theorem tx_len {a : Int} (h0 : 0 ≤ a) (h1 : a ≤ 255) : (tx a).length ≤ 3 := by
  have h := tx_fin ⟨a.toNat, by omega⟩
  have e : (((⟨a.toNat, by omega⟩ : Fin 256).val : Nat) : Int) = a := by
    show ((a.toNat : Nat) : Int) = a
    omega
  rw [e] at h
  exact h
theorem log_b {a : Int} (h0 : 0 ≤ a) (h1 : a ≤ 255) : a.natAbs.log2 < 1920 := by
  have h : a.natAbs < 2 ^ 10 := by omega
  exact Nat.lt_of_lt_of_le (PySem.Flt.log2_lt_of (by decide) h) (by decide)
def word : List V → Str
  | [_, .int a] => tx a
  | [_, .int a, .int b, .int c] => tx a ++ ":" ++ tx b ++ "+" ++ tx c
  | [_, .int a, .int b, .int c, .int d] => tx a ++ ":" ++ tx b ++ "/" ++ tx c ++ ":" ++ tx d
  | _ => Str.empty
def spStr1 (C : Addr) : Sp := fun vs H Q _ => ∃ (o d : Addr) (a : Int), vs = [.ref o] ∧ H o = some (.ins C d [("worth", .int a)]) ∧ 0 ≤ a ∧ a ≤ 255 ∧ Q (.str (tx a)) H
def spStr3 (C : Addr) : Sp := fun vs H Q _ => ∃ (o d : Addr) (a b c : Int), vs = [.ref o] ∧ H o = some (.ins C d [("back", .int a), ("cell", .int b), ("added", .int c)]) ∧ 0 ≤ a ∧ a ≤ 255 ∧ 0 ≤ b ∧ b ≤ 255 ∧ 0 ≤ c ∧ c ≤ 255 ∧ Q (.str (tx a ++ ":" ++ tx b ++ "+" ++ tx c)) H
def spStr4 (C : Addr) : Sp := fun vs H Q _ => ∃ (o d : Addr) (a b c x : Int), vs = [.ref o] ∧ H o = some (.ins C d [("back", .int a), ("cell", .int b), ("other_back", .int c), ("other_cell", .int x)]) ∧ 0 ≤ a ∧ a ≤ 255 ∧ 0 ≤ b ∧ b ≤ 255 ∧ 0 ≤ c ∧ c ≤ 255 ∧ 0 ≤ x ∧ x ≤ 255 ∧ Q (.str (tx a ++ ":" ++ tx b ++ "/" ++ tx c ++ ":" ++ tx x)) H
section
variable {P : Program} {w : World} {K : PySem.W.Frag} {mg : Str → Option Value} {base : Heap}
theorem ok_is_number (T : Txt K mg) : FnOk P w K mg base CX0 1 T.a_is_number T.d_is_number ["thing"] (spNumber K) := by
  refine T.F_is_number.ok sc_is_number (fun vs H Q E h => ?_) (fun cdv A outer s H vs Q E hr h => ?_)
  · obtain ⟨v, rfl, _⟩ := h
    rfl
  · obtain ⟨v, rfl, hv, q⟩ := h
    refine ⟨_, (pss_one (ps_ret (pe_and (pe_callB call_isi (by rfl) T.m_isinstance (by decide +kernel) (pa_cons (pv 0) (pa_cons (pe_bltn (v := .ty "int") (by rfl) T.m_int (by decide +kernel) rfl) pa_nil))) (pe_one (pe_not (pe_callB call_isi (by rfl) T.m_isinstance (by decide +kernel) (pa_cons (pv 0) (pa_cons (pe_bltn (v := .ty "bool") (by rfl) T.m_bool (by decide +kernel) rfl) pa_nil)))))))), ?_⟩
    repeat' walk_at "g"
    cases hv with
    | int i =>
      refine ⟨_, _, _, _, true, rfl, .ty _, .base (.int i), kit_ty (by decide +kernel), _, rfl, ifT rfl ?_⟩
      repeat' walk_at "g"
      exact ⟨_, _, _, _, false, rfl, .ty _, .base (.int i), kit_ty (by decide +kernel), _, rfl, q⟩
    | @odd _ t ty m n =>
      rw [n] at q
      simp only [others, List.mem_cons, List.not_mem_nil, or_false] at m
      rcases m with rfl | rfl | rfl | rfl | rfl | rfl
      · refine ⟨_, _, _, _, true, rfl, .ty _, ty, kit_ty (by decide +kernel), _, rfl, ifT rfl ?_⟩
        repeat' walk_at "g"
        exact ⟨_, _, _, _, true, rfl, .ty _, ty, kit_ty (by decide +kernel), _, rfl, q⟩
      all_goals exact ⟨_, _, _, _, false, rfl, .ty _, ty, kit_ty (by decide +kernel), _, rfl, ifF rfl q⟩
theorem ok_is_whole (T : Txt K mg) : FnOk P w K mg base CX0 2 T.a_is_whole T.d_is_whole ["thing", "low", "high"] (spWhole K) := by
  refine T.F_is_whole.ok sc_is_whole (fun vs H Q E h => ?_) (fun cdv A outer s H vs Q E hr h => ?_)
  · obtain ⟨v, lo, hi, rfl, _⟩ := h
    rfl
  · obtain ⟨v, lo, hi, rfl, hv, q⟩ := h
    refine ⟨_, (pss_one (ps_ret (pe_and (pe_call (ok_is_number T) (hr.mono (by decide)) (by rfl) T.g_is_number T.F_is_number.kp T.b_is_number .nil pass0 (pa_cons (pv 0) pa_nil)) (pe_one (pe_chainI op_le op_le (pv 1) (pv 0) (pv 2) mn_var mn_var mn_var sh_var))))), ?_⟩
    refine ⟨_, rfl, v, rfl, hv, _, rfl, ?_⟩
    cases hv with
    | int i =>
      refine ifT rfl ?_
      repeat' walk_at "g"
      exact ⟨_, _, _, rfl, rfl, rfl, rfl, q⟩
    | odd ty m n =>
      rw [inB_odd n] at q
      exact ifF n q
theorem ok_is_value (T : Txt K mg) : FnOk P w K mg base CX0 3 T.a_is_value T.d_is_value ["thing"] (spIn K 0 255) := by
  refine T.F_is_value.ok sc_is_value (fun vs H Q E h => ?_) (fun cdv A outer s H vs Q E hr h => ?_)
  · obtain ⟨v, rfl, _⟩ := h
    rfl
  · obtain ⟨v, rfl, hv, q⟩ := h
    exact ⟨_, (pss_one (ps_ret (pe_call (ok_is_whole T) (hr.mono (by decide)) (by rfl) T.g_is_whole T.F_is_whole.kp T.b_is_whole .nil pass0 (pa_cons (pv 0) (pa_cons pe_int (pa_cons (pe_glob (v := .int 255) (by rfl) T.g_GREATEST_VALUE ⟨_, rfl⟩) pa_nil)))))), _, rfl, _, _, _, rfl, hv, q⟩
theorem ok_is_back (T : Txt K mg) : FnOk P w K mg base CX0 3 T.a_is_back T.d_is_back ["thing"] (spIn K 1 200) := by
  refine T.F_is_back.ok sc_is_back (fun vs H Q E h => ?_) (fun cdv A outer s H vs Q E hr h => ?_)
  · obtain ⟨v, rfl, _⟩ := h
    rfl
  · obtain ⟨v, rfl, hv, q⟩ := h
    exact ⟨_, (pss_one (ps_ret (pe_call (ok_is_whole T) (hr.mono (by decide)) (by rfl) T.g_is_whole T.F_is_whole.kp T.b_is_whole .nil pass0 (pa_cons (pv 0) (pa_cons pe_int (pa_cons (pe_glob (v := .int 200) (by rfl) T.g_GREATEST_BACK ⟨_, rfl⟩) pa_nil)))))), _, rfl, _, _, _, rfl, hv, q⟩
theorem ok_is_cell (T : Txt K mg) : FnOk P w K mg base CX0 3 T.a_is_cell T.d_is_cell ["thing"] (spIn K 0 15) := by
  refine T.F_is_cell.ok sc_is_cell (fun vs H Q E h => ?_) (fun cdv A outer s H vs Q E hr h => ?_)
  · obtain ⟨v, rfl, _⟩ := h
    rfl
  · obtain ⟨v, rfl, hv, q⟩ := h
    exact ⟨_, (pss_one (ps_ret (pe_call (ok_is_whole T) (hr.mono (by decide)) (by rfl) T.g_is_whole T.F_is_whole.kp T.b_is_whole .nil pass0 (pa_cons (pv 0) (pa_cons pe_int (pa_cons (pe_glob (v := .int 15) (by rfl) T.g_LAST_CELL ⟨_, rfl⟩) pa_nil)))))), _, rfl, _, _, _, rfl, hv, q⟩
theorem ok_Plain_init (T : Txt K mg) : FnOk P w K mg base CX0 1 T.a_Plain_init T.d_Plain_init ["self", "value"] (spInit1 T.c_Plain) := by
  refine T.F_Plain_init.ok sc_Plain_init (fun vs H Q E h => ?_) (fun cdv A outer s H vs Q E hr h => ?_)
  · obtain ⟨o, d, v1, rfl, _⟩ := h
    rfl
  · obtain ⟨o, d, v1, rfl, ho, q⟩ := h
    refine ⟨_, (pss_one (ps_fld (pv 0) (pv 1) rfl)), ?_⟩
    repeat' walk_at "g"
    refine ⟨_, _, _, _, rfl, ho, T.cl_Plain, T.na_Plain_worth, Nat.le_of_ble_eq_true rfl, ?_⟩
    exact q
theorem ok_Plain_told (T : Txt K mg) : FnOk P w K mg base CX0 1 T.a_Plain_told T.d_Plain_told ["self"] (spTold1 T.c_Plain) := by
  refine T.F_Plain_told.ok sc_Plain_told (fun vs H Q E h => ?_) (fun cdv A outer s H vs Q E hr h => ?_)
  · obtain ⟨o, d, v1, rfl, _⟩ := h
    rfl
  · obtain ⟨o, d, v1, rfl, ho, q⟩ := h
    refine ⟨_, (pss_one (ps_ret (pe_tup (pa_cons pe_str (pa_cons (pe_fld (pv 0) rfl) pa_nil))))), ?_⟩
    repeat' walk_at "g"
    refine ⟨_, _, _, _, _, rfl, ho, T.cl_Plain, T.na_Plain_worth, rfl, ?_⟩
    exact ⟨sz rfl, q⟩
theorem ok_Moved_init (T : Txt K mg) : FnOk P w K mg base CX0 1 T.a_Moved_init T.d_Moved_init ["self", "back", "cell", "add"] (spInit3 T.c_Moved) := by
  refine T.F_Moved_init.ok sc_Moved_init (fun vs H Q E h => ?_) (fun cdv A outer s H vs Q E hr h => ?_)
  · obtain ⟨o, d, v1, v2, v3, rfl, _⟩ := h
    rfl
  · obtain ⟨o, d, v1, v2, v3, rfl, ho, q⟩ := h
    refine ⟨_, (pss_cons (ps_fld (pv 0) (pv 1) rfl)
      (pss_cons (ps_fld (pv 0) (pv 2) rfl)
      (pss_one (ps_fld (pv 0) (pv 3) rfl)))), ?_⟩
    repeat' walk_at "g"
    refine ⟨_, _, _, _, rfl, ho, T.cl_Moved, T.na_Moved_back, Nat.le_of_ble_eq_true rfl, ?_⟩
    repeat' walk_at "g"
    refine ⟨_, _, _, _, rfl, upd_same, T.cl_Moved, T.na_Moved_cell, Nat.le_of_ble_eq_true rfl, ?_⟩
    repeat' walk_at "g"
    refine ⟨_, _, _, _, rfl, upd_same, T.cl_Moved, T.na_Moved_added, Nat.le_of_ble_eq_true rfl, ?_⟩
    simp only [upd_upd]
    exact q
theorem ok_Moved_told (T : Txt K mg) : FnOk P w K mg base CX0 1 T.a_Moved_told T.d_Moved_told ["self"] (spTold3 T.c_Moved) := by
  refine T.F_Moved_told.ok sc_Moved_told (fun vs H Q E h => ?_) (fun cdv A outer s H vs Q E hr h => ?_)
  · obtain ⟨o, d, v1, v2, v3, rfl, _⟩ := h
    rfl
  · obtain ⟨o, d, v1, v2, v3, rfl, ho, q⟩ := h
    refine ⟨_, (pss_one (ps_ret (pe_tup (pa_cons pe_str (pa_cons (pe_fld (pv 0) rfl) (pa_cons (pe_fld (pv 0) rfl) (pa_cons (pe_fld (pv 0) rfl) pa_nil))))))), ?_⟩
    repeat' walk_at "g"
    refine ⟨_, _, _, _, _, rfl, ho, T.cl_Moved, T.na_Moved_back, rfl, ?_⟩
    repeat' walk_at "g"
    refine ⟨_, _, _, _, _, rfl, ho, T.cl_Moved, T.na_Moved_cell, rfl, ?_⟩
    repeat' walk_at "g"
    refine ⟨_, _, _, _, _, rfl, ho, T.cl_Moved, T.na_Moved_added, rfl, ?_⟩
    exact ⟨sz rfl, q⟩
theorem ok_Mixed_init (T : Txt K mg) : FnOk P w K mg base CX0 1 T.a_Mixed_init T.d_Mixed_init ["self", "back", "cell", "other_back", "other_cell"] (spInit4 T.c_Mixed) := by
  refine T.F_Mixed_init.ok sc_Mixed_init (fun vs H Q E h => ?_) (fun cdv A outer s H vs Q E hr h => ?_)
  · obtain ⟨o, d, v1, v2, v3, v4, rfl, _⟩ := h
    rfl
  · obtain ⟨o, d, v1, v2, v3, v4, rfl, ho, q⟩ := h
    refine ⟨_, (pss_cons (ps_fld (pv 0) (pv 1) rfl)
      (pss_cons (ps_fld (pv 0) (pv 2) rfl)
      (pss_cons (ps_fld (pv 0) (pv 3) rfl)
      (pss_one (ps_fld (pv 0) (pv 4) rfl))))), ?_⟩
    repeat' walk_at "g"
    refine ⟨_, _, _, _, rfl, ho, T.cl_Mixed, T.na_Mixed_back, Nat.le_of_ble_eq_true rfl, ?_⟩
    repeat' walk_at "g"
    refine ⟨_, _, _, _, rfl, upd_same, T.cl_Mixed, T.na_Mixed_cell, Nat.le_of_ble_eq_true rfl, ?_⟩
    repeat' walk_at "g"
    refine ⟨_, _, _, _, rfl, upd_same, T.cl_Mixed, T.na_Mixed_other_back, Nat.le_of_ble_eq_true rfl, ?_⟩
    repeat' walk_at "g"
    refine ⟨_, _, _, _, rfl, upd_same, T.cl_Mixed, T.na_Mixed_other_cell, Nat.le_of_ble_eq_true rfl, ?_⟩
    simp only [upd_upd]
    exact q
theorem ok_Mixed_told (T : Txt K mg) : FnOk P w K mg base CX0 1 T.a_Mixed_told T.d_Mixed_told ["self"] (spTold4 T.c_Mixed) := by
  refine T.F_Mixed_told.ok sc_Mixed_told (fun vs H Q E h => ?_) (fun cdv A outer s H vs Q E hr h => ?_)
  · obtain ⟨o, d, v1, v2, v3, v4, rfl, _⟩ := h
    rfl
  · obtain ⟨o, d, v1, v2, v3, v4, rfl, ho, q⟩ := h
    refine ⟨_, (pss_one (ps_ret (pe_tup (pa_cons pe_str (pa_cons (pe_fld (pv 0) rfl) (pa_cons (pe_fld (pv 0) rfl) (pa_cons (pe_fld (pv 0) rfl) (pa_cons (pe_fld (pv 0) rfl) pa_nil)))))))), ?_⟩
    repeat' walk_at "g"
    refine ⟨_, _, _, _, _, rfl, ho, T.cl_Mixed, T.na_Mixed_back, rfl, ?_⟩
    repeat' walk_at "g"
    refine ⟨_, _, _, _, _, rfl, ho, T.cl_Mixed, T.na_Mixed_cell, rfl, ?_⟩
    repeat' walk_at "g"
    refine ⟨_, _, _, _, _, rfl, ho, T.cl_Mixed, T.na_Mixed_other_back, rfl, ?_⟩
    repeat' walk_at "g"
    refine ⟨_, _, _, _, _, rfl, ho, T.cl_Mixed, T.na_Mixed_other_cell, rfl, ?_⟩
    exact ⟨sz rfl, q⟩
theorem ok_is_rule (T : Txt K mg) : FnOk P w K mg base CX0 4 T.a_is_rule T.d_is_rule ["thing"] (spIsRule K) := by
  refine T.F_is_rule.ok sc_is_rule (fun vs H Q E h => ?_) (fun cdv A outer s H vs Q E hr h => ?_)
  · obtain ⟨v, b, rfl, _⟩ := h
    rfl
  · obtain ⟨v, b, rfl, h, q⟩ := h
    refine ⟨_, (pss_cons (ps_if (PW.pt (pw_or (pt_not (pt_val (pe_callB call_isi (by rfl) T.m_isinstance (by decide +kernel) (pa_cons (pv 0) (pa_cons (pe_bltn (v := .ty "tuple") (by rfl) T.m_tuple (by decide +kernel) rfl) pa_nil))))) (pw_or (pt_cmpR op_lt (pe_callB call_len_seq (by rfl) T.m_len (by decide +kernel) (pa_cons (pv 0) pa_nil)) pe_int (nomark _)) (pw_or1 (pt_not (pt_val (pe_callB call_isi (by rfl) T.m_isinstance (by decide +kernel) (pa_cons (pe_ix ix_tup (pv 0) pe_int (fun _ _ => rfl)) (pa_cons (pe_bltn (v := .ty "str") (by rfl) T.m_str (by decide +kernel) rfl) pa_nil))))))))) (pss_one (ps_ret pe_bl)) pss_nil)
      (pss_cons (ps_set (i := 1) sc_is_rule.nd rfl (Or.inl rfl) (pe_ix ix_tup (pv 0) pe_int (fun _ _ => rfl)))
      (pss_cons (ps_if (pt_cmpR op_eq (pv 1) pe_str (nomark _)) (pss_one (ps_ret (pe_and (pe_cmpR op_eq (pe_callB call_len_seq (by rfl) T.m_len (by decide +kernel) (pa_cons (pv 0) pa_nil)) pe_int (nomark _)) (pe_one (pe_call (ok_is_value T) (hr.mono (by decide)) (by rfl) T.g_is_value T.F_is_value.kp T.b_is_value .nil pass0 (pa_cons (pe_ix ix_tup (pv 0) pe_int (fun _ _ => rfl)) pa_nil)))))) pss_nil)
      (pss_cons (ps_if (pt_cmpR op_eq (pv 1) pe_str (nomark _)) (pss_one (ps_ret (pe_and (pe_cmpR op_eq (pe_callB call_len_seq (by rfl) T.m_len (by decide +kernel) (pa_cons (pv 0) pa_nil)) pe_int (nomark _)) (pe_and (pe_call (ok_is_back T) (hr.mono (by decide)) (by rfl) T.g_is_back T.F_is_back.kp T.b_is_back .nil pass0 (pa_cons (pe_ix ix_tup (pv 0) pe_int (fun _ _ => rfl)) pa_nil)) (pe_and (pe_call (ok_is_cell T) (hr.mono (by decide)) (by rfl) T.g_is_cell T.F_is_cell.kp T.b_is_cell .nil pass0 (pa_cons (pe_ix ix_tup (pv 0) pe_int (fun _ _ => rfl)) pa_nil)) (pe_one (pe_call (ok_is_value T) (hr.mono (by decide)) (by rfl) T.g_is_value T.F_is_value.kp T.b_is_value .nil pass0 (pa_cons (pe_ix ix_tup (pv 0) pe_int (fun _ _ => rfl)) pa_nil)))))))) pss_nil)
      (pss_cons (ps_if (pt_cmpR op_eq (pv 1) pe_str (nomark _)) (pss_one (ps_ret (pe_and (pe_cmpR op_eq (pe_callB call_len_seq (by rfl) T.m_len (by decide +kernel) (pa_cons (pv 0) pa_nil)) pe_int (nomark _)) (pe_and (pe_call (ok_is_back T) (hr.mono (by decide)) (by rfl) T.g_is_back T.F_is_back.kp T.b_is_back .nil pass0 (pa_cons (pe_ix ix_tup (pv 0) pe_int (fun _ _ => rfl)) pa_nil)) (pe_and (pe_call (ok_is_cell T) (hr.mono (by decide)) (by rfl) T.g_is_cell T.F_is_cell.kp T.b_is_cell .nil pass0 (pa_cons (pe_ix ix_tup (pv 0) pe_int (fun _ _ => rfl)) pa_nil)) (pe_and (pe_call (ok_is_back T) (hr.mono (by decide)) (by rfl) T.g_is_back T.F_is_back.kp T.b_is_back .nil pass0 (pa_cons (pe_ix ix_tup (pv 0) pe_int (fun _ _ => rfl)) pa_nil)) (pe_one (pe_call (ok_is_cell T) (hr.mono (by decide)) (by rfl) T.g_is_cell T.F_is_cell.kp T.b_is_cell .nil pass0 (pa_cons (pe_ix ix_tup (pv 0) pe_int (fun _ _ => rfl)) pa_nil))))))))) pss_nil)
      (pss_one (ps_ret pe_bl))))))), ?_⟩
    repeat' walk_at "g"
    cases h with
    | odd ty m =>
      simp only [notuple, List.mem_cons, List.not_mem_nil, or_false] at m
      rcases m with rfl | rfl | rfl | rfl | rfl | rfl
      all_goals
        refine ⟨_, _, _, _, false, rfl, .ty _, ty, kit_ty (by decide +kernel), ?_⟩
        repeat' walk_at "g"
        exact q
    | @tup p xs hp th =>
      refine ⟨_, _, _, _, true, rfl, .ty _, .base (.tup hp), kit_ty (by decide +kernel), ?_⟩
      repeat' walk_at "g"
      rcases xs with _ | ⟨x, _ | ⟨y, r⟩⟩
      · repeat' walk_at "g"
        exact q
      · repeat' walk_at "g"
        have e : ruleB [x] = false := by
          show kindB x [] = false
          unfold kindB
          split
          · rfl
          · split
            · rfl
            · split <;> rfl
        rw [e] at q
        exact q
      · refine ifF ?_ ?_
        · refine decide_eq_false ?_
          simp only [List.length_cons]
          omega
        · repeat' walk_at "g"
          refine ⟨_, _, _, _, rfl, rfl, SqT.of hp, atI_nat (j := 0) rfl, ?_⟩
          repeat' walk_at "g"
          rcases thing_str (th x (by simp)) with ⟨s, rfl⟩ | ⟨ns, t, ty, kb⟩
          · refine ⟨_, _, _, _, true, rfl, .ty _, .base (.str s), kit_ty (by decide +kernel), ?_⟩
            repeat' walk_at "g"
            refine ⟨_, _, _, _, rfl, rfl, SqT.of hp, atI_nat (j := 0) rfl, ?_⟩
            repeat' walk_at "g"
            have q2 : Q (.bl (if decide (V.str s = .str "plain") = true then plainB (y :: r) else if decide (V.str s = .str "moved") = true then movedB (y :: r) else if decide (V.str s = .str "mixed") = true then mixedB (y :: r) else false)) H := q
            have ty1 := th y (by simp)
            refine ifC (fun c => ?_) (fun c => ?_)
            · rw [if_pos c] at q2
              repeat' walk_at "g"
              rcases r with _ | ⟨z, r⟩
              · repeat' walk_at "g"
                exact ⟨ty1, q2⟩
              · refine ifF (decide_eq_false fun z => ?_) q2
                have := V.int.inj z
                simp only [List.length_cons] at this
                omega
            · rw [c, if_neg Bool.false_ne_true] at q2
              repeat' walk_at "g"
              refine ifC (fun c => ?_) (fun c => ?_)
              · rw [if_pos c] at q2
                repeat' walk_at "g"
                rcases r with _ | ⟨z, _ | ⟨u, _ | ⟨v, r⟩⟩⟩
                · repeat' walk_at "g"
                  exact q2
                · repeat' walk_at "g"
                  exact q2
                · have ty2 := th z (by simp)
                  have ty3 := th u (by simp)
                  have q3 : Q (.bl (inB 1 200 y && (inB 0 15 z && inB 0 255 u))) H := q2
                  repeat' walk_at "g"
                  refine ⟨ty1, ?_⟩
                  repeat' walk_at "g"
                  refine ifAnd (fun q3 => ?_) q3
                  repeat' walk_at "g"
                  refine ⟨ty2, ?_⟩
                  repeat' walk_at "g"
                  refine ifAnd (fun q3 => ?_) q3
                  repeat' walk_at "g"
                  exact ⟨ty3, q3⟩
                · refine ifF (decide_eq_false fun z => ?_) q2
                  have := V.int.inj z
                  simp only [List.length_cons] at this
                  omega
              · rw [c, if_neg Bool.false_ne_true] at q2
                repeat' walk_at "g"
                refine ifC (fun c => ?_) (fun c => ?_)
                · rw [if_pos c] at q2
                  repeat' walk_at "g"
                  rcases r with _ | ⟨z, _ | ⟨u, _ | ⟨v, _ | ⟨x5, r⟩⟩⟩⟩
                  · repeat' walk_at "g"
                    exact q2
                  · repeat' walk_at "g"
                    exact q2
                  · repeat' walk_at "g"
                    exact q2
                  · have ty2 := th z (by simp)
                    have ty3 := th u (by simp)
                    have ty4 := th v (by simp)
                    have q3 : Q (.bl (inB 1 200 y && (inB 0 15 z && (inB 1 200 u && inB 0 15 v)))) H := q2
                    repeat' walk_at "g"
                    refine ⟨ty1, ?_⟩
                    repeat' walk_at "g"
                    refine ifAnd (fun q3 => ?_) q3
                    repeat' walk_at "g"
                    refine ⟨ty2, ?_⟩
                    repeat' walk_at "g"
                    refine ifAnd (fun q3 => ?_) q3
                    repeat' walk_at "g"
                    refine ⟨ty3, ?_⟩
                    repeat' walk_at "g"
                    refine ifAnd (fun q3 => ?_) q3
                    repeat' walk_at "g"
                    exact ⟨ty4, q3⟩
                  · refine ifF (decide_eq_false fun z => ?_) q2
                    have := V.int.inj z
                    simp only [List.length_cons] at this
                    omega
                · rw [c, if_neg Bool.false_ne_true] at q2
                  repeat' walk_at "g"
                  exact q2
          · rw [ruleB_nostr ns] at q
            refine ⟨_, _, _, _, false, rfl, .ty _, ty, kit_ty kb, ?_⟩
            repeat' walk_at "g"
            exact q
theorem ok_rule_of (T : Txt K mg) : FnOk P w K mg base (L2.CX P w) 5 T.a_rule_of T.d_rule_of ["told"] (spRuleOf K T.c_NoRule T.c_Plain T.c_Moved T.c_Mixed) := by
  refine T.F_rule_of.okX sc_rule_of (fun vs H Q E h => ?_) (fun cdv A outer s H vs Q E hr h => ?_)
  · obtain ⟨v, b, rfl, _⟩ := h
    rfl
  · obtain ⟨v, b, rfl, h, q, qe⟩ := h
    refine ⟨_, (pss_cons (ps_if (pt_not (pt_val (pe_call (ok_is_rule T) (hr.mono (by decide)) (by rfl) T.g_is_rule T.F_is_rule.kp T.b_is_rule .nil pass0 (pa_cons (pv 0) pa_nil)))) (pss_one (ps_raise rfl (takes_of rfl rfl rfl rfl) (pmk_own PySem.F.excBase_ValueError T.x_NoRule T.g_NoRule T.k_NoRule (raises_own T.bb_NoRule T.t_NoRule) rfl))) pss_nil)
      (pss_cons (ps_asg (pv 0) (pg_star rfl (pg_name (i := 1) sc_rule_of.nd rfl (Or.inl rfl)) (pg_name (i := 2) sc_rule_of.nd rfl (Or.inl rfl))))
      (pss_cons (ps_if (pt_cmpR op_eq (pv 1) pe_str (nomark _)) (pss_one (ps_ret (pe_makeS T.mk_Plain (ok_Plain_init T) (hr.mono (by decide)) (by rfl) T.g_Plain T.b_Plain_init pass0 (pv 2)))) pss_nil)
      (pss_cons (ps_if (pt_cmpR op_eq (pv 1) pe_str (nomark _)) (pss_one (ps_ret (pe_makeS T.mk_Moved (ok_Moved_init T) (hr.mono (by decide)) (by rfl) T.g_Moved T.b_Moved_init pass0 (pv 2)))) pss_nil)
      (pss_one (ps_ret (pe_makeS T.mk_Mixed (ok_Mixed_init T) (hr.mono (by decide)) (by rfl) T.g_Mixed T.b_Mixed_init pass0 (pv 2)))))))), ?_⟩
    repeat' walk_at "g"
    refine ⟨_, _, rfl, h, ?_⟩
    repeat' walk_at "g"
    cases b with
    | false => exact ifT rfl (qe rfl)
    | true =>
      refine ifF rfl ?_
      obtain ⟨p, xs, rfl, hp, hx⟩ : ∃ p xs, v = .ref p ∧ H p = some (.tup xs) ∧ RuleL xs := by
        generalize hb : true = b at h
        cases h with
        | tup e t => exact ⟨_, _, rfl, e, RuleL.of hb.symm⟩
        | odd ty m => cases hb
      have q := q rfl p xs rfl hp hx
      cases hx with
      | plain a h0 h1 =>
        refine ⟨_, rfl, _, _, _, rfl, SqT.of hp, fun l nl => ?_⟩
        repeat' walk_at "g"
        refine ⟨_, _, rfl, .inr (SqL.of upd_same), fun o d no nd ndo => ?_⟩
        refine ⟨_, _, _, rfl, upd_same, rfl, ?_⟩
        refine q _ o ?_ (Same.none (Same.new (Same.refl _) nl) no) (.plain upd_same)
        rw [upd_upd]
        exact fun b u hb => upd_oth (new_ne no (upd_old nl hb)).symm (upd_oth (new_ne nd (upd_old nl hb)).symm (upd_old nl hb))
      | moved a b c h0 h1 h2 h3 h4 h5 =>
        refine ⟨_, rfl, _, _, _, rfl, SqT.of hp, fun l nl => ?_⟩
        repeat' walk_at "g"
        refine ⟨_, _, rfl, .inr (SqL.of upd_same), fun o d no nd ndo => ?_⟩
        refine ⟨_, _, _, _, _, rfl, upd_same, rfl, ?_⟩
        refine q _ o ?_ (Same.none (Same.new (Same.refl _) nl) no) (.moved upd_same)
        rw [upd_upd]
        exact fun b u hb => upd_oth (new_ne no (upd_old nl hb)).symm (upd_oth (new_ne nd (upd_old nl hb)).symm (upd_old nl hb))
      | mixed a b c d h0 h1 h2 h3 h4 h5 h6 h7 =>
        refine ⟨_, rfl, _, _, _, rfl, SqT.of hp, fun l nl => ?_⟩
        repeat' walk_at "g"
        refine ⟨_, _, rfl, .inr (SqL.of upd_same), fun o d no nd ndo => ?_⟩
        refine ⟨_, _, _, _, _, _, rfl, upd_same, rfl, ?_⟩
        refine q _ o ?_ (Same.none (Same.new (Same.refl _) nl) no) (.mixed upd_same)
        rw [upd_upd]
        exact fun b u hb => upd_oth (new_ne no (upd_old nl hb)).symm (upd_oth (new_ne nd (upd_old nl hb)).symm (upd_old nl hb))
theorem ok_Plain_needs (T : Txt K mg) : FnOk P w K mg base CX0 1 T.a_Plain_needs T.d_Plain_needs ["self"] (spNeeds1 T.c_Plain) := by
  refine T.F_Plain_needs.ok sc_Plain_needs (fun vs H Q E h => ?_) (fun cdv A outer s H vs Q E hr h => ?_)
  · obtain ⟨o, d, v1, rfl, _⟩ := h
    rfl
  · obtain ⟨o, d, v1, rfl, ho, q⟩ := h
    refine ⟨_, (pss_one (ps_ret (pe_lst pa_nil))), ?_⟩
    repeat' walk_at "g"
    rename_i l nl
    exact q _ l (by walk_at "fr") nl ⟨[], upd_same, .nil⟩
theorem ok_Moved_needs (T : Txt K mg) : FnOk P w K mg base CX0 1 T.a_Moved_needs T.d_Moved_needs ["self"] (spNeeds3 T.c_Moved) := by
  refine T.F_Moved_needs.ok sc_Moved_needs (fun vs H Q E h => ?_) (fun cdv A outer s H vs Q E hr h => ?_)
  · obtain ⟨o, d, v1, v2, v3, rfl, _⟩ := h
    rfl
  · obtain ⟨o, d, v1, v2, v3, rfl, ho, q⟩ := h
    refine ⟨_, (pss_one (ps_ret (pe_lst (pa_cons (pe_tup (pa_cons (pe_fld (pv 0) rfl) (pa_cons (pe_fld (pv 0) rfl) pa_nil))) pa_nil)))), ?_⟩
    repeat' walk_at "g"
    refine ⟨_, _, _, _, _, rfl, ho, T.cl_Moved, T.na_Moved_back, rfl, ?_⟩
    repeat' walk_at "g"
    refine ⟨_, _, _, _, _, rfl, ho, T.cl_Moved, T.na_Moved_cell, rfl, ?_⟩
    repeat' walk_at "g"
    rename_i t nt l nl
    exact q _ l (by walk_at "fr") (Same.none (Same.new (Same.refl _) nt) nl) ⟨[t], upd_same, .cons (by walk_at "hp") .nil⟩
theorem ok_Mixed_needs (T : Txt K mg) : FnOk P w K mg base CX0 1 T.a_Mixed_needs T.d_Mixed_needs ["self"] (spNeeds4 T.c_Mixed) := by
  refine T.F_Mixed_needs.ok sc_Mixed_needs (fun vs H Q E h => ?_) (fun cdv A outer s H vs Q E hr h => ?_)
  · obtain ⟨o, d, v1, v2, v3, v4, rfl, _⟩ := h
    rfl
  · obtain ⟨o, d, v1, v2, v3, v4, rfl, ho, q⟩ := h
    refine ⟨_, (pss_one (ps_ret (pe_lst (pa_cons (pe_tup (pa_cons (pe_fld (pv 0) rfl) (pa_cons (pe_fld (pv 0) rfl) pa_nil))) (pa_cons (pe_tup (pa_cons (pe_fld (pv 0) rfl) (pa_cons (pe_fld (pv 0) rfl) pa_nil))) pa_nil))))), ?_⟩
    repeat' walk_at "g"
    refine ⟨_, _, _, _, _, rfl, ho, T.cl_Mixed, T.na_Mixed_back, rfl, ?_⟩
    repeat' walk_at "g"
    refine ⟨_, _, _, _, _, rfl, ho, T.cl_Mixed, T.na_Mixed_cell, rfl, ?_⟩
    repeat' walk_at "g"
    rename_i t nt
    refine ⟨_, _, _, _, _, rfl, upd_old nt ho, T.cl_Mixed, T.na_Mixed_other_back, rfl, ?_⟩
    repeat' walk_at "g"
    refine ⟨_, _, _, _, _, rfl, upd_old nt ho, T.cl_Mixed, T.na_Mixed_other_cell, rfl, ?_⟩
    repeat' walk_at "g"
    rename_i t2 nt2 l nl
    exact q _ l (by walk_at "fr") (Same.none (Same.new (Same.new (Same.refl _) nt) nt2) nl) ⟨[t, t2], upd_same, .cons (by walk_at "hp") (.cons (by walk_at "hp") .nil)⟩
theorem ok_Plain_value (T : Txt K mg) : FnOk P w K mg base CX0 1 T.a_Plain_value T.d_Plain_value ["self", "found"] (spValue1 K T.c_Plain) := by
  refine T.F_Plain_value.ok sc_Plain_value (fun vs H Q E h => ?_) (fun cdv A outer s H vs Q E hr h => ?_)
  · obtain ⟨o, d, v1, f, rfl, _⟩ := h
    rfl
  · obtain ⟨o, d, v1, f, rfl, ho, q⟩ := h
    refine ⟨_, (pss_one (ps_ret (pe_fld (pv 0) rfl))), ?_⟩
    repeat' walk_at "g"
    refine ⟨_, _, _, _, _, rfl, ho, T.cl_Plain, T.na_Plain_worth, rfl, ?_⟩
    exact q
theorem ok_Moved_value (T : Txt K mg) : FnOk P w K mg base CX0 1 T.a_Moved_value T.d_Moved_value ["self", "found"] (spValue3 K T.c_Moved) := by
  refine T.F_Moved_value.ok sc_Moved_value (fun vs H Q E h => ?_) (fun cdv A outer s H vs Q E hr h => ?_)
  · obtain ⟨o, d, l, v1, v2, c, x, r, rfl, _⟩ := h
    rfl
  · obtain ⟨o, d, l, v1, v2, c, x, r, rfl, ho, hl, q⟩ := h
    refine ⟨_, (pss_one (ps_ret (pe_op op_mod (pe_op op_add (pe_ix ix_list (pv 1) pe_int (fun _ _ => rfl)) (pe_fld (pv 0) rfl)) pe_int))), ?_⟩
    repeat' walk_at "g"
    refine ⟨_, _, _, _, rfl, rfl, SqL.of hl, atI_nat (j := 0) rfl, ?_⟩
    repeat' walk_at "g"
    refine ⟨_, _, _, _, _, rfl, ho, T.cl_Moved, T.na_Moved_added, rfl, ?_⟩
    repeat' walk_at "g"
    exact q
theorem ok_Mixed_value (T : Txt K mg) : FnOk P w K mg base CX0 1 T.a_Mixed_value T.d_Mixed_value ["self", "found"] (spValue4 K T.c_Mixed) := by
  refine T.F_Mixed_value.ok sc_Mixed_value (fun vs H Q E h => ?_) (fun cdv A outer s H vs Q E hr h => ?_)
  · obtain ⟨o, d, l, v1, v2, v3, v4, x, y, r, rfl, _⟩ := h
    rfl
  · obtain ⟨o, d, l, v1, v2, v3, v4, x, y, r, rfl, ho, hl, q⟩ := h
    refine ⟨_, (pss_one (ps_ret (pe_op op_fdiv (pe_op op_add (pe_ix ix_list (pv 1) pe_int (fun _ _ => rfl)) (pe_ix ix_list (pv 1) pe_int (fun _ _ => rfl))) pe_int))), ?_⟩
    repeat' walk_at "g"
    refine ⟨_, _, _, _, rfl, rfl, SqL.of hl, atI_nat (j := 0) rfl, ?_⟩
    repeat' walk_at "g"
    refine ⟨_, _, _, _, rfl, rfl, SqL.of hl, atI_nat (j := 1) rfl, ?_⟩
    repeat' walk_at "g"
    exact q
theorem ok_Plain_str (T : Txt K mg) : FnOk P w K mg base CX0 4 T.a_Plain_str T.d_Plain_str ["self"] (spStr1 T.c_Plain) := by
  refine T.F_Plain_str.ok sc_Plain_str (fun vs H Q E h => ?_) (fun cdv A outer s H vs Q E hr h => ?_)
  · obtain ⟨o, d, a, rfl, _⟩ := h
    rfl
  · obtain ⟨o, d, a, rfl, ho, a0, a1, q⟩ := h
    refine ⟨_, (pss_one (ps_ret (pe_callTy call_str_int (by rfl) T.m_str (by decide +kernel) (pa_cons (pe_fld (pv 0) rfl) pa_nil)))), ?_⟩
    repeat' walk_at "g"
    refine ⟨_, _, _, _, _, rfl, ho, T.cl_Plain, T.na_Plain_worth, rfl, ?_⟩
    repeat' walk_at "g"
    exact ⟨log_b a0 a1, q⟩
theorem ok_Moved_str (T : Txt K mg) : FnOk P w K mg base CX0 1 T.a_Moved_str T.d_Moved_str ["self"] (spStr3 T.c_Moved) := by
  refine T.F_Moved_str.ok sc_Moved_str (fun vs H Q E h => ?_) (fun cdv A outer s H vs Q E hr h => ?_)
  · obtain ⟨o, d, a, b, c, rfl, _⟩ := h
    rfl
  · obtain ⟨o, d, a, b, c, rfl, ho, a0, a1, b0, b1, c0, c1, q⟩ := h
    refine ⟨_, (pss_one (ps_ret (pe_joined (.cons (pe_fmt (pe_fld (pv 0) rfl)) (.cons pe_str (.cons (pe_fmt (pe_fld (pv 0) rfl)) (.cons pe_str (.cons (pe_fmt (pe_fld (pv 0) rfl)) .nil)))))))), ?_⟩
    have la := tx_len a0 a1
    have lb := tx_len b0 b1
    have lc := tx_len c0 c1
    unfold tx at la lb lc
    have l0 : Str.empty.length = 0 := rfl
    have l1 : (Str.ofString ":").length = 1 := by decide +kernel
    have l2 : (Str.ofString "+").length = 1 := by decide +kernel
    refine ⟨_, rfl, _, _, _, _, _, rfl, ho, T.cl_Moved, T.na_Moved_back, rfl, ?_⟩
    refine .inr ⟨_, rfl, log_b a0 a1, _, rfl, szn (by simp only [Str.length_append]; omega), ?_⟩
    refine ⟨_, rfl, szn (by simp only [Str.length_append]; omega), ?_⟩
    refine ⟨_, rfl, _, _, _, _, _, rfl, ho, T.cl_Moved, T.na_Moved_cell, rfl, ?_⟩
    refine .inr ⟨_, rfl, log_b b0 b1, _, rfl, szn (by simp only [Str.length_append]; omega), ?_⟩
    refine ⟨_, rfl, szn (by simp only [Str.length_append]; omega), ?_⟩
    refine ⟨_, rfl, _, _, _, _, _, rfl, ho, T.cl_Moved, T.na_Moved_added, rfl, ?_⟩
    refine .inr ⟨_, rfl, log_b c0 c1, _, rfl, szn (by simp only [Str.length_append]; omega), ?_⟩
    show Q (.str _) H
    rw [empty_app]
    exact q
theorem ok_Mixed_str (T : Txt K mg) : FnOk P w K mg base CX0 1 T.a_Mixed_str T.d_Mixed_str ["self"] (spStr4 T.c_Mixed) := by
  refine T.F_Mixed_str.ok sc_Mixed_str (fun vs H Q E h => ?_) (fun cdv A outer s H vs Q E hr h => ?_)
  · obtain ⟨o, d, a, b, c, x, rfl, _⟩ := h
    rfl
  · obtain ⟨o, d, a, b, c, x, rfl, ho, a0, a1, b0, b1, c0, c1, x0, x1, q⟩ := h
    refine ⟨_, (pss_one (ps_ret (pe_joined (.cons (pe_fmt (pe_fld (pv 0) rfl)) (.cons pe_str (.cons (pe_fmt (pe_fld (pv 0) rfl)) (.cons pe_str (.cons (pe_fmt (pe_fld (pv 0) rfl)) (.cons pe_str (.cons (pe_fmt (pe_fld (pv 0) rfl)) .nil)))))))))), ?_⟩
    have la := tx_len a0 a1
    have lb := tx_len b0 b1
    have lc := tx_len c0 c1
    have lx := tx_len x0 x1
    unfold tx at la lb lc lx
    have l0 : Str.empty.length = 0 := rfl
    have l1 : (Str.ofString ":").length = 1 := by decide +kernel
    have l2 : (Str.ofString "/").length = 1 := by decide +kernel
    refine ⟨_, rfl, _, _, _, _, _, rfl, ho, T.cl_Mixed, T.na_Mixed_back, rfl, ?_⟩
    refine .inr ⟨_, rfl, log_b a0 a1, _, rfl, szn (by simp only [Str.length_append]; omega), ?_⟩
    refine ⟨_, rfl, szn (by simp only [Str.length_append]; omega), ?_⟩
    refine ⟨_, rfl, _, _, _, _, _, rfl, ho, T.cl_Mixed, T.na_Mixed_cell, rfl, ?_⟩
    refine .inr ⟨_, rfl, log_b b0 b1, _, rfl, szn (by simp only [Str.length_append]; omega), ?_⟩
    refine ⟨_, rfl, szn (by simp only [Str.length_append]; omega), ?_⟩
    refine ⟨_, rfl, _, _, _, _, _, rfl, ho, T.cl_Mixed, T.na_Mixed_other_back, rfl, ?_⟩
    refine .inr ⟨_, rfl, log_b c0 c1, _, rfl, szn (by simp only [Str.length_append]; omega), ?_⟩
    refine ⟨_, rfl, szn (by simp only [Str.length_append]; omega), ?_⟩
    refine ⟨_, rfl, _, _, _, _, _, rfl, ho, T.cl_Mixed, T.na_Mixed_other_cell, rfl, ?_⟩
    refine .inr ⟨_, rfl, log_b x0 x1, _, rfl, szn (by simp only [Str.length_append]; omega), ?_⟩
    show Q (.str _) H
    rw [empty_app]
    exact q
end

local macro_rules | `(tactic| walk_at "dw") => `(tactic| (refine ⟨_, _, _, rfl, by walk_at "hp", by assumption, by first | decide | omega, by first | decide | omega, fun _ _ _ _ _ _ _ _ => ?_⟩))
local macro_rules | `(tactic| walk_at "ed") => `(tactic| (refine ⟨_, _, _, _, rfl, by walk_at "hp", by assumption, by first | decide | omega, by first | decide | omega, fun _ _ _ _ _ _ _ _ => ?_⟩))
/-! ### wells of drawn numbers -/
def IsW (xs : List V) : Prop := ∃ x y z, xs = [.int x, .int y, .int z]
def spCellW (K : PySem.W.Frag) : Sp := fun vs H Q _ => ∃ (a : Addr) (ns : List Int) (k : Int), vs = [.ref a, .int k] ∧ SqL K H a (ns.map V.int) ∧ 0 ≤ k ∧ k < 1000 ∧ ∀ n H', Same H H' → Q (.int n) H'
def spWell (K : PySem.W.Frag) : Sp := fun vs H Q _ => ∃ (a : Addr) (ns : List Int) (k : Int), vs = [.ref a, .int k] ∧ SqL K H a (ns.map V.int) ∧ 0 ≤ k ∧ k < 1000 ∧ ∀ H' q x y z, Same H H' → H q = none → H' q = some (.lst [.int x, .int y, .int z]) → Q (.ref q) H'
def spDraw : Sp := fun vs H Q _ => ∃ (p : Addr) (xs : List V) (b : Int), vs = [.ref p, .int b] ∧ H p = some (.lst xs) ∧ IsW xs ∧ 0 < b ∧ b < 1073741824 ∧
  ∀ H' d xs', Frm p H H' → H' p = some (.lst xs') → IsW xs' → 0 ≤ d → d < b → Q (.int d) H'
theorem sqKeep {K : PySem.W.Frag} {H : Hp} {a n : Addr} {xs : List V} {o : HO} (h : SqL K H a xs) (nn : H n = none) : SqL K (upd H n o) a xs := Same.seq (Same.new (Same.refl _) nn) h
def spEdge : Sp := fun vs H Q _ => ∃ (p : Addr) (xs : List V) (lo hi : Int), vs = [.ref p, .int lo, .int hi] ∧ H p = some (.lst xs) ∧ IsW xs ∧ lo ≤ hi ∧ hi - lo < 1000 ∧
  ∀ H' n xs', Frm p H H' → H' p = some (.lst xs') → IsW xs' → lo ≤ n → n ≤ hi → Q (.int n) H'
def spLRule : Sp := fun vs H Q _ => ∃ (p : Addr) (xs : List V), vs = [.ref p] ∧ H p = some (.lst xs) ∧ IsW xs ∧ ∀ H' t zs, Frm p H H' → H' t = some (.tup zs) → RuleL zs → t ≠ p → Q (.ref t) H'
def spLNeeds : Sp := fun vs H Q _ => ∃ (t : Addr) (zs : List V), vs = [.ref t] ∧ H t = some (.tup zs) ∧ RuleL zs ∧ ∀ H' l, Same H H' → H l = none → TupsAt H' l (needL zs) → Q (.ref l) H'
def worthL (x y : Int) : List V → Int
  | [_, .int a] => a
  | [_, _, _, .int c] => (x + c) % 256
  | [_, _, _, _, _] => (x + y) / 2
  | _ => 0
def spLWorth : Sp := fun vs H Q _ => ∃ (t l : Addr) (zs : List V) (x y : Int), vs = [.ref t, .ref l] ∧ H t = some (.tup zs) ∧ RuleL zs ∧ H l = some (.lst [.int x, .int y]) ∧ Q (.int (worthL x y zs)) H
def spLWord : Sp := fun vs H Q _ => ∃ (t : Addr) (zs : List V), vs = [.ref t] ∧ H t = some (.tup zs) ∧ RuleL zs ∧ Q (.str (word zs)) H
def spByName (cP cM cX : Addr) : Sp := fun vs H Q _ => ∃ (t : Addr) (zs : List V), vs = [.ref t] ∧ H t = some (.tup zs) ∧ RuleL zs ∧ ∀ H' o, Same H H' → RuleAt cP cM cX H' o zs → Q (.ref o) H'
def spOfClass (cP cM cX : Addr) : Sp := fun vs H Q _ => ∃ (o t : Addr) (zs : List V), vs = [.ref o, .ref t] ∧ H t = some (.tup zs) ∧ RuleAt cP cM cX H o zs ∧ Q (.bl true) H
section
variable {P : Program} {w : World} {K : PySem.W.Frag} {mg : Str → Option Value} {base : Heap}
theorem ok_l_cell_at (T : Txt K mg) : FnOk P w K mg base CX0 1 T.a_l_cell_at T.d_l_cell_at ["_law_script", "_law_k"] (spCellW K) := by
  refine T.F_l_cell_at.ok sc_l_cell_at (fun vs H Q E h => ?_) (fun cdv A outer s H vs Q E hr h => ?_)
  · obtain ⟨a, ns, k, rfl, _⟩ := h
    rfl
  · obtain ⟨a, ns, k, rfl, hS, h0, h1, q⟩ := h
    refine ⟨_, (pss_cons (ps_if (pt_cmpR op_lt (pv 1) (pe_callB call_len_seq (by rfl) T.m_len (by decide +kernel) (pa_cons (pv 0) pa_nil)) (nomark _)) (pss_one (ps_ret (pe_ix ix_list (pv 0) (pv 1) (fun _ _ => rfl)))) pss_nil)
      (pss_cons (ps_if (pt_cmpR (op_eqD hr.units) (pv 0) (pe_lst pa_nil) (nomark _)) (pss_one (ps_ret (pv 1))) pss_nil)
      (pss_one (ps_ret (pe_op op_add (pe_ix ix_list (pv 0) (pe_op op_mod (pv 1) (pe_callB call_len_seq (by rfl) T.m_len (by decide +kernel) (pa_cons (pv 0) pa_nil))) (fun _ _ => rfl)) (pe_op op_mul pe_int (pv 1))))))), ?_⟩
    refine ⟨_, rfl, _, rfl, _, _, rfl, .inl hS, ?_⟩
    repeat' walk_at "g"
    refine ite2 (fun c => ?_) (fun c => ?_)
    · have c := of_decide_eq_true c
      refine ⟨_, rfl, _, rfl, ?_⟩
      refine ixP (fun v => ∃ i, v = .int i) hS h0 c (fun v hv => ?_) (fun v ⟨i, e⟩ => ?_)
      · obtain ⟨i, m, e⟩ := List.mem_map.mp hv
        exact ⟨i, e.symm⟩
      · subst e
        exact q i _ (Same.refl _)
    · repeat' walk_at "g"
      rename_i e ne
      refine eqInts (ms := []) (sqKeep hS ne) (SqL.of upd_same) ?_
      by_cases hn : ns = []
      · rw [decide_eq_true hn]
        repeat' walk_at "g"
        exact q _ _ (Same.new (Same.refl _) ne)
      · rw [decide_eq_false hn]
        have hl : 0 < ns.length := List.length_pos_iff.mpr hn
        repeat' walk_at "g"
        refine ⟨_, _, rfl, .inl (sqKeep hS ne), ?_⟩
        repeat' walk_at "g"
        refine ⟨show (0 : Int) < ((ns.map V.int).length : Nat) by rw [List.length_map]; omega, ?_⟩
        have hl2 : (0 : Int) < ((ns.map V.int).length : Nat) := by rw [List.length_map]; omega
        refine ixP (fun v => ∃ i, v = .int i) (sqKeep hS ne) (Int.emod_nonneg _ (by omega)) (Int.emod_lt_of_pos _ hl2) (fun v hv => ?_) (fun v ⟨i, e⟩ => ?_)
        · obtain ⟨i, m, e⟩ := List.mem_map.mp hv
          exact ⟨i, e.symm⟩
        · subst e
          repeat' walk_at "g"
          exact q _ _ (Same.new (Same.refl _) ne)
theorem ok_l_well (T : Txt K mg) : FnOk P w K mg base CX0 2 T.a_l_well T.d_l_well ["_law_script", "_law_k"] (spWell K) := by
  refine T.F_l_well.ok sc_l_well (fun vs H Q E h => ?_) (fun cdv A outer s H vs Q E hr h => ?_)
  · obtain ⟨a, ns, k, rfl, _⟩ := h
    rfl
  · obtain ⟨a, ns, k, rfl, hS, h0, h1, q⟩ := h
    refine ⟨_, (pss_cons (ps_set (i := 2) sc_l_well.nd rfl (Or.inl rfl) (pe_call (ok_l_cell_at T) (hr.mono (by decide)) (by rfl) T.g_l_cell_at T.F_l_cell_at.kp T.b_l_cell_at .nil pass0 (pa_cons (pv 0) (pa_cons (pv 1) pa_nil))))
      (pss_one (ps_ret (pe_lst (pa_cons (pv 2) (pa_cons (pe_op op_mod (pv 2) pe_int) (pa_cons pe_int pa_nil))))))), ?_⟩
    refine ⟨_, rfl, _, rfl, _, _, _, rfl, hS, h0, h1, fun n H1 s1 => ?_⟩
    repeat' walk_at "g"
    rename_i l nl
    exact q _ _ _ _ _ (by walk_at "fr") (Same.none s1 nl) upd_same
theorem ok_l_draw (T : Txt K mg) : FnOk P w K mg base CX0 1 T.a_l_draw T.d_l_draw ["_law_well_here", "_law_many"] spDraw := by
  refine T.F_l_draw.ok sc_l_draw (fun vs H Q E h => ?_) (fun cdv A outer s H vs Q E hr h => ?_)
  · obtain ⟨p, xs, b, rfl, _⟩ := h
    rfl
  · obtain ⟨p, xs, b, rfl, hp, ⟨x, y, z, rfl⟩, b0, b1, q⟩ := h
    refine ⟨_, (pss_cons (ps_if (pt_cmpR op_ge (pe_ix ix_list (pv 0) pe_int (fun _ _ => rfl)) (pe_op op_pow pe_int pe_int) (nomark _)) (pss_cons (ps_set (i := 2) sc_l_draw.nd rfl (Or.inl rfl) (pe_op op_mod (pe_ix ix_list (pv 0) pe_int (fun _ _ => rfl)) (pv 1)))
      (pss_cons (ps_asg (pe_op op_fdiv (pe_ix ix_list (pv 0) pe_int (fun _ _ => rfl)) (pv 1)) (pg_sub (pv 0) pe_int set_list))
      (pss_one (ps_ret (pv 2))))) pss_nil)
      (pss_cons (ps_asg (pe_op op_add (pe_ix ix_list (pv 0) pe_int (fun _ _ => rfl)) pe_int) (pg_sub (pv 0) pe_int set_list))
      (pss_cons (ps_set (i := 3) sc_l_draw.nd rfl (Or.inl rfl) (pe_op op_mod (pe_op op_mul (pe_op op_add (pe_op op_add (pe_ix ix_list (pv 0) pe_int (fun _ _ => rfl)) (pe_op op_mul pe_int (pe_ix ix_list (pv 0) pe_int (fun _ _ => rfl)))) pe_int) pe_int) pe_int))
      (pss_cons (ps_set (i := 3) sc_l_draw.nd rfl (Or.inl rfl) (pe_op op_mod (pe_op op_mul (pv 3) (pe_op op_add (pe_op op_fdiv (pv 3) pe_int) pe_int)) pe_int))
      (pss_one (ps_ret (pe_op op_mod (pe_op op_mod (pe_op op_mul (pv 3) (pe_op op_add (pe_op op_fdiv (pv 3) pe_int) pe_int)) pe_int) (pv 1)))))))), ?_⟩
    repeat' walk_at "g"
    refine ite2 (fun c => ?_) (fun c => ?_)
    · repeat' walk_at "g"
      exact q _ _ _ (by walk_at "fr") upd_same ⟨_, _, _, rfl⟩ (Int.emod_nonneg _ (by omega)) (Int.emod_lt_of_pos _ b0)
    · repeat' walk_at "g"
      exact q _ _ _ (by walk_at "fr") upd_same ⟨_, _, _, rfl⟩ (Int.emod_nonneg _ (by omega)) (Int.emod_lt_of_pos _ b0)
theorem ok_l_whole (T : Txt K mg) : FnOk P w K mg base CX0 1 T.a_l_whole T.d_l_whole ["_law_thing"] (spNumber K) := by
  refine T.F_l_whole.ok sc_l_whole (fun vs H Q E h => ?_) (fun cdv A outer s H vs Q E hr h => ?_)
  · obtain ⟨v, rfl, _⟩ := h
    rfl
  · obtain ⟨v, rfl, hv, q⟩ := h
    refine ⟨_, (pss_one (ps_ret (pe_and (pe_callB call_isi (by rfl) T.m_isinstance (by decide +kernel) (pa_cons (pv 0) (pa_cons (pe_bltn (v := .ty "int") (by rfl) T.m_int (by decide +kernel) rfl) pa_nil))) (pe_one (pe_not (pe_callB call_isi (by rfl) T.m_isinstance (by decide +kernel) (pa_cons (pv 0) (pa_cons (pe_bltn (v := .ty "bool") (by rfl) T.m_bool (by decide +kernel) rfl) pa_nil)))))))), ?_⟩
    repeat' walk_at "g"
    cases hv with
    | int i =>
      refine ⟨_, _, _, _, true, rfl, .ty _, .base (.int i), kit_ty (by decide +kernel), _, rfl, ifT rfl ?_⟩
      repeat' walk_at "g"
      exact ⟨_, _, _, _, false, rfl, .ty _, .base (.int i), kit_ty (by decide +kernel), _, rfl, q⟩
    | @odd _ t ty m n =>
      rw [n] at q
      simp only [others, List.mem_cons, List.not_mem_nil, or_false] at m
      rcases m with rfl | rfl | rfl | rfl | rfl | rfl
      · refine ⟨_, _, _, _, true, rfl, .ty _, ty, kit_ty (by decide +kernel), _, rfl, ifT rfl ?_⟩
        repeat' walk_at "g"
        exact ⟨_, _, _, _, true, rfl, .ty _, ty, kit_ty (by decide +kernel), _, rfl, q⟩
      all_goals exact ⟨_, _, _, _, false, rfl, .ty _, ty, kit_ty (by decide +kernel), _, rfl, ifF rfl q⟩
theorem ok_l_edge (T : Txt K mg) : FnOk P w K mg base CX0 2 T.a_l_edge T.d_l_edge ["_law_well_here", "_law_low", "_law_high"] spEdge := by
  refine T.F_l_edge.ok sc_l_edge (fun vs H Q E h => ?_) (fun cdv A outer s H vs Q E hr h => ?_)
  · obtain ⟨p, xs, lo, hi, rfl, _⟩ := h
    rfl
  · obtain ⟨p, xs, lo, hi, rfl, hp, hx, l0, l1, q⟩ := h
    refine ⟨_, (pss_cons (ps_set (i := 3) sc_l_edge.nd rfl (Or.inl rfl) (pe_call (ok_l_draw T) (hr.mono (by decide)) (by rfl) T.g_l_draw T.F_l_draw.kp T.b_l_draw .nil pass0 (pa_cons (pv 0) (pa_cons pe_int pa_nil))))
      (pss_cons (ps_if (pt_cmpR op_eq (pv 3) pe_int (nomark _)) (pss_one (ps_ret (pv 1))) pss_nil)
      (pss_cons (ps_if (pt_cmpR op_eq (pv 3) pe_int (nomark _)) (pss_one (ps_ret (pv 2))) pss_nil)
      (pss_one (ps_ret (pe_op op_add (pv 1) (pe_call (ok_l_draw T) (hr.mono (by decide)) (by rfl) T.g_l_draw T.F_l_draw.kp T.b_l_draw .nil pass0 (pa_cons (pv 0) (pa_cons (pe_op op_add (pe_op op_sub (pv 2) (pv 1)) pe_int) pa_nil))))))))), ?_⟩
    repeat' walk_at "g"
    walk_at "dw"
    rename_i H1 d1 xs1 f1 h1 st1 d10 d11
    repeat' walk_at "g"
    refine ifC (fun c => ?_) (fun c => ?_)
    · repeat' walk_at "g"
      exact q _ _ _ f1 h1 st1 (by omega) (by omega)
    · repeat' walk_at "g"
      refine ifC (fun c => ?_) (fun c => ?_)
      · repeat' walk_at "g"
        exact q _ _ _ f1 h1 st1 (by omega) (by omega)
      · repeat' walk_at "g"
        walk_at "dw"
        rename_i H2 d2 xs2 f2 h2 st2 d20 d21
        repeat' walk_at "g"
        exact q _ _ _ (f1.trans f2) h2 st2 (by omega) (by omega)
theorem ok_l_rule (T : Txt K mg) : FnOk P w K mg base CX0 3 T.a_l_rule T.d_l_rule ["_law_well_here"] spLRule := by
  refine T.F_l_rule.ok sc_l_rule (fun vs H Q E h => ?_) (fun cdv A outer s H vs Q E hr h => ?_)
  · obtain ⟨p, xs, rfl, _⟩ := h
    rfl
  · obtain ⟨p, xs, rfl, hp, hx, q⟩ := h
    refine ⟨_, (pss_cons (ps_set (i := 1) sc_l_rule.nd rfl (Or.inl rfl) (pe_call (ok_l_draw T) (hr.mono (by decide)) (by rfl) T.g_l_draw T.F_l_draw.kp T.b_l_draw .nil pass0 (pa_cons (pv 0) (pa_cons pe_int pa_nil))))
      (pss_cons (ps_set (i := 2) sc_l_rule.nd rfl (Or.inl rfl) (pe_cmpR op_eq (pe_call (ok_l_draw T) (hr.mono (by decide)) (by rfl) T.g_l_draw T.F_l_draw.kp T.b_l_draw .nil pass0 (pa_cons (pv 0) (pa_cons pe_int pa_nil))) pe_int (nomark _)))
      (pss_cons (ps_if (pt_cmpR op_eq (pv 1) pe_int (nomark _)) (pss_one (ps_ret (pe_tup (pa_cons pe_str (pa_cons (pe_call (ok_l_edge T) (hr.mono (by decide)) (by rfl) T.g_l_edge T.F_l_edge.kp T.b_l_edge .nil pass0 (pa_cons (pv 0) (pa_cons pe_int (pa_cons pe_int pa_nil)))) pa_nil))))) pss_nil)
      (pss_cons (ps_set (i := 3) sc_l_rule.nd rfl (Or.inl rfl) (pe_call (ok_l_edge T) (hr.mono (by decide)) (by rfl) T.g_l_edge T.F_l_edge.kp T.b_l_edge .nil pass0 (pa_cons (pv 0) (pa_cons pe_int (pa_cons pe_int pa_nil)))))
      (pss_cons (ps_set (i := 4) sc_l_rule.nd rfl (Or.inl rfl) (pe_call (ok_l_edge T) (hr.mono (by decide)) (by rfl) T.g_l_edge T.F_l_edge.kp T.b_l_edge .nil pass0 (pa_cons (pv 0) (pa_cons pe_int (pa_cons pe_int pa_nil)))))
      (pss_cons (ps_if (pt_cmpR op_eq (pv 1) pe_int (nomark _)) (pss_one (ps_ret (pe_tup (pa_cons pe_str (pa_cons (pv 3) (pa_cons (pv 4) (pa_cons (pe_call (ok_l_edge T) (hr.mono (by decide)) (by rfl) T.g_l_edge T.F_l_edge.kp T.b_l_edge .nil pass0 (pa_cons (pv 0) (pa_cons pe_int (pa_cons pe_int pa_nil)))) pa_nil))))))) pss_nil)
      (pss_cons (ps_if (pt_val (pv 2)) (pss_one (ps_ret (pe_tup (pa_cons pe_str (pa_cons (pv 3) (pa_cons (pv 4) (pa_cons (pv 3) (pa_cons (pv 4) pa_nil)))))))) pss_nil)
      (pss_one (ps_ret (pe_tup (pa_cons pe_str (pa_cons (pv 3) (pa_cons (pv 4) (pa_cons (pe_call (ok_l_edge T) (hr.mono (by decide)) (by rfl) T.g_l_edge T.F_l_edge.kp T.b_l_edge .nil pass0 (pa_cons (pv 0) (pa_cons pe_int (pa_cons pe_int pa_nil)))) (pa_cons (pe_call (ok_l_edge T) (hr.mono (by decide)) (by rfl) T.g_l_edge T.F_l_edge.kp T.b_l_edge .nil pass0 (pa_cons (pv 0) (pa_cons pe_int (pa_cons pe_int pa_nil)))) pa_nil))))))))))))))), ?_⟩
    repeat' walk_at "g"
    walk_at "dw"
    rename_i H1 d1 xs1 f1 h1 st1 d10 d11
    repeat' walk_at "g"
    walk_at "dw"
    rename_i H2 d2 xs2 f2 h2 st2 d20 d21
    have f02 := f1.trans f2
    clear f1 f2
    repeat' walk_at "g"
    refine ifC (fun c => ?_) (fun c => ?_)
    · repeat' walk_at "g"
      walk_at "ed"
      rename_i H3 d3 xs3 f3 h3 st3 d30 d31
      have f03 := f02.trans f3
      clear f02 f3
      repeat' walk_at "g"
      exact q _ _ _ (by walk_at "fr") upd_same (.plain _ d30 (by omega)) (by walk_at "ne")
    · repeat' walk_at "g"
      walk_at "ed"
      rename_i H3 d3 xs3 f3 h3 st3 d30 d31
      have f03 := f02.trans f3
      clear f02 f3
      repeat' walk_at "g"
      walk_at "ed"
      rename_i H4 d4 xs4 f4 h4 st4 d40 d41
      have f04 := f03.trans f4
      clear f03 f4
      repeat' walk_at "g"
      refine ifC (fun c => ?_) (fun c => ?_)
      · repeat' walk_at "g"
        walk_at "ed"
        rename_i H5 d5 xs5 f5 h5 st5 d50 d51
        have f05 := f04.trans f5
        clear f04 f5
        repeat' walk_at "g"
        exact q _ _ _ (by walk_at "fr") upd_same (.moved _ _ _ d30 d31 d40 d41 d50 d51) (by walk_at "ne")
      · repeat' walk_at "g"
        refine ifC (fun c => ?_) (fun c => ?_)
        · repeat' walk_at "g"
          exact q _ _ _ (by walk_at "fr") upd_same (.mixed _ _ _ _ d30 d31 d40 d41 d30 d31 d40 d41) (by walk_at "ne")
        · repeat' walk_at "g"
          walk_at "ed"
          rename_i H5 d5 xs5 f5 h5 st5 d50 d51
          have f05 := f04.trans f5
          clear f04 f5
          repeat' walk_at "g"
          walk_at "ed"
          rename_i H6 d6 xs6 f6 h6 st6 d60 d61
          have f06 := f05.trans f6
          clear f05 f6
          repeat' walk_at "g"
          exact q _ _ _ (by walk_at "fr") upd_same (.mixed _ _ _ _ d30 d31 d40 d41 d50 d51 d60 d61) (by walk_at "ne")
theorem ok_l_needs (T : Txt K mg) : FnOk P w K mg base CX0 1 T.a_l_needs T.d_l_needs ["_law_row"] spLNeeds := by
  refine T.F_l_needs.ok sc_l_needs (fun vs H Q E h => ?_) (fun cdv A outer s H vs Q E hr h => ?_)
  · obtain ⟨t, zs, rfl, _⟩ := h
    rfl
  · obtain ⟨t, zs, rfl, ht, hz, q⟩ := h
    refine ⟨_, (pss_cons (ps_if (pt_cmpR op_eq (pe_ix ix_tup (pv 0) pe_int (fun _ _ => rfl)) pe_str (nomark _)) (pss_one (ps_ret (pe_lst pa_nil))) pss_nil)
      (pss_cons (ps_if (pt_cmpR op_eq (pe_ix ix_tup (pv 0) pe_int (fun _ _ => rfl)) pe_str (nomark _)) (pss_one (ps_ret (pe_lst (pa_cons (pe_tup (pa_cons (pe_ix ix_tup (pv 0) pe_int (fun _ _ => rfl)) (pa_cons (pe_ix ix_tup (pv 0) pe_int (fun _ _ => rfl)) pa_nil))) pa_nil)))) pss_nil)
      (pss_one (ps_ret (pe_lst (pa_cons (pe_tup (pa_cons (pe_ix ix_tup (pv 0) pe_int (fun _ _ => rfl)) (pa_cons (pe_ix ix_tup (pv 0) pe_int (fun _ _ => rfl)) pa_nil))) (pa_cons (pe_tup (pa_cons (pe_ix ix_tup (pv 0) pe_int (fun _ _ => rfl)) (pa_cons (pe_ix ix_tup (pv 0) pe_int (fun _ _ => rfl)) pa_nil))) pa_nil))))))), ?_⟩
    cases hz with
    | plain a =>
      repeat' walk_at "g"
      rename_i l nl
      exact q _ l (by walk_at "fr") nl ⟨[], upd_same, .nil⟩
    | moved a b c =>
      repeat' walk_at "g"
      rename_i u nu l nl
      exact q _ l (by walk_at "fr") (Same.none (Same.new (Same.refl _) nu) nl) ⟨[u], upd_same, .cons (by walk_at "hp") .nil⟩
    | mixed a b c d =>
      repeat' walk_at "g"
      rename_i u nu u2 nu2 l nl
      exact q _ l (by walk_at "fr") (Same.none (Same.new (Same.new (Same.refl _) nu) nu2) nl) ⟨[u, u2], upd_same, .cons (by walk_at "hp") (.cons (by walk_at "hp") .nil)⟩
theorem ok_l_worth (T : Txt K mg) : FnOk P w K mg base CX0 1 T.a_l_worth T.d_l_worth ["_law_row", "_law_found"] spLWorth := by
  refine T.F_l_worth.ok sc_l_worth (fun vs H Q E h => ?_) (fun cdv A outer s H vs Q E hr h => ?_)
  · obtain ⟨t, l, zs, x, y, rfl, _⟩ := h
    rfl
  · obtain ⟨t, l, zs, x, y, rfl, ht, hz, hl, q⟩ := h
    refine ⟨_, (pss_cons (ps_if (pt_cmpR op_eq (pe_ix ix_tup (pv 0) pe_int (fun _ _ => rfl)) pe_str (nomark _)) (pss_one (ps_ret (pe_ix ix_tup (pv 0) pe_int (fun _ _ => rfl)))) pss_nil)
      (pss_cons (ps_if (pt_cmpR op_eq (pe_ix ix_tup (pv 0) pe_int (fun _ _ => rfl)) pe_str (nomark _)) (pss_one (ps_ret (pe_op op_mod (pe_op op_add (pe_ix ix_list (pv 1) pe_int (fun _ _ => rfl)) (pe_ix ix_tup (pv 0) pe_int (fun _ _ => rfl))) pe_int))) pss_nil)
      (pss_one (ps_ret (pe_op op_fdiv (pe_op op_add (pe_ix ix_list (pv 1) pe_int (fun _ _ => rfl)) (pe_ix ix_list (pv 1) pe_int (fun _ _ => rfl))) pe_int))))), ?_⟩
    cases hz with
    | plain a =>
      repeat' walk_at "g"
      exact q
    | moved a b c =>
      repeat' walk_at "g"
      exact q
    | mixed a b c d =>
      repeat' walk_at "g"
      exact q
theorem ok_l_by_name (T : Txt K mg) : FnOk P w K mg base CX0 3 T.a_l_by_name T.d_l_by_name ["_law_row"] (spByName T.c_Plain T.c_Moved T.c_Mixed) := by
  refine T.F_l_by_name.ok sc_l_by_name (fun vs H Q E h => ?_) (fun cdv A outer s H vs Q E hr h => ?_)
  · obtain ⟨t, zs, rfl, _⟩ := h
    rfl
  · obtain ⟨t, zs, rfl, ht, hz, q⟩ := h
    refine ⟨_, (pss_cons (ps_if (pt_cmpR op_eq (pe_ix ix_tup (pv 0) pe_int (fun _ _ => rfl)) pe_str (nomark _)) (pss_one (ps_ret (pe_makeK0 T.mk_Plain (ok_Plain_init T) (hr.mono (by decide)) (by rfl) T.g_Plain T.kb_Plain_init_value pass0 (pk_cons (pe_ix ix_tup (pv 0) pe_int (fun _ _ => rfl)) pk_nil)))) pss_nil)
      (pss_cons (ps_if (pt_cmpR op_eq (pe_ix ix_tup (pv 0) pe_int (fun _ _ => rfl)) pe_str (nomark _)) (pss_one (ps_ret (pe_makeK0 T.mk_Moved (ok_Moved_init T) (hr.mono (by decide)) (by rfl) T.g_Moved T.kb_Moved_init_add_back_cell pass0 (pk_cons (pe_ix ix_tup (pv 0) pe_int (fun _ _ => rfl)) (pk_cons (pe_ix ix_tup (pv 0) pe_int (fun _ _ => rfl)) (pk_cons (pe_ix ix_tup (pv 0) pe_int (fun _ _ => rfl)) pk_nil)))))) pss_nil)
      (pss_one (ps_ret (pe_makeK (n := 2) T.mk_Mixed (ok_Mixed_init T) (hr.mono (by decide)) (by rfl) T.g_Mixed T.kb_Mixed_init_other_cell_other_back pass0 (pa_cons (pe_ix ix_tup (pv 0) pe_int (fun _ _ => rfl)) (pa_cons (pe_ix ix_tup (pv 0) pe_int (fun _ _ => rfl)) pa_nil)) (pk_cons (pe_ix ix_tup (pv 0) pe_int (fun _ _ => rfl)) (pk_cons (pe_ix ix_tup (pv 0) pe_int (fun _ _ => rfl)) pk_nil))))))), ?_⟩
    cases hz with
    | plain a =>
      repeat' walk_at "g"
      intro o dd no nd ndo
      refine ⟨_, _, _, rfl, upd_same, rfl, ?_⟩
      refine q _ o ?_ (.plain upd_same)
      rw [upd_upd]
      exact fun b u hb => upd_oth (new_ne no hb).symm (upd_oth (new_ne nd hb).symm hb)
    | moved a b c =>
      repeat' walk_at "g"
      intro o dd no nd ndo
      refine ⟨_, _, _, _, _, rfl, upd_same, rfl, ?_⟩
      refine q _ o ?_ (.moved upd_same)
      rw [upd_upd]
      exact fun b u hb => upd_oth (new_ne no hb).symm (upd_oth (new_ne nd hb).symm hb)
    | mixed a b c d =>
      repeat' walk_at "g"
      intro o dd no nd ndo
      refine ⟨_, _, _, _, _, _, rfl, upd_same, rfl, ?_⟩
      refine q _ o ?_ (.mixed upd_same)
      rw [upd_upd]
      exact fun b u hb => upd_oth (new_ne no hb).symm (upd_oth (new_ne nd hb).symm hb)
theorem ok_l_of_its_class (T : Txt K mg) : FnOk P w K mg base CX0 1 T.a_l_of_its_class T.d_l_of_its_class ["_law_rule_here", "_law_row"] (spOfClass T.c_Plain T.c_Moved T.c_Mixed) := by
  refine T.F_l_of_its_class.ok sc_l_of_its_class (fun vs H Q E h => ?_) (fun cdv A outer s H vs Q E hr h => ?_)
  · obtain ⟨o, t, zs, rfl, _⟩ := h
    rfl
  · obtain ⟨o, t, zs, rfl, ht, hz, q⟩ := h
    refine ⟨_, (pss_cons (ps_if (pt_not (pt_val (pe_callB call_isi (by rfl) T.m_isinstance (by decide +kernel) (pa_cons (pv 0) (pa_cons (pe_glob (v := .ref T.c_Rule) (by rfl) T.g_Rule rfl) pa_nil))))) (pss_one (ps_ret pe_bl)) pss_nil)
      (pss_cons (ps_if (pt_cmpR op_eq (pe_ix ix_tup (pv 1) pe_int (fun _ _ => rfl)) pe_str (nomark _)) (pss_one (ps_ret (pe_callB call_isi (by rfl) T.m_isinstance (by decide +kernel) (pa_cons (pv 0) (pa_cons (pe_glob (v := .ref T.c_Plain) (by rfl) T.g_Plain rfl) pa_nil))))) pss_nil)
      (pss_cons (ps_if (pt_cmpR op_eq (pe_ix ix_tup (pv 1) pe_int (fun _ _ => rfl)) pe_str (nomark _)) (pss_one (ps_ret (pe_callB call_isi (by rfl) T.m_isinstance (by decide +kernel) (pa_cons (pv 0) (pa_cons (pe_glob (v := .ref T.c_Moved) (by rfl) T.g_Moved rfl) pa_nil))))) pss_nil)
      (pss_one (ps_ret (pe_callB call_isi (by rfl) T.m_isinstance (by decide +kernel) (pa_cons (pv 0) (pa_cons (pe_glob (v := .ref T.c_Mixed) (by rfl) T.g_Mixed rfl) pa_nil)))))))), ?_⟩
    repeat' walk_at "g"
    cases hz with
    | plain e =>
      refine ⟨_, _, _, _, true, rfl, .own _, T.ty_Plain e, T.ki_Plain_Rule, ?_⟩
      repeat' walk_at "g"
      exact ⟨_, _, _, _, true, rfl, .own _, T.ty_Plain e, T.ki_Plain_Plain, q⟩
    | moved e =>
      refine ⟨_, _, _, _, true, rfl, .own _, T.ty_Moved e, T.ki_Moved_Rule, ?_⟩
      repeat' walk_at "g"
      exact ⟨_, _, _, _, true, rfl, .own _, T.ty_Moved e, T.ki_Moved_Moved, q⟩
    | mixed e =>
      refine ⟨_, _, _, _, true, rfl, .own _, T.ty_Mixed e, T.ki_Mixed_Rule, ?_⟩
      repeat' walk_at "g"
      exact ⟨_, _, _, _, true, rfl, .own _, T.ty_Mixed e, T.ki_Mixed_Mixed, q⟩
theorem ok_l_word (T : Txt K mg) : FnOk P w K mg base CX0 7 T.a_l_word T.d_l_word ["_law_row"] spLWord := by
  refine T.F_l_word.ok sc_l_word (fun vs H Q E h => ?_) (fun cdv A outer s H vs Q E hr h => ?_)
  · obtain ⟨t, zs, rfl, _⟩ := h
    rfl
  · obtain ⟨t, zs, rfl, ht, hz, q⟩ := h
    refine ⟨_, (pss_cons (ps_if (pt_cmpR op_eq (pe_ix ix_tup (pv 0) pe_int (fun _ _ => rfl)) pe_str (nomark _)) (pss_one (ps_ret (pe_callTy call_str_int (by rfl) T.m_str (by decide +kernel) (pa_cons (pe_ix ix_tup (pv 0) pe_int (fun _ _ => rfl)) pa_nil)))) pss_nil)
      (pss_cons (ps_if (pt_cmpR op_eq (pe_ix ix_tup (pv 0) pe_int (fun _ _ => rfl)) pe_str (nomark _)) (pss_one (ps_ret (pe_op op_add_str (pe_op op_add_str (pe_op op_add_str (pe_op op_add_str (pe_callTy call_str_int (by rfl) T.m_str (by decide +kernel) (pa_cons (pe_ix ix_tup (pv 0) pe_int (fun _ _ => rfl)) pa_nil)) pe_str) (pe_callTy call_str_int (by rfl) T.m_str (by decide +kernel) (pa_cons (pe_ix ix_tup (pv 0) pe_int (fun _ _ => rfl)) pa_nil))) pe_str) (pe_callTy call_str_int (by rfl) T.m_str (by decide +kernel) (pa_cons (pe_ix ix_tup (pv 0) pe_int (fun _ _ => rfl)) pa_nil))))) pss_nil)
      (pss_one (ps_ret (pe_op op_add_str (pe_op op_add_str (pe_op op_add_str (pe_op op_add_str (pe_op op_add_str (pe_op op_add_str (pe_callTy call_str_int (by rfl) T.m_str (by decide +kernel) (pa_cons (pe_ix ix_tup (pv 0) pe_int (fun _ _ => rfl)) pa_nil)) pe_str) (pe_callTy call_str_int (by rfl) T.m_str (by decide +kernel) (pa_cons (pe_ix ix_tup (pv 0) pe_int (fun _ _ => rfl)) pa_nil))) pe_str) (pe_callTy call_str_int (by rfl) T.m_str (by decide +kernel) (pa_cons (pe_ix ix_tup (pv 0) pe_int (fun _ _ => rfl)) pa_nil))) pe_str) (pe_callTy call_str_int (by rfl) T.m_str (by decide +kernel) (pa_cons (pe_ix ix_tup (pv 0) pe_int (fun _ _ => rfl)) pa_nil))))))), ?_⟩
    have l1 : (Str.ofString ":").length = 1 := by decide +kernel
    have l2 : (Str.ofString "+").length = 1 := by decide +kernel
    have l3 : (Str.ofString "/").length = 1 := by decide +kernel
    cases hz with
    | plain a h0 h1 =>
      repeat' walk_at "g"
      exact ⟨log_b h0 h1, q⟩
    | moved a b c h0 h1 h2 h3 h4 h5 =>
      have la := tx_len (a := a) (by omega) (by omega)
      have lb := tx_len (a := b) (by omega) (by omega)
      have lc := tx_len (a := c) (by omega) (by omega)
      unfold tx at la lb lc
      repeat' walk_at "g"
      refine ⟨log_b (by omega) (by omega), ?_⟩
      repeat' walk_at "g"
      refine ⟨szn (by omega), ?_⟩
      repeat' walk_at "g"
      refine ⟨log_b (by omega) (by omega), ?_⟩
      repeat' walk_at "g"
      refine ⟨szn (by simp only [Str.length_append]; omega), ?_⟩
      repeat' walk_at "g"
      refine ⟨szn (by simp only [Str.length_append]; omega), ?_⟩
      repeat' walk_at "g"
      refine ⟨log_b (by omega) (by omega), ?_⟩
      repeat' walk_at "g"
      refine ⟨szn (by simp only [Str.length_append]; omega), ?_⟩
      exact q
    | mixed a b c d h0 h1 h2 h3 h4 h5 h6 h7 =>
      have la := tx_len (a := a) (by omega) (by omega)
      have lb := tx_len (a := b) (by omega) (by omega)
      have lc := tx_len (a := c) (by omega) (by omega)
      have ld := tx_len (a := d) (by omega) (by omega)
      unfold tx at la lb lc ld
      repeat' walk_at "g"
      refine ⟨log_b (by omega) (by omega), ?_⟩
      repeat' walk_at "g"
      refine ⟨szn (by omega), ?_⟩
      repeat' walk_at "g"
      refine ⟨log_b (by omega) (by omega), ?_⟩
      repeat' walk_at "g"
      refine ⟨szn (by simp only [Str.length_append]; omega), ?_⟩
      repeat' walk_at "g"
      refine ⟨szn (by simp only [Str.length_append]; omega), ?_⟩
      repeat' walk_at "g"
      refine ⟨log_b (by omega) (by omega), ?_⟩
      repeat' walk_at "g"
      refine ⟨szn (by simp only [Str.length_append]; omega), ?_⟩
      repeat' walk_at "g"
      refine ⟨szn (by simp only [Str.length_append]; omega), ?_⟩
      repeat' walk_at "g"
      refine ⟨log_b (by omega) (by omega), ?_⟩
      repeat' walk_at "g"
      refine ⟨szn (by simp only [Str.length_append]; omega), ?_⟩
      exact q
end

/-! ### tuples of texts and numbers -/
def SimT (xs : List V) : Prop := RuleL xs ∨ ∃ a b : Int, xs = [.int a, .int b]
theorem SimT.len {xs : List V} (h : SimT xs) : xs.length ≤ 5 := by
  rcases h with h | ⟨a, b, rfl⟩
  · cases h <;> simp
  · simp
theorem SimT.mem {xs : List V} (h : SimT xs) {v : V} (m : v ∈ xs) : (∃ i, v = .int i) ∨ ∃ s, v = .str s := by
  rcases h with h | ⟨a, b, rfl⟩
  · obtain ⟨s, ns, rfl, _⟩ := h.data
    rcases List.mem_cons.mp m with rfl | m
    · exact .inr ⟨_, rfl⟩
    · obtain ⟨i, _, rfl⟩ := List.mem_map.mp m
      exact .inl ⟨i, rfl⟩
  · simp only [List.mem_cons, List.not_mem_nil, or_false] at m
    rcases m with rfl | rfl
    · exact .inl ⟨_, rfl⟩
    · exact .inl ⟨_, rfl⟩
theorem neqSim {K : PySem.W.Frag} {H : Hp} {Q : VK} {p q : Addr} {xs : List V} (r : SimT xs) (h1 : SqT K H p xs) (h2 : SqT K H q xs) (k : Q (.bl false) H) : rNeD K (.ref p) (.ref q) H Q := by
  rcases r with r | ⟨a, b, rfl⟩
  · obtain ⟨s, ns, rfl, hs⟩ := r.data
    refine ⟨.tuple (.str s :: ns.map PyData.int), .tuple (.str s :: ns.map PyData.int), .tup h1 (.cons (.str _) (dpInts ns)), .tup h2 (.cons (.str _) (dpInts ns)), shSelf ns hs, shSelf ns hs, ?_⟩
    rw [show PyData.eqv (.tuple (.str s :: ns.map PyData.int)) (.tuple (.str s :: ns.map PyData.int)) = true from by rw [PyData.eqv]; exact evSelf s ns]
    exact k
  · refine neqIntsT (ns := [a, b]) (ms := [a, b]) h1 h2 ?_
    rw [decide_eq_true rfl]
    exact k
theorem lcT {K : PySem.W.Frag} {a : Addr} {xs : List V} {g : TG} {tt : TT} {te : TE} {vs : List Nat} {σ : L2.St} {H1 : Hp} {D : Addr} {Qd : Hp → Prop} (Pv : Hp → Nat → Hp → Prop) (h0 : Pv H1 0 (upd H1 D (.lst []))) (hl : ∀ i H, i ≤ xs.length → Pv H1 i H → SqT K H a xs)
    (hs : ∀ i x H, xs[i]? = some x → Pv H1 i H → g x (wipe σ vs) H fun σ2 H2 => wipe σ2 vs = wipe σ vs ∧ tt σ2 H2 fun b H3 =>
      if b = true then te σ2 H3 fun y H4 => ∃ acc, H4 D = some (.lst acc) ∧ acc.length < sizeLine ∧ Pv H1 (i + 1) (upd H4 D (.lst (acc ++ [y]))) else Pv H1 (i + 1) H3) (hd : ∀ H, Pv H1 xs.length H → Qd H) :
    ∃ W : Nat → Nat → Hp → Prop, (∃ m, W 0 m (upd H1 D (.lst []))) ∧ ∀ i m H, W i m H →
      ((Itt K a).stop i H ∧ Qd H) ∨ ((Itt K a).go i H ∧ ∃ Nx : Hp → Prop, (∀ H', Nx H' → ∃ m', m' < m ∧ W (i + 1) m' H') ∧ ∀ x H', (Itt K a).yld i H x H' → g x (wipe σ vs) H' fun σ2 H2 => wipe σ2 vs = wipe σ vs ∧ tt σ2 H2 fun b H3 =>
        if b = true then te σ2 H3 fun y H4 => ∃ acc, H4 D = some (.lst acc) ∧ acc.length < sizeLine ∧ Nx (upd H4 D (.lst (acc ++ [y]))) else Nx H3) := lc_tup (Pv H1) h0 hl hs hd
def spNumbers : Sp := fun vs H Q _ => ∃ (p q : Addr) (xs : List V), vs = [.ref p, .ref q] ∧ H p = some (.tup xs) ∧ H q = some (.tup xs) ∧ SimT xs ∧ ∀ H', Same H H' → Q (.bl true) H'
def PairsL (nl : List (List V)) : Prop := nl.length ≤ 2 ∧ ∀ xs ∈ nl, ∃ a b : Int, xs = [.int a, .int b]
def spPairs : Sp := fun vs H Q _ => ∃ (l m : Addr) (nl : List (List V)), vs = [.ref l, .ref m] ∧ TupsAt H l nl ∧ TupsAt H m nl ∧ PairsL nl ∧ ∀ H', Same H H' → Q (.bl true) H'
theorem all_rep : ∀ n : Nat, (List.replicate n true).all id = true
  | 0 => rfl
  | n + 1 => by rw [List.replicate_succ, List.all_cons, all_rep n]; rfl
theorem snoc_rep {n : Nat} : (List.replicate n true).map V.bl ++ [V.bl true] = (List.replicate (n + 1) true).map V.bl := by
  rw [List.replicate_succ', List.map_append]; rfl
theorem paired_get {α β : Type} {F : α → β → Prop} : ∀ {l1 : List α} {l2 : List β} {i : Nat} {b : β}, Paired F l1 l2 → l2[i]? = some b → ∃ a, l1[i]? = some a ∧ F a b
  | _, _, i, b, .nil, h => by simp at h
  | _, _, 0, b, .cons f r, h => by
    simp only [List.getElem?_cons_zero, Option.some.injEq] at h
    subst h
    exact ⟨_, rfl, f⟩
  | _, _, i + 1, b, .cons f r, h => by
    simp only [List.getElem?_cons_succ] at h
    obtain ⟨a, e, fa⟩ := paired_get r h
    exact ⟨a, by simpa using e, fa⟩
section
variable {P : Program} {w : World} {K : PySem.W.Frag} {mg : Str → Option Value} {base : Heap}
theorem ok_l_numbers (T : Txt K mg) : FnOk P w K mg base CX0 2 T.a_l_numbers T.d_l_numbers ["_law_row", "_law_wanted"] spNumbers := by
  refine T.F_l_numbers.ok sc_l_numbers (fun vs H Q E h => ?_) (fun cdv A outer s H vs Q E hr h => ?_)
  · obtain ⟨p, r, xs, rfl, _⟩ := h
    rfl
  · obtain ⟨p, r, xs, rfl, hp, hr0, sim, q⟩ := h
    refine ⟨_, (pss_cons (ps_if (PW.pt (pw_or (pt_not (pt_val (pe_callB call_isi (by rfl) T.m_isinstance (by decide +kernel) (pa_cons (pv 0) (pa_cons (pe_bltn (v := .ty "tuple") (by rfl) T.m_tuple (by decide +kernel) rfl) pa_nil))))) (pw_or1 (pt_cmpR (op_neD hr.units) (pv 0) (pv 1) (nomark _))))) (pss_one (ps_ret pe_bl)) pss_nil)
      (pss_one (ps_ret (pe_callB (cr_all rfl) (by rfl) T.m_all (by decide +kernel) (pa_cons (pe_lc (own := [("_law_one", 2)]) (g := gName 2) (tt := tYes) (by rfl) sc_l_numbers.nd (pi_tup (pv 0)) (blkOk_by (own := [("_law_one", 2)]) (N := N_l_numbers) (sc := defScope s_l_numbers) (by decide +kernel)) (fun _ _ _ _ _ => (pg_name (i := 2) sc_l_numbers.nd rfl (Or.inl rfl))) (fun _ _ _ _ _ => pts_nil) (fun _ _ _ _ _ => (pe_or (pe_call (ok_l_whole T) (hr.mono (by decide)) (by rfl) T.g_l_whole T.F_l_whole.kp T.b_l_whole .nil pass0 (pa_cons (pv 2) pa_nil)) (pe_one (pe_callB (call_isiB (K := K) rfl) (by rfl) T.m_isinstance (by decide +kernel) (pa_cons (pv 2) (pa_cons (pe_bltn (v := .ty "str") (by rfl) T.m_str (by decide +kernel) rfl) pa_nil))))))) pa_nil))))), ?_⟩
    repeat' walk_at "g"
    refine ⟨_, _, _, _, true, rfl, .ty _, .base (.tup hp), kit_ty (by decide +kernel), ?_⟩
    repeat' walk_at "g"
    refine neqSim sim (SqT.of hp) (SqT.of hr0) ?_
    repeat' walk_at "g"
    refine ⟨⟨_, SqT.of hp⟩, fun D nD => ?_⟩
    have xl := sim.len
    refine lcT (K := K) (a := p) (xs := xs) (fun Hc i H' => Same Hc H' ∧ Hc D = none ∧ Hc p = some (.tup xs) ∧ Same H Hc ∧ H' D = some (.lst ((List.replicate i true).map V.bl))) ?_ ?_ ?_ ?_
    · exact ⟨by walk_at "fr", nD, hp, Same.refl _, upd_same⟩
    · rintro i H5 _ ⟨s5, _, hu5, _⟩
      exact SqT.of (s5 _ _ hu5)
    · rintro i x H5 hi ⟨s5, nD5, hu5, s0, hD⟩
      have il : i < xs.length := (List.getElem?_eq_some_iff.mp hi).1
      refine ⟨rfl, ?_⟩
      rcases sim.mem (List.mem_of_getElem? hi) with ⟨n, rfl⟩ | ⟨z, rfl⟩
      · refine ⟨_, rfl, _, rfl, .int n, _, rfl, ifT rfl ?_⟩
        exact ⟨_, hD, sznl (by rw [List.length_map, List.length_replicate]; omega), by walk_at "fr", nD5, hu5, s0, by rw [upd_same, snoc_rep]⟩
      · refine ⟨_, rfl, _, rfl, .odd (.base (.str z)) (by simp [others]) rfl, _, rfl, ifF rfl ?_⟩
        repeat' walk_at "g"
        refine ⟨_, _, _, _, true, rfl, .ty _, .base (.str z), kit_ty (by decide +kernel), ?_⟩
        exact ⟨_, hD, sznl (by rw [List.length_map, List.length_replicate]; omega), by walk_at "fr", nD5, hu5, s0, by rw [upd_same, snoc_rep]⟩
    · rintro H5 ⟨s5, nD5, hu5, s0, hD⟩
      refine ⟨_, _, rfl, SqL.of hD, ?_⟩
      rw [all_rep]
      exact q _ (Same.trans s0 s5)
theorem ok_l_pairs (T : Txt K mg) : FnOk P w K mg base CX0 3 T.a_l_pairs T.d_l_pairs ["_law_found", "_law_wanted"] spPairs := by
  refine T.F_l_pairs.ok sc_l_pairs (fun vs H Q E h => ?_) (fun cdv A outer s H vs Q E hr h => ?_)
  · obtain ⟨l, m, nl, rfl, _⟩ := h
    rfl
  · obtain ⟨l, m, nl, rfl, ⟨ts, hl, pt⟩, ⟨us, hm, pu⟩, ⟨nl2, hn⟩, q⟩ := h
    refine ⟨_, (pss_cons (ps_if (PW.pt (pw_or (pt_not (pt_val (pe_callB call_isi (by rfl) T.m_isinstance (by decide +kernel) (pa_cons (pv 0) (pa_cons (pe_bltn (v := .ty "list") (by rfl) T.m_list (by decide +kernel) rfl) pa_nil))))) (pw_or1 (pt_cmpR op_ne (pe_callB call_len_seq (by rfl) T.m_len (by decide +kernel) (pa_cons (pv 0) pa_nil)) (pe_callB call_len_seq (by rfl) T.m_len (by decide +kernel) (pa_cons (pv 1) pa_nil)) (nomark _))))) (pss_one (ps_ret pe_bl)) pss_nil)
      (pss_one (ps_ret (pe_callB (cr_all rfl) (by rfl) T.m_all (by decide +kernel) (pa_cons (pe_lc (own := [("_law_one", 2), ("_law_two", 3)]) (g := gTup K 2 (gCons (gName 2) (gCons (gName 3) gNil))) (tt := tYes) (by rfl) sc_l_pairs.nd (pi_zip (by rfl) T.m_zip (pa_cons (pv 0) (pa_cons (pv 1) pa_nil))) (blkOk_by (own := [("_law_one", 2), ("_law_two", 3)]) (N := N_l_pairs) (sc := defScope s_l_pairs) (by decide +kernel)) (fun _ _ _ _ _ => (pg_tup rfl (pgs_cons (pg_name (i := 2) sc_l_pairs.nd rfl (Or.inl rfl)) (pgs_cons (pg_name (i := 3) sc_l_pairs.nd rfl (Or.inl rfl)) pgs_nil)))) (fun _ _ _ _ _ => pts_nil) (fun _ _ _ _ _ => (pe_call (ok_l_numbers T) (hr.mono (by decide)) (by rfl) T.g_l_numbers T.F_l_numbers.kp T.b_l_numbers .nil pass0 (pa_cons (pv 2) (pa_cons (pv 3) pa_nil))))) pa_nil))))), ?_⟩
    have e1 := pt.length
    have e2 := pu.length
    have el : (ts.map V.ref).length = (us.map V.ref).length := by rw [List.length_map, List.length_map]; omega
    repeat' walk_at "g"
    refine ⟨_, _, _, _, true, rfl, .ty _, .base (.lst hl), kit_ty (by decide +kernel), ?_⟩
    repeat' walk_at "g"
    refine ifF (by rw [el, decide_eq_true rfl]; rfl) ?_
    repeat' walk_at "g"
    refine ⟨_, _, _, _, rfl, SqL.of hl, SqL.of hm, fun D nD => ?_⟩
    refine lc_it (walk_zip (K := K) (a := l) (b := m) (xs := ts.map V.ref) (ys := us.map V.ref) (n := nl.length) (by rw [← el, Nat.min_self, List.length_map]; omega)) (fun i H' => Same H H' ∧ H' D = some (.lst ((List.replicate i true).map V.bl))) ?_ ?_ ?_ ?_
    · exact ⟨by walk_at "fr", upd_same⟩
    · rintro i H5 _ ⟨s5, _⟩
      exact ⟨SqL.of (s5 _ _ hl), SqL.of (s5 _ _ hm)⟩
    · rintro i x H5 H6 hi ⟨s5, hD⟩ ⟨Tn, a, b, rfl, nT, rfl, ha, hb⟩
      obtain ⟨xs, hx⟩ : ∃ xs, nl[i]? = some xs := ⟨_, List.getElem?_eq_getElem hi⟩
      obtain ⟨t1, e1, f1⟩ := paired_get pt hx
      obtain ⟨t2, e2, f2⟩ := paired_get pu hx
      have ea : a = .ref t1 := by
        have h2 : (ts.map V.ref)[i]? = some a := ha
        rw [List.getElem?_map, e1] at h2
        exact (Option.some.inj h2).symm
      have eb : b = .ref t2 := by
        have h2 : (us.map V.ref)[i]? = some b := hb
        rw [List.getElem?_map, e2] at h2
        exact (Option.some.inj h2).symm
      subst ea eb
      refine ⟨_, _, rfl, SqT.of upd_same, rfl, _, _, rfl, _, _, rfl, rfl, rfl, ?_⟩
      refine ⟨_, rfl, _, rfl, _, _, _, rfl, upd_old nT (s5 _ _ f1), upd_old nT (s5 _ _ f2), .inr (hn xs (List.mem_of_getElem? hx)), fun H7 s7 => ?_⟩
      have hD7 : H7 D = some (.lst ((List.replicate i true).map V.bl)) := s7 _ _ (upd_old nT hD)
      refine ⟨_, hD7, sznl (by rw [List.length_map, List.length_replicate]; omega), ?_, by rw [upd_same, snoc_rep]⟩
      exact Same.own (Same.trans (Same.new s5 nT) s7) nD
    · rintro H5 ⟨s5, hD⟩
      refine ⟨_, _, rfl, SqL.of hD, ?_⟩
      rw [all_rep]
      exact q _ s5
end

def spRight (cP cM cX : Addr) : Sp := fun vs H Q _ => ∃ (o t l : Addr) (zs : List V) (x y : Int), vs = [.ref o, .ref t, .ref l] ∧ H t = some (.tup zs) ∧ RuleL zs ∧ RuleAt cP cM cX H o zs ∧ H l = some (.lst [.int x, .int y]) ∧ ∀ H', Same H H' → Q (.bl true) H'
theorem TupsAt.upd {H : Hp} {l q : Addr} {nl : List (List V)} {zs ws : List V} (h : TupsAt H l nl) (n : l ≠ q) (hq : H q = some (.lst zs)) : TupsAt (L2.upd H q (.lst ws)) l nl := by
  obtain ⟨ts, e, p⟩ := h
  refine ⟨ts, upd_oth n e, Paired.mono (fun a b h => ?_) p⟩
  exact upd_oth (ne_of h hq (fun z => nomatch z)) h
section
variable {P : Program} {w : World} {K : PySem.W.Frag} {mg : Str → Option Value} {base : Heap}
theorem ok_l_right (T : Txt K mg) : FnOk P w K mg base CX0 8 T.a_l_right T.d_l_right ["_law_rule_here", "_law_row", "_law_worths"] (spRight T.c_Plain T.c_Moved T.c_Mixed) := by
  refine T.F_l_right.ok sc_l_right (fun vs H Q E h => ?_) (fun cdv A outer s H vs Q E hr h => ?_)
  · obtain ⟨o, t, l, zs, x, y, rfl, _⟩ := h
    rfl
  · obtain ⟨o, t, l, zs, x, y, rfl, ht, hz, hat, hl, q⟩ := h
    refine ⟨_, (pss_cons (ps_set (i := 3) sc_l_right.nd rfl (Or.inl rfl) (pe_call (ok_l_needs T) (hr.mono (by decide)) (by rfl) T.g_l_needs T.F_l_needs.kp T.b_l_needs .nil pass0 (pa_cons (pv 1) pa_nil)))
      (pss_cons (ps_if (PW.pt (pw_or (pt_not (pt_val (pe_call (ok_l_of_its_class T) (hr.mono (by decide)) (by rfl) T.g_l_of_its_class T.F_l_of_its_class.kp T.b_l_of_its_class .nil pass0 (pa_cons (pv 0) (pa_cons (pv 1) pa_nil))))) (pw_or1 (pt_not (pt_val (pe_call (ok_l_numbers T) (hr.mono (by decide)) (by rfl) T.g_l_numbers T.F_l_numbers.kp T.b_l_numbers .nil pass0 (pa_cons (pe_either (pe_meth0 (pv 0) T.cl_Plain T.mt_Plain_told (ok_Plain_told T) (hr.mono (by decide)) T.b_Plain_told .nil pass0) (pe_either (pe_meth0 (pv 0) T.cl_Moved T.mt_Moved_told (ok_Moved_told T) (hr.mono (by decide)) T.b_Moved_told .nil pass0) (pe_meth0 (pv 0) T.cl_Mixed T.mt_Mixed_told (ok_Mixed_told T) (hr.mono (by decide)) T.b_Mixed_told .nil pass0))) (pa_cons (pv 1) pa_nil)))))))) (pss_one (ps_ret pe_bl)) pss_nil)
      (pss_cons (ps_set (i := 4) sc_l_right.nd rfl (Or.inl rfl) (pe_either (pe_meth0 (pv 0) T.cl_Plain T.mt_Plain_needs (ok_Plain_needs T) (hr.mono (by decide)) T.b_Plain_needs .nil pass0) (pe_either (pe_meth0 (pv 0) T.cl_Moved T.mt_Moved_needs (ok_Moved_needs T) (hr.mono (by decide)) T.b_Moved_needs .nil pass0) (pe_meth0 (pv 0) T.cl_Mixed T.mt_Mixed_needs (ok_Mixed_needs T) (hr.mono (by decide)) T.b_Mixed_needs .nil pass0))))
      (pss_cons (ps_if (pt_not (pt_val (pe_call (ok_l_pairs T) (hr.mono (by decide)) (by rfl) T.g_l_pairs T.F_l_pairs.kp T.b_l_pairs .nil pass0 (pa_cons (pv 4) (pa_cons (pv 3) pa_nil))))) (pss_one (ps_ret pe_bl)) pss_nil)
      (pss_cons (ps_expr (pe_bm PySem.F.plainAttrs_list PySem.F.slot_list_append PySem.F.type_list_append mt_append (pv 4) (pa_cons (pe_tup (pa_cons pe_int (pa_cons pe_int pa_nil))) pa_nil)))
      (pss_cons (ps_set (i := 5) sc_l_right.nd rfl (Or.inl rfl) (pe_slice sl_list (pv 2) po_none (po_some (pe_callB call_len_seq (by rfl) T.m_len (by decide +kernel) (pa_cons (pv 3) pa_nil)))))
      (pss_cons (ps_set (i := 6) sc_l_right.nd rfl (Or.inl rfl) (pe_either (pe_meth (pv 0) T.cl_Plain T.mt_Plain_value (ok_Plain_value T) (hr.mono (by decide)) T.b_Plain_value .nil pass0 (pa_cons (pv 5) pa_nil)) (pe_either (pe_meth (pv 0) T.cl_Moved T.mt_Moved_value (ok_Moved_value T) (hr.mono (by decide)) T.b_Moved_value .nil pass0 (pa_cons (pv 5) pa_nil)) (pe_meth (pv 0) T.cl_Mixed T.mt_Mixed_value (ok_Mixed_value T) (hr.mono (by decide)) T.b_Mixed_value .nil pass0 (pa_cons (pv 5) pa_nil)))))
      (pss_cons (ps_if (PW.pt (pw_or (pt_not (pt_val (pe_call (ok_l_whole T) (hr.mono (by decide)) (by rfl) T.g_l_whole T.F_l_whole.kp T.b_l_whole .nil pass0 (pa_cons (pv 6) pa_nil)))) (pw_or (pt_cmpR op_ne (pv 6) (pe_call (ok_l_worth T) (hr.mono (by decide)) (by rfl) T.g_l_worth T.F_l_worth.kp T.b_l_worth .nil pass0 (pa_cons (pv 1) (pa_cons (pv 2) pa_nil))) (nomark _)) (pw_or1 (pt_cmpR (op_neD hr.units) (pv 5) (pe_slice sl_list (pv 2) po_none (po_some (pe_callB call_len_seq (by rfl) T.m_len (by decide +kernel) (pa_cons (pv 3) pa_nil)))) (nomark _)))))) (pss_one (ps_ret pe_bl)) pss_nil)
      (pss_cons (ps_expr (pe_bm0 PySem.F.plainAttrs_list PySem.F.slot_list_clear PySem.F.type_list_clear mt_clear (pv 5)))
      (pss_one (ps_ret (pe_and (pe_call (ok_l_pairs T) (hr.mono (by decide)) (by rfl) T.g_l_pairs T.F_l_pairs.kp T.b_l_pairs .nil pass0 (pa_cons (pe_either (pe_meth0 (pv 0) T.cl_Plain T.mt_Plain_needs (ok_Plain_needs T) (hr.mono (by decide)) T.b_Plain_needs .nil pass0) (pe_either (pe_meth0 (pv 0) T.cl_Moved T.mt_Moved_needs (ok_Moved_needs T) (hr.mono (by decide)) T.b_Moved_needs .nil pass0) (pe_meth0 (pv 0) T.cl_Mixed T.mt_Mixed_needs (ok_Mixed_needs T) (hr.mono (by decide)) T.b_Mixed_needs .nil pass0))) (pa_cons (pv 3) pa_nil))) (pe_one (pe_cmpR op_eq (pe_either (pe_callTy (call_strOwn T.mt_Plain_str (ok_Plain_str T) (hr.mono (by decide)) T.b_Plain_str) (by rfl) T.m_str (by decide +kernel) (pa_cons (pv 0) pa_nil)) (pe_either (pe_callTy (call_strOwn T.mt_Moved_str (ok_Moved_str T) (hr.mono (by decide)) T.b_Moved_str) (by rfl) T.m_str (by decide +kernel) (pa_cons (pv 0) pa_nil)) (pe_callTy (call_strOwn T.mt_Mixed_str (ok_Mixed_str T) (hr.mono (by decide)) T.b_Mixed_str) (by rfl) T.m_str (by decide +kernel) (pa_cons (pv 0) pa_nil)))) (pe_call (ok_l_word T) (hr.mono (by decide)) (by rfl) T.g_l_word T.F_l_word.kp T.b_l_word .nil pass0 (pa_cons (pv 1) pa_nil)) (nomark _))))))))))))))), ?_⟩
    · cases hat with
      | plain ho =>
        obtain ⟨a, rfl, a0, a1⟩ : ∃ n, _ = V.int n ∧ 0 ≤ n ∧ n ≤ 255 := inB_int (show inB 0 255 _ = true from hz.is)
        have pl : PairsL (needL [.str "plain", .int a]) := ⟨by simp [needL], fun xs m => nomatch m⟩
        repeat' walk_at "g"
        refine ⟨_, _, rfl, ht, hz, fun H1 p1 s1 np1 tp1 => ?_⟩
        have ho1 := s1 _ _ ho
        have ht1 := s1 _ _ ht
        have hl1 := s1 _ _ hl
        repeat' walk_at "g"
        refine ⟨_, _, _, rfl, ht1, .plain ho1, ?_⟩
        repeat' walk_at "g"
        refine .inl ⟨_, rfl, _, _, _, rfl, ho1, rfl, _, _, _, rfl, ho1, fun n1 nn1 => ?_⟩
        repeat' walk_at "g"
        refine ⟨_, _, _, rfl, upd_same, by walk_at "hp", .inl hz, fun H2 s2 => ?_⟩
        have s12 : Same H1 H2 := Same.trans (Same.new (Same.refl _) nn1) s2
        have ho2 := s12 _ _ ho1
        have ht2 := s12 _ _ ht1
        have hl2 := s12 _ _ hl1
        have tp2 := tp1.keep s12
        have s02 := Same.trans s1 s12
        clear s2 s12 nn1 ho1 ht1 hl1 tp1 s1
        repeat' walk_at "g"
        refine .inl ⟨_, rfl, _, _, _, rfl, ho2, rfl, _, _, _, rfl, ho2, fun H3 l3 s3 nl3 tl3 => ?_⟩
        have ho3 := s3 _ _ ho2
        have ht3 := s3 _ _ ht2
        have hl3 := s3 _ _ hl2
        have tp3 := tp2.keep s3
        have s03 := Same.trans s02 s3
        have nl0 : H l3 = none := Same.none s02 nl3
        have n31 : p1 ≠ l3 := by
          obtain ⟨ts, e, _⟩ := tp2
          exact (new_ne nl3 e).symm
        clear s3 ho2 ht2 hl2 tp2 s02 nl3
        repeat' walk_at "g"
        refine ⟨_, _, _, rfl, tl3, tp3, pl, fun H4 s4 => ?_⟩
        have ho4 := s4 _ _ ho3
        have ht4 := s4 _ _ ht3
        have hl4 := s4 _ _ hl3
        have tp4 := tp3.keep s4
        have tl4 := tl3.keep s4
        have s04 := Same.trans s03 s4
        clear s4 ho3 ht3 hl3 tp3 tl3 s03
        obtain ⟨ls, hls, pls⟩ := tl4
        have lsl := pls.length
        have pl2 := pl.1
        repeat' walk_at "g"
        rename_i t1 nt1
        refine ⟨_, _, _, rfl, rfl, upd_old nt1 hls, szbl (by rw [List.length_map, lsl]; simp only [List.length]; omega), ?_⟩
        have h4l : upd H4 t1 (.tup [.int 1, .int 0]) l3 = some (.lst (ls.map V.ref)) := upd_old nt1 hls
        have ho5 : upd (upd H4 t1 (.tup [.int 1, .int 0])) l3 (.lst (ls.map V.ref ++ [.ref t1])) o = some _ := upd_oth (ne_of (upd_old nt1 ho4) h4l (fun z => nomatch z)) (upd_old nt1 ho4)
        have ht5 : upd (upd H4 t1 (.tup [.int 1, .int 0])) l3 (.lst (ls.map V.ref ++ [.ref t1])) t = some _ := upd_oth (ne_of (upd_old nt1 ht4) h4l (fun z => nomatch z)) (upd_old nt1 ht4)
        have hl5 : upd (upd H4 t1 (.tup [.int 1, .int 0])) l3 (.lst (ls.map V.ref ++ [.ref t1])) l = some _ := upd_oth (ne_of_none hl nl0) (upd_old nt1 hl4)
        have tp5 : TupsAt (upd (upd H4 t1 (.tup [.int 1, .int 0])) l3 (.lst (ls.map V.ref ++ [.ref t1]))) p1 _ := TupsAt.upd (tp4.keep fun b u hb => upd_old nt1 hb) n31 h4l
        have s05 : Same H (upd (upd H4 t1 (.tup [.int 1, .int 0])) l3 (.lst (ls.map V.ref ++ [.ref t1]))) := Same.own (Same.new s04 nt1) nl0
        generalize upd (upd H4 t1 (.tup [.int 1, .int 0])) l3 (.lst (ls.map V.ref ++ [.ref t1])) = H5 at ho5 ht5 hl5 tp5 s05 ⊢
        clear h4l ho4 ht4 hl4 tp4 s04 nt1 hls pls lsl
        obtain ⟨ps, hps, pp⟩ := tp5
        cases pp
        repeat' walk_at "g"
        rename_i hd nhd
        have nhd0 : H hd = none := Same.none s05 nhd
        have ho6 := upd_old (o' := .lst []) nhd ho5
        have ht6 := upd_old (o' := .lst []) nhd ht5
        have hl6 := upd_old (o' := .lst []) nhd hl5
        have hp6 := upd_old (o' := .lst []) nhd hps
        have s06 : Same H (upd H5 hd (.lst [])) := Same.new s05 nhd
        have tp6 : TupsAt (upd H5 hd (.lst [])) p1 (needL [.str "plain", .int a]) := TupsAt.keep (fun b u hb => upd_old nhd hb) ⟨_, hps, .nil⟩
        have hh6 : upd H5 hd (.lst []) hd = some (.lst []) := upd_same
        have n16 : p1 ≠ hd := (new_ne nhd hps).symm
        show gName 5 (.ref hd) _ (upd H5 hd (.lst [])) _
        generalize upd H5 hd (.lst []) = H6 at ho6 ht6 hl6 hp6 s06 tp6 hh6 ⊢
        clear ho5 ht5 hl5 hps s05 nhd
        repeat' walk_at "g"
        refine .inl ⟨_, rfl, _, _, _, rfl, ho6, rfl, _, rfl, _, _, _, _, rfl, ho6, ?_⟩
        repeat' walk_at "g"
        refine ⟨.int _, ?_⟩
        repeat' walk_at "g"
        refine ⟨_, _, _, _, _, rfl, ht6, hz, hl6, ?_⟩
        repeat' walk_at "g"
        refine ifF (by simp [worthL]) ?_
        repeat' walk_at "g"
        rename_i hd2 nhd2
        refine neqInts (ns := []) (ms := []) (SqL.of (upd_old nhd2 hh6)) (SqL.of (by rw [upd_same]; rfl)) ?_
        rw [decide_eq_true rfl]
        repeat' walk_at "g"
        refine ⟨_, _, rfl, rfl, upd_old nhd2 hh6, ?_⟩
        have hh7 := upd_old (o' := .lst (cutV [.int x, .int y] none (some 0))) nhd2 hh6
        have ho6b := upd_old (o' := .lst (cutV [.int x, .int y] none (some 0))) nhd2 ho6
        have ht6b := upd_old (o' := .lst (cutV [.int x, .int y] none (some 0))) nhd2 ht6
        have ho7 := upd_oth (o' := .lst []) (ne_of ho6b hh7 (fun z => nomatch z)) ho6b
        have ht7 := upd_oth (o' := .lst []) (ne_of ht6b hh7 (fun z => nomatch z)) ht6b
        clear ho6b ht6b
        have tp7 := TupsAt.upd (ws := []) (tp6.keep fun b u hb => upd_old (o' := .lst (cutV [.int x, .int y] none (some 0))) nhd2 hb) n16 hh7
        have s07 : Same H (upd (upd H6 hd2 (.lst (cutV [.int x, .int y] none (some 0)))) hd (.lst [])) := Same.own (Same.new s06 nhd2) nhd0
        dsimp only
        show tRet _ _ _ (upd (upd H6 hd2 (.lst (cutV [.int x, .int y] none (some 0)))) hd (.lst []))
        generalize upd (upd H6 hd2 (.lst (cutV [.int x, .int y] none (some 0)))) hd (.lst []) = H7 at ho7 ht7 tp7 s07 ⊢
        clear ho6 ht6 hl6 hp6 s06 tp6 hh6 hh7 nhd2
        refine .inl ⟨_, rfl, _, _, _, rfl, ho7, rfl, _, _, _, rfl, ho7, fun H8 l8 s8 nl8 tl8 => ?_⟩
        have ho8 := s8 _ _ ho7
        have ht8 := s8 _ _ ht7
        have tp8 := tp7.keep s8
        have s08 := Same.trans s07 s8
        clear s8 ho7 ht7 tp7 s07
        repeat' walk_at "g"
        refine ⟨_, _, _, rfl, tl8, tp8, pl, fun H9 s9 => ?_⟩
        have ho9 := s9 _ _ ho8
        have ht9 := s9 _ _ ht8
        have s09 := Same.trans s08 s9
        repeat' walk_at "g"
        refine .inl ⟨_, rfl, _, _, _, rfl, ho9, _, _, _, rfl, ho9, a0, a1, ⟨_, rfl⟩, ?_⟩
        repeat' walk_at "g"
        refine ⟨_, _, rfl, ht9, hz, ?_⟩
        repeat' walk_at "g"
        have fin : ∀ p : Prop, [Decidable p] → p → Q (.bl (decide p)) H9 := fun p _ h => by rw [decide_eq_true h]; exact q _ s09
        exact fin _ rfl
      | moved ho =>
        have hi := hz.is
        have hi : (inB 1 200 _ && (inB 0 15 _ && inB 0 255 _)) = true := hi
        rw [Bool.and_eq_true, Bool.and_eq_true] at hi
        obtain ⟨a, rfl, a0, a1⟩ := inB_int hi.1
        obtain ⟨b, rfl, b0, b1⟩ := inB_int hi.2.1
        obtain ⟨c, rfl, c0, c1⟩ := inB_int hi.2.2
        have pl : PairsL (needL [.str "moved", .int a, .int b, .int c]) := ⟨by simp [needL], fun xs m => ⟨a, b, List.mem_singleton.mp m⟩⟩
        repeat' walk_at "g"
        refine ⟨_, _, rfl, ht, hz, fun H1 p1 s1 np1 tp1 => ?_⟩
        have ho1 := s1 _ _ ho
        have ht1 := s1 _ _ ht
        have hl1 := s1 _ _ hl
        repeat' walk_at "g"
        refine ⟨_, _, _, rfl, ht1, .moved ho1, ?_⟩
        repeat' walk_at "g"
        refine .inr (.inl ⟨_, rfl, _, _, _, rfl, ho1, rfl, _, _, _, _, _, rfl, ho1, fun n1 nn1 => ?_⟩)
        repeat' walk_at "g"
        refine ⟨_, _, _, rfl, upd_same, by walk_at "hp", .inl hz, fun H2 s2 => ?_⟩
        have s12 : Same H1 H2 := Same.trans (Same.new (Same.refl _) nn1) s2
        have ho2 := s12 _ _ ho1
        have ht2 := s12 _ _ ht1
        have hl2 := s12 _ _ hl1
        have tp2 := tp1.keep s12
        have s02 := Same.trans s1 s12
        clear s2 s12 nn1 ho1 ht1 hl1 tp1 s1
        repeat' walk_at "g"
        refine .inr (.inl ⟨_, rfl, _, _, _, rfl, ho2, rfl, _, _, _, _, _, rfl, ho2, fun H3 l3 s3 nl3 tl3 => ?_⟩)
        have ho3 := s3 _ _ ho2
        have ht3 := s3 _ _ ht2
        have hl3 := s3 _ _ hl2
        have tp3 := tp2.keep s3
        have s03 := Same.trans s02 s3
        have nl0 : H l3 = none := Same.none s02 nl3
        have n31 : p1 ≠ l3 := by
          obtain ⟨ts, e, _⟩ := tp2
          exact (new_ne nl3 e).symm
        clear s3 ho2 ht2 hl2 tp2 s02 nl3
        repeat' walk_at "g"
        refine ⟨_, _, _, rfl, tl3, tp3, pl, fun H4 s4 => ?_⟩
        have ho4 := s4 _ _ ho3
        have ht4 := s4 _ _ ht3
        have hl4 := s4 _ _ hl3
        have tp4 := tp3.keep s4
        have tl4 := tl3.keep s4
        have s04 := Same.trans s03 s4
        clear s4 ho3 ht3 hl3 tp3 tl3 s03
        obtain ⟨ls, hls, pls⟩ := tl4
        have lsl := pls.length
        have pl2 := pl.1
        repeat' walk_at "g"
        rename_i t1 nt1
        refine ⟨_, _, _, rfl, rfl, upd_old nt1 hls, szbl (by rw [List.length_map, lsl]; simp only [List.length]; omega), ?_⟩
        have h4l : upd H4 t1 (.tup [.int 1, .int 0]) l3 = some (.lst (ls.map V.ref)) := upd_old nt1 hls
        have ho5 : upd (upd H4 t1 (.tup [.int 1, .int 0])) l3 (.lst (ls.map V.ref ++ [.ref t1])) o = some _ := upd_oth (ne_of (upd_old nt1 ho4) h4l (fun z => nomatch z)) (upd_old nt1 ho4)
        have ht5 : upd (upd H4 t1 (.tup [.int 1, .int 0])) l3 (.lst (ls.map V.ref ++ [.ref t1])) t = some _ := upd_oth (ne_of (upd_old nt1 ht4) h4l (fun z => nomatch z)) (upd_old nt1 ht4)
        have hl5 : upd (upd H4 t1 (.tup [.int 1, .int 0])) l3 (.lst (ls.map V.ref ++ [.ref t1])) l = some _ := upd_oth (ne_of_none hl nl0) (upd_old nt1 hl4)
        have tp5 : TupsAt (upd (upd H4 t1 (.tup [.int 1, .int 0])) l3 (.lst (ls.map V.ref ++ [.ref t1]))) p1 _ := TupsAt.upd (tp4.keep fun b u hb => upd_old nt1 hb) n31 h4l
        have s05 : Same H (upd (upd H4 t1 (.tup [.int 1, .int 0])) l3 (.lst (ls.map V.ref ++ [.ref t1]))) := Same.own (Same.new s04 nt1) nl0
        generalize upd (upd H4 t1 (.tup [.int 1, .int 0])) l3 (.lst (ls.map V.ref ++ [.ref t1])) = H5 at ho5 ht5 hl5 tp5 s05 ⊢
        clear h4l ho4 ht4 hl4 tp4 s04 nt1 hls pls lsl
        obtain ⟨ps, hps, pp⟩ := tp5
        obtain _ | ⟨f1, _ | ⟨_, _⟩⟩ := pp
        repeat' walk_at "g"
        rename_i hd nhd
        have nhd0 : H hd = none := Same.none s05 nhd
        have ho6 := upd_old (o' := .lst [.int x]) nhd ho5
        have ht6 := upd_old (o' := .lst [.int x]) nhd ht5
        have hl6 := upd_old (o' := .lst [.int x]) nhd hl5
        have hp6 := upd_old (o' := .lst [.int x]) nhd hps
        have s06 : Same H (upd H5 hd (.lst [.int x])) := Same.new s05 nhd
        have tp6 : TupsAt (upd H5 hd (.lst [.int x])) p1 (needL [.str "moved", .int a, .int b, .int c]) := TupsAt.keep (fun b u hb => upd_old nhd hb) ⟨_, hps, .cons f1 .nil⟩
        have hh6 : upd H5 hd (.lst [.int x]) hd = some (.lst [.int x]) := upd_same
        have n16 : p1 ≠ hd := (new_ne nhd hps).symm
        show gName 5 (.ref hd) _ (upd H5 hd (.lst [.int x])) _
        generalize upd H5 hd (.lst [.int x]) = H6 at ho6 ht6 hl6 hp6 s06 tp6 hh6 ⊢
        clear ho5 ht5 hl5 hps s05 nhd
        repeat' walk_at "g"
        refine .inr (.inl ⟨_, rfl, _, _, _, rfl, ho6, rfl, _, rfl, _, _, _, _, _, _, _, _, rfl, ho6, hh6, ?_⟩)
        repeat' walk_at "g"
        refine ⟨.int _, ?_⟩
        repeat' walk_at "g"
        refine ⟨_, _, _, _, _, rfl, ht6, hz, hl6, ?_⟩
        repeat' walk_at "g"
        refine ifF (by simp [worthL]) ?_
        repeat' walk_at "g"
        rename_i hd2 nhd2
        refine neqInts (ns := [x]) (ms := [x]) (SqL.of (upd_old nhd2 hh6)) (SqL.of (by rw [upd_same]; rfl)) ?_
        rw [decide_eq_true rfl]
        repeat' walk_at "g"
        refine ⟨_, _, rfl, rfl, upd_old nhd2 hh6, ?_⟩
        have hh7 := upd_old (o' := .lst (cutV [.int x, .int y] none (some 1))) nhd2 hh6
        have ho6b := upd_old (o' := .lst (cutV [.int x, .int y] none (some 1))) nhd2 ho6
        have ht6b := upd_old (o' := .lst (cutV [.int x, .int y] none (some 1))) nhd2 ht6
        have ho7 := upd_oth (o' := .lst []) (ne_of ho6b hh7 (fun z => nomatch z)) ho6b
        have ht7 := upd_oth (o' := .lst []) (ne_of ht6b hh7 (fun z => nomatch z)) ht6b
        clear ho6b ht6b
        have tp7 := TupsAt.upd (ws := []) (tp6.keep fun b u hb => upd_old (o' := .lst (cutV [.int x, .int y] none (some 1))) nhd2 hb) n16 hh7
        have s07 : Same H (upd (upd H6 hd2 (.lst (cutV [.int x, .int y] none (some 1)))) hd (.lst [])) := Same.own (Same.new s06 nhd2) nhd0
        dsimp only
        show tRet _ _ _ (upd (upd H6 hd2 (.lst (cutV [.int x, .int y] none (some 1)))) hd (.lst []))
        generalize upd (upd H6 hd2 (.lst (cutV [.int x, .int y] none (some 1)))) hd (.lst []) = H7 at ho7 ht7 tp7 s07 ⊢
        clear ho6 ht6 hl6 hp6 s06 tp6 hh6 hh7 nhd2
        refine .inr (.inl ⟨_, rfl, _, _, _, rfl, ho7, rfl, _, _, _, _, _, rfl, ho7, fun H8 l8 s8 nl8 tl8 => ?_⟩)
        have ho8 := s8 _ _ ho7
        have ht8 := s8 _ _ ht7
        have tp8 := tp7.keep s8
        have s08 := Same.trans s07 s8
        clear s8 ho7 ht7 tp7 s07
        repeat' walk_at "g"
        refine ⟨_, _, _, rfl, tl8, tp8, pl, fun H9 s9 => ?_⟩
        have ho9 := s9 _ _ ho8
        have ht9 := s9 _ _ ht8
        have s09 := Same.trans s08 s9
        repeat' walk_at "g"
        refine .inr (.inl ⟨_, rfl, _, _, _, rfl, ho9, _, _, _, _, _, rfl, ho9, by omega, by omega, b0, by omega, c0, c1, ⟨_, rfl⟩, ?_⟩)
        repeat' walk_at "g"
        refine ⟨_, _, rfl, ht9, hz, ?_⟩
        repeat' walk_at "g"
        have fin : ∀ p : Prop, [Decidable p] → p → Q (.bl (decide p)) H9 := fun p _ h => by rw [decide_eq_true h]; exact q _ s09
        exact fin _ rfl
      | mixed ho =>
        have hi := hz.is
        have hi : (inB 1 200 _ && (inB 0 15 _ && (inB 1 200 _ && inB 0 15 _))) = true := hi
        rw [Bool.and_eq_true, Bool.and_eq_true, Bool.and_eq_true] at hi
        obtain ⟨a, rfl, a0, a1⟩ := inB_int hi.1
        obtain ⟨b, rfl, b0, b1⟩ := inB_int hi.2.1
        obtain ⟨c, rfl, c0, c1⟩ := inB_int hi.2.2.1
        obtain ⟨e, rfl, e0, e1⟩ := inB_int hi.2.2.2
        have pl : PairsL (needL [.str "mixed", .int a, .int b, .int c, .int e]) := by
          refine ⟨by simp [needL], fun xs m => ?_⟩
          simp only [needL, List.mem_cons, List.not_mem_nil, or_false] at m
          rcases m with rfl | rfl
          · exact ⟨a, b, rfl⟩
          · exact ⟨c, e, rfl⟩
        repeat' walk_at "g"
        refine ⟨_, _, rfl, ht, hz, fun H1 p1 s1 np1 tp1 => ?_⟩
        have ho1 := s1 _ _ ho
        have ht1 := s1 _ _ ht
        have hl1 := s1 _ _ hl
        repeat' walk_at "g"
        refine ⟨_, _, _, rfl, ht1, .mixed ho1, ?_⟩
        repeat' walk_at "g"
        refine .inr (.inr ⟨_, rfl, _, _, _, rfl, ho1, rfl, _, _, _, _, _, _, rfl, ho1, fun n1 nn1 => ?_⟩)
        repeat' walk_at "g"
        refine ⟨_, _, _, rfl, upd_same, by walk_at "hp", .inl hz, fun H2 s2 => ?_⟩
        have s12 : Same H1 H2 := Same.trans (Same.new (Same.refl _) nn1) s2
        have ho2 := s12 _ _ ho1
        have ht2 := s12 _ _ ht1
        have hl2 := s12 _ _ hl1
        have tp2 := tp1.keep s12
        have s02 := Same.trans s1 s12
        clear s2 s12 nn1 ho1 ht1 hl1 tp1 s1
        repeat' walk_at "g"
        refine .inr (.inr ⟨_, rfl, _, _, _, rfl, ho2, rfl, _, _, _, _, _, _, rfl, ho2, fun H3 l3 s3 nl3 tl3 => ?_⟩)
        have ho3 := s3 _ _ ho2
        have ht3 := s3 _ _ ht2
        have hl3 := s3 _ _ hl2
        have tp3 := tp2.keep s3
        have s03 := Same.trans s02 s3
        have nl0 : H l3 = none := Same.none s02 nl3
        have n31 : p1 ≠ l3 := by
          obtain ⟨ts, e, _⟩ := tp2
          exact (new_ne nl3 e).symm
        clear s3 ho2 ht2 hl2 tp2 s02 nl3
        repeat' walk_at "g"
        refine ⟨_, _, _, rfl, tl3, tp3, pl, fun H4 s4 => ?_⟩
        have ho4 := s4 _ _ ho3
        have ht4 := s4 _ _ ht3
        have hl4 := s4 _ _ hl3
        have tp4 := tp3.keep s4
        have tl4 := tl3.keep s4
        have s04 := Same.trans s03 s4
        clear s4 ho3 ht3 hl3 tp3 tl3 s03
        obtain ⟨ls, hls, pls⟩ := tl4
        have lsl := pls.length
        have pl2 := pl.1
        repeat' walk_at "g"
        rename_i t1 nt1
        refine ⟨_, _, _, rfl, rfl, upd_old nt1 hls, szbl (by rw [List.length_map, lsl]; simp only [List.length]; omega), ?_⟩
        have h4l : upd H4 t1 (.tup [.int 1, .int 0]) l3 = some (.lst (ls.map V.ref)) := upd_old nt1 hls
        have ho5 : upd (upd H4 t1 (.tup [.int 1, .int 0])) l3 (.lst (ls.map V.ref ++ [.ref t1])) o = some _ := upd_oth (ne_of (upd_old nt1 ho4) h4l (fun z => nomatch z)) (upd_old nt1 ho4)
        have ht5 : upd (upd H4 t1 (.tup [.int 1, .int 0])) l3 (.lst (ls.map V.ref ++ [.ref t1])) t = some _ := upd_oth (ne_of (upd_old nt1 ht4) h4l (fun z => nomatch z)) (upd_old nt1 ht4)
        have hl5 : upd (upd H4 t1 (.tup [.int 1, .int 0])) l3 (.lst (ls.map V.ref ++ [.ref t1])) l = some _ := upd_oth (ne_of_none hl nl0) (upd_old nt1 hl4)
        have tp5 : TupsAt (upd (upd H4 t1 (.tup [.int 1, .int 0])) l3 (.lst (ls.map V.ref ++ [.ref t1]))) p1 _ := TupsAt.upd (tp4.keep fun b u hb => upd_old nt1 hb) n31 h4l
        have s05 : Same H (upd (upd H4 t1 (.tup [.int 1, .int 0])) l3 (.lst (ls.map V.ref ++ [.ref t1]))) := Same.own (Same.new s04 nt1) nl0
        generalize upd (upd H4 t1 (.tup [.int 1, .int 0])) l3 (.lst (ls.map V.ref ++ [.ref t1])) = H5 at ho5 ht5 hl5 tp5 s05 ⊢
        clear h4l ho4 ht4 hl4 tp4 s04 nt1 hls pls lsl
        obtain ⟨ps, hps, pp⟩ := tp5
        obtain _ | ⟨f1, _ | ⟨f2, _ | ⟨_, _⟩⟩⟩ := pp
        repeat' walk_at "g"
        rename_i hd nhd
        have nhd0 : H hd = none := Same.none s05 nhd
        have ho6 := upd_old (o' := .lst [.int x, .int y]) nhd ho5
        have ht6 := upd_old (o' := .lst [.int x, .int y]) nhd ht5
        have hl6 := upd_old (o' := .lst [.int x, .int y]) nhd hl5
        have hp6 := upd_old (o' := .lst [.int x, .int y]) nhd hps
        have s06 : Same H (upd H5 hd (.lst [.int x, .int y])) := Same.new s05 nhd
        have tp6 : TupsAt (upd H5 hd (.lst [.int x, .int y])) p1 (needL [.str "mixed", .int a, .int b, .int c, .int e]) := TupsAt.keep (fun b u hb => upd_old nhd hb) ⟨_, hps, .cons f1 (.cons f2 .nil)⟩
        have hh6 : upd H5 hd (.lst [.int x, .int y]) hd = some (.lst [.int x, .int y]) := upd_same
        have n16 : p1 ≠ hd := (new_ne nhd hps).symm
        show gName 5 (.ref hd) _ (upd H5 hd (.lst [.int x, .int y])) _
        generalize upd H5 hd (.lst [.int x, .int y]) = H6 at ho6 ht6 hl6 hp6 s06 tp6 hh6 ⊢
        clear ho5 ht5 hl5 hps s05 nhd
        repeat' walk_at "g"
        refine .inr (.inr ⟨_, rfl, _, _, _, rfl, ho6, rfl, _, rfl, _, _, _, _, _, _, _, _, _, _, rfl, ho6, hh6, ?_⟩)
        repeat' walk_at "g"
        refine ⟨.int _, ?_⟩
        repeat' walk_at "g"
        refine ⟨_, _, _, _, _, rfl, ht6, hz, hl6, ?_⟩
        repeat' walk_at "g"
        refine ifF (by simp [worthL]) ?_
        repeat' walk_at "g"
        rename_i hd2 nhd2
        refine neqInts (ns := [x, y]) (ms := [x, y]) (SqL.of (upd_old nhd2 hh6)) (SqL.of (by rw [upd_same]; rfl)) ?_
        rw [decide_eq_true rfl]
        repeat' walk_at "g"
        refine ⟨_, _, rfl, rfl, upd_old nhd2 hh6, ?_⟩
        have hh7 := upd_old (o' := .lst (cutV [.int x, .int y] none (some 2))) nhd2 hh6
        have ho6b := upd_old (o' := .lst (cutV [.int x, .int y] none (some 2))) nhd2 ho6
        have ht6b := upd_old (o' := .lst (cutV [.int x, .int y] none (some 2))) nhd2 ht6
        have ho7 := upd_oth (o' := .lst []) (ne_of ho6b hh7 (fun z => nomatch z)) ho6b
        have ht7 := upd_oth (o' := .lst []) (ne_of ht6b hh7 (fun z => nomatch z)) ht6b
        clear ho6b ht6b
        have tp7 := TupsAt.upd (ws := []) (tp6.keep fun b u hb => upd_old (o' := .lst (cutV [.int x, .int y] none (some 2))) nhd2 hb) n16 hh7
        have s07 : Same H (upd (upd H6 hd2 (.lst (cutV [.int x, .int y] none (some 2)))) hd (.lst [])) := Same.own (Same.new s06 nhd2) nhd0
        dsimp only
        show tRet _ _ _ (upd (upd H6 hd2 (.lst (cutV [.int x, .int y] none (some 2)))) hd (.lst []))
        generalize upd (upd H6 hd2 (.lst (cutV [.int x, .int y] none (some 2)))) hd (.lst []) = H7 at ho7 ht7 tp7 s07 ⊢
        clear ho6 ht6 hl6 hp6 s06 tp6 hh6 hh7 nhd2
        refine .inr (.inr ⟨_, rfl, _, _, _, rfl, ho7, rfl, _, _, _, _, _, _, rfl, ho7, fun H8 l8 s8 nl8 tl8 => ?_⟩)
        have ho8 := s8 _ _ ho7
        have ht8 := s8 _ _ ht7
        have tp8 := tp7.keep s8
        have s08 := Same.trans s07 s8
        clear s8 ho7 ht7 tp7 s07
        repeat' walk_at "g"
        refine ⟨_, _, _, rfl, tl8, tp8, pl, fun H9 s9 => ?_⟩
        have ho9 := s9 _ _ ho8
        have ht9 := s9 _ _ ht8
        have s09 := Same.trans s08 s9
        repeat' walk_at "g"
        refine .inr (.inr ⟨_, rfl, _, _, _, rfl, ho9, _, _, _, _, _, _, rfl, ho9, by omega, by omega, b0, by omega, by omega, by omega, e0, by omega, ⟨_, rfl⟩, ?_⟩)
        repeat' walk_at "g"
        refine ⟨_, _, rfl, ht9, hz, ?_⟩
        repeat' walk_at "g"
        have fin : ∀ p : Prop, [Decidable p] → p → Q (.bl (decide p)) H9 := fun p _ h => by rw [decide_eq_true h]; exact q _ s09
        exact fin _ rfl
end

local macro_rules | `(tactic| walk_at "ed") => `(tactic| (refine ⟨_, _, _, _, rfl, by walk_at "hp", by assumption, by first | decide | omega, by first | decide | omega, fun _ _ _ _ _ _ _ _ => ?_⟩))
def spLaw (K : PySem.W.Frag) : Sp := fun vs H Q _ => ∃ (a : Addr) (ns : List Int), vs = [.ref a] ∧ SqL K H a (ns.map V.int) ∧ ns.length ≤ 63 ∧ ∀ H', Q (.bl true) H'
theorem RuleL.th {K : PySem.W.Frag} {H : Hp} {xs : List V} (h : RuleL xs) : ∀ x ∈ xs, Thing K H x := by
  obtain ⟨s, ns, rfl, _⟩ := h.data
  intro x m
  rcases List.mem_cons.mp m with rfl | m
  · exact .odd (.base (.str _)) (by simp [others]) rfl
  · obtain ⟨i, _, rfl⟩ := List.mem_map.mp m
    exact .int i
theorem RuleL.told {K : PySem.W.Frag} {H : Hp} {t : Addr} {xs : List V} (h : RuleL xs) (e : H t = some (.tup xs)) : Told K H (.ref t) true := by
  have := Told.tup (K := K) e h.th
  rw [h.is] at this
  exact this
theorem ruleOf {K : PySem.W.Frag} {C cP cM cX : Addr} {H : Hp} {Q : VK} {E : XK} {t : Addr} {zs : List V} (hz : RuleL zs) (ht : H t = some (.tup zs)) (k : ∀ H' o, Same H H' → RuleAt cP cM cX H' o zs → Q (.ref o) H') : spRuleOf K C cP cM cX [.ref t] H Q E := by
  refine ⟨_, true, rfl, hz.told ht, fun _ p xs e hp _ H' o s' _ at' => ?_, fun z => nomatch z⟩
  cases e
  rw [ht] at hp
  cases hp
  exact k H' o s' at'
section
variable {P : Program} {w : World} {K : PySem.W.Frag} {mg : Str → Option Value} {base : Heap}
theorem ok_law (T : Txt K mg) : FnOk P w K mg base CX0 9 T.a_law T.d_law ["_law_script"] (spLaw K) := by
  refine T.F_law.ok sc_law (fun vs H Q E h => ?_) (fun cdv A outer s H vs Q E hr h => ?_)
  · obtain ⟨a, ns, rfl, _⟩ := h
    rfl
  · obtain ⟨a, ns, rfl, hS, hlen, q⟩ := h
    refine ⟨_, (pss_cons (ps_set (i := 1) sc_law.nd rfl (Or.inl rfl) (pe_call (ok_l_rule T) (hr.mono (by decide)) (by rfl) T.g_l_rule T.F_l_rule.kp T.b_l_rule .nil pass0 (pa_cons (pe_call (ok_l_well T) (hr.mono (by decide)) (by rfl) T.g_l_well T.F_l_well.kp T.b_l_well .nil pass0 (pa_cons (pv 0) (pa_cons pe_int pa_nil))) pa_nil)))
      (pss_cons (ps_set (i := 2) sc_law.nd rfl (Or.inl rfl) (pe_call (ok_l_rule T) (hr.mono (by decide)) (by rfl) T.g_l_rule T.F_l_rule.kp T.b_l_rule .nil pass0 (pa_cons (pe_call (ok_l_well T) (hr.mono (by decide)) (by rfl) T.g_l_well T.F_l_well.kp T.b_l_well .nil pass0 (pa_cons (pv 0) (pa_cons pe_int pa_nil))) pa_nil)))
      (pss_cons (ps_set (i := 3) sc_law.nd rfl (Or.inl rfl) (pe_call (ok_l_well T) (hr.mono (by decide)) (by rfl) T.g_l_well T.F_l_well.kp T.b_l_well .nil pass0 (pa_cons (pv 0) (pa_cons pe_int pa_nil))))
      (pss_cons (ps_set (i := 4) sc_law.nd rfl (Or.inl rfl) (pe_lst (pa_cons (pe_call (ok_l_edge T) (hr.mono (by decide)) (by rfl) T.g_l_edge T.F_l_edge.kp T.b_l_edge .nil pass0 (pa_cons (pv 3) (pa_cons pe_int (pa_cons pe_int pa_nil)))) (pa_cons (pe_call (ok_l_edge T) (hr.mono (by decide)) (by rfl) T.g_l_edge T.F_l_edge.kp T.b_l_edge .nil pass0 (pa_cons (pv 3) (pa_cons pe_int (pa_cons pe_int pa_nil)))) pa_nil))))
      (pss_cons (ps_set (i := 5) sc_law.nd rfl (Or.inl rfl) (pe_lst (pa_cons (pe_call (ok_l_edge T) (hr.mono (by decide)) (by rfl) T.g_l_edge T.F_l_edge.kp T.b_l_edge .nil pass0 (pa_cons (pv 3) (pa_cons pe_int (pa_cons pe_int pa_nil)))) (pa_cons (pe_call (ok_l_edge T) (hr.mono (by decide)) (by rfl) T.g_l_edge T.F_l_edge.kp T.b_l_edge .nil pass0 (pa_cons (pv 3) (pa_cons pe_int (pa_cons pe_int pa_nil)))) pa_nil))))
      (pss_cons (ps_set (i := 6) sc_law.nd rfl (Or.inl rfl) (pe_call (ok_rule_of T) (hr.mono (by decide)) (by rfl) T.g_rule_of T.F_rule_of.kp T.b_rule_of .nil passL (pa_cons (pv 1) pa_nil)))
      (pss_cons (ps_if (pt_not (pt_val (pe_call (ok_l_right T) (hr.mono (by decide)) (by rfl) T.g_l_right T.F_l_right.kp T.b_l_right .nil pass0 (pa_cons (pv 6) (pa_cons (pv 1) (pa_cons (pv 4) pa_nil)))))) (pss_one (ps_ret pe_bl)) pss_nil)
      (pss_cons (ps_set (i := 7) sc_law.nd rfl (Or.inl rfl) (pe_call (ok_rule_of T) (hr.mono (by decide)) (by rfl) T.g_rule_of T.F_rule_of.kp T.b_rule_of .nil passL (pa_cons (pv 2) pa_nil)))
      (pss_cons (ps_if (PW.pt (pw_or (pt_not (pt_val (pe_call (ok_l_right T) (hr.mono (by decide)) (by rfl) T.g_l_right T.F_l_right.kp T.b_l_right .nil pass0 (pa_cons (pv 7) (pa_cons (pv 2) (pa_cons (pv 5) pa_nil)))))) (pw_or1 (pt_not (pt_val (pe_call (ok_l_right T) (hr.mono (by decide)) (by rfl) T.g_l_right T.F_l_right.kp T.b_l_right .nil pass0 (pa_cons (pv 6) (pa_cons (pv 1) (pa_cons (pv 5) pa_nil))))))))) (pss_one (ps_ret pe_bl)) pss_nil)
      (pss_one (ps_ret (pe_and (pe_call (ok_l_right T) (hr.mono (by decide)) (by rfl) T.g_l_right T.F_l_right.kp T.b_l_right .nil pass0 (pa_cons (pe_call (ok_l_by_name T) (hr.mono (by decide)) (by rfl) T.g_l_by_name T.F_l_by_name.kp T.b_l_by_name .nil pass0 (pa_cons (pv 1) pa_nil)) (pa_cons (pv 1) (pa_cons (pv 4) pa_nil)))) (pe_one (pe_call (ok_l_right T) (hr.mono (by decide)) (by rfl) T.g_l_right T.F_l_right.kp T.b_l_right .nil pass0 (pa_cons (pe_callN0 (ok_rule_of T) (hr.mono (by decide)) (by rfl) T.g_rule_of T.F_rule_of.kp T.kb_rule_of_told passL (pk_cons (pv 1) pk_nil)) (pa_cons (pv 1) (pa_cons (pv 4) pa_nil))))))))))))))))), ?_⟩
    refine ⟨_, rfl, _, _, _, rfl, hS, by decide, by decide, fun H1 w0 x0 y0 z0 s1 nw0 hw0 => ?_⟩
    repeat' walk_at "g"
    refine ⟨_, _, rfl, hw0, ⟨_, _, _, rfl⟩, fun H2 t zs f2 ht hz ntw => ?_⟩
    have s02 : Same H H2 := Same.byFrm s1 f2 nw0
    have hS2 := Same.seq s02 hS
    clear s1 f2 hw0 nw0 ntw
    repeat' walk_at "g"
    refine ⟨_, _, _, rfl, hS2, by decide, by decide, fun H3 w1 x1 y1 z1 s3 nw1 hw1 => ?_⟩
    have ht3 := s3 _ _ ht
    have nt3 : t ≠ w1 := (new_ne nw1 ht).symm
    repeat' walk_at "g"
    refine ⟨_, _, rfl, hw1, ⟨_, _, _, rfl⟩, fun H4 u ys f4 hu hy nuw => ?_⟩
    have s24 : Same H2 H4 := Same.byFrm s3 f4 nw1
    have ht4 := s24 _ _ ht
    have hS4 := Same.seq s24 hS2
    clear s3 f4 hw1 nw1 nuw s24 hS2 ht ht3 nt3 s02
    repeat' walk_at "g"
    refine ⟨_, _, _, rfl, hS4, by decide, by decide, fun H5 p x2 y2 z2 s5 np hp5 => ?_⟩
    have ht5 := s5 _ _ ht4
    have hu5 := s5 _ _ hu
    have ntp : t ≠ p := (new_ne np ht4).symm
    have nup : u ≠ p := (new_ne np hu).symm
    have st5 : IsW [.int x2, .int y2, .int z2] := ⟨_, _, _, rfl⟩
    clear s5 np ht4 hu hS4
    repeat' walk_at "g"
    walk_at "ed"
    rename_i H6 d6 xs6 f6 h6 st6 d60 d61
    have ht6 : H6 t = some (.tup zs) := by walk_at "hp"
    have hu6 : H6 u = some (.tup ys) := by walk_at "hp"
    clear f6 ht5 hu5 hp5 st5
    repeat' walk_at "g"
    walk_at "ed"
    rename_i H7 d7 xs7 f7 h7 st7 d70 d71
    have ht7 : H7 t = some (.tup zs) := by walk_at "hp"
    have hu7 : H7 u = some (.tup ys) := by walk_at "hp"
    clear f7 ht6 hu6 h6 st6
    repeat' walk_at "g"
    rename_i l1 nl1
    have nlp : l1 ≠ p := new_ne nl1 h7
    walk_at "ed"
    rename_i H8 d8 xs8 f8 h8 st8 d80 d81
    have ht8 : H8 t = some (.tup zs) := by walk_at "hp"
    have hu8 : H8 u = some (.tup ys) := by walk_at "hp"
    have hl8 : H8 l1 = some (.lst [.int d6, .int d7]) := by walk_at "hp"
    clear f8 ht7 hu7 h7 st7 nl1
    repeat' walk_at "g"
    walk_at "ed"
    rename_i H9 d9 xs9 f9 h9 st9 d90 d91
    have ht9 : H9 t = some (.tup zs) := by walk_at "hp"
    have hu9 : H9 u = some (.tup ys) := by walk_at "hp"
    have hl9 : H9 l1 = some (.lst [.int d6, .int d7]) := by walk_at "hp"
    clear f9 ht8 hu8 hl8 h8 st8
    repeat' walk_at "g"
    rename_i l2 nl2
    have ht10 := upd_old (o' := .lst [.int d8, .int d9]) nl2 ht9
    have hu10 := upd_old (o' := .lst [.int d8, .int d9]) nl2 hu9
    have hl10 := upd_old (o' := .lst [.int d8, .int d9]) nl2 hl9
    have hm10 : upd H9 l2 (.lst [.int d8, .int d9]) l2 = some (.lst [.int d8, .int d9]) := upd_same
    generalize upd H9 l2 (.lst [.int d8, .int d9]) = H10 at ht10 hu10 hl10 hm10 ⊢
    clear ht9 hu9 hl9 nl2 h9 st9
    refine ⟨_, true, rfl, hz.told ht10, fun _ p' xs' e hp' _ H11 o s11 _ at11 => ?_, fun z => nomatch z⟩
    cases e
    rw [ht10] at hp'
    cases hp'
    have ht11 := s11 _ _ ht10
    have hu11 := s11 _ _ hu10
    have hl11 := s11 _ _ hl10
    have hm11 := s11 _ _ hm10
    clear s11 ht10 hu10 hl10 hm10
    repeat' walk_at "g"
    refine ⟨_, _, _, _, _, _, rfl, ht11, hz, at11, hl11, fun H12 s12 => ?_⟩
    have ht12 := s12 _ _ ht11
    have hu12 := s12 _ _ hu11
    have hl12 := s12 _ _ hl11
    have hm12 := s12 _ _ hm11
    have at12 := at11.keep (s12 o)
    clear s12 ht11 hu11 hl11 hm11 at11
    repeat' walk_at "g"
    refine ⟨_, true, rfl, hy.told hu12, fun _ p' xs' e hp' _ H13 o2 s13 _ at13 => ?_, fun z => nomatch z⟩
    cases e
    rw [hu12] at hp'
    cases hp'
    have ht13 := s13 _ _ ht12
    have hu13 := s13 _ _ hu12
    have hl13 := s13 _ _ hl12
    have hm13 := s13 _ _ hm12
    have at13b := at12.keep (s13 o)
    clear s13 ht12 hu12 hl12 hm12 at12
    repeat' walk_at "g"
    refine ⟨_, _, _, _, _, _, rfl, hu13, hy, at13, hm13, fun H14 s14 => ?_⟩
    have ht14 := s14 _ _ ht13
    have hl14 := s14 _ _ hl13
    have hm14 := s14 _ _ hm13
    have at14 := at13b.keep (s14 o)
    clear s14 ht13 hu13 hl13 hm13 at13 at13b
    repeat' walk_at "g"
    refine ⟨_, _, _, _, _, _, rfl, ht14, hz, at14, hm14, fun H15 s15 => ?_⟩
    have ht15 := s15 _ _ ht14
    have hl15 := s15 _ _ hl14
    clear s15 ht14 hl14 hm14 at14
    repeat' walk_at "g"
    refine ⟨_, _, rfl, ht15, hz, fun H16 o3 s16 at16 => ?_⟩
    have ht16 := s16 _ _ ht15
    have hl16 := s16 _ _ hl15
    clear s16 ht15 hl15
    repeat' walk_at "g"
    refine ⟨_, _, _, _, _, _, rfl, ht16, hz, at16, hl16, fun H17 s17 => ?_⟩
    have ht17 := s17 _ _ ht16
    have hl17 := s17 _ _ hl16
    repeat' walk_at "g"
    refine ⟨_, true, rfl, hz.told ht17, fun _ p' xs' e hp' _ H18 o4 s18 _ at18 => ?_, fun z => nomatch z⟩
    cases e
    rw [ht17] at hp'
    cases hp'
    repeat' walk_at "g"
    exact ⟨_, _, _, _, _, _, rfl, s18 _ _ ht17, hz, at18, s18 _ _ hl17, fun H19 s19 => q _⟩
end
theorem all_mk {l : PySem.W.OpenLaw} {w : World} {K : PySem.W.Frag} {h : Heap} {mg : Str → Option Value} {fa : Addr} (X : K.In h) (G : h.Ns mainGlobals mg) (hfa : mg "law" = some (.ref fa))
    {f0 : Addr} {od0 an0 : Option Addr} {sl0 : Array (Option Value)} {oc0 kV0 dc0 pm0 cd0 ct0 : Value}
    (a0 : PySem.W.nsIn K mainGlobals "is_number" = some (some (.ref f0)))
    (l0 : K.lookup f0 = some ⟨oc0, od0, .func (PySem.W.fnOf "is_number" "is_number" (defArgs s_is_number) (defBody s_is_number) (defScope s_is_number) .none kV0 dc0 pm0 an0 cd0 ct0), sl0⟩) (c0 : PySem.W.codeIn K cd0 "is_number" = true) (k0 : PySem.W.keepIn K (.ref f0) = true)
    {f1 : Addr} {od1 an1 : Option Addr} {sl1 : Array (Option Value)} {oc1 kV1 dc1 pm1 cd1 ct1 : Value}
    (a1 : PySem.W.nsIn K mainGlobals "is_whole" = some (some (.ref f1)))
    (l1 : K.lookup f1 = some ⟨oc1, od1, .func (PySem.W.fnOf "is_whole" "is_whole" (defArgs s_is_whole) (defBody s_is_whole) (defScope s_is_whole) .none kV1 dc1 pm1 an1 cd1 ct1), sl1⟩) (c1 : PySem.W.codeIn K cd1 "is_whole" = true) (k1 : PySem.W.keepIn K (.ref f1) = true)
    {f2 : Addr} {od2 an2 : Option Addr} {sl2 : Array (Option Value)} {oc2 kV2 dc2 pm2 cd2 ct2 : Value}
    {D2 : Addr} (y2 : PySem.W.nsIn K mainGlobals "Rule" = some (some (.ref D2))) (a2 : PySem.W.findIn K (.ref D2) "told" = some (some (.ref f2)))
    (l2 : K.lookup f2 = some ⟨oc2, od2, .func (PySem.W.fnOf "told" "Rule.told" (defArgs s_Rule_told) (defBody s_Rule_told) (defScope s_Rule_told) .none kV2 dc2 pm2 an2 cd2 ct2), sl2⟩) (c2 : PySem.W.codeIn K cd2 "Rule.told" = true) (k2 : PySem.W.keepIn K (.ref f2) = true)
    {f3 : Addr} {od3 an3 : Option Addr} {sl3 : Array (Option Value)} {oc3 kV3 dc3 pm3 cd3 ct3 : Value}
    {D3 : Addr} (y3 : PySem.W.nsIn K mainGlobals "Rule" = some (some (.ref D3))) (a3 : PySem.W.findIn K (.ref D3) "needs" = some (some (.ref f3)))
    (l3 : K.lookup f3 = some ⟨oc3, od3, .func (PySem.W.fnOf "needs" "Rule.needs" (defArgs s_Rule_needs) (defBody s_Rule_needs) (defScope s_Rule_needs) .none kV3 dc3 pm3 an3 cd3 ct3), sl3⟩) (c3 : PySem.W.codeIn K cd3 "Rule.needs" = true) (k3 : PySem.W.keepIn K (.ref f3) = true)
    {f4 : Addr} {od4 an4 : Option Addr} {sl4 : Array (Option Value)} {oc4 kV4 dc4 pm4 cd4 ct4 : Value}
    {D4 : Addr} (y4 : PySem.W.nsIn K mainGlobals "Rule" = some (some (.ref D4))) (a4 : PySem.W.findIn K (.ref D4) "value" = some (some (.ref f4)))
    (l4 : K.lookup f4 = some ⟨oc4, od4, .func (PySem.W.fnOf "value" "Rule.value" (defArgs s_Rule_value) (defBody s_Rule_value) (defScope s_Rule_value) .none kV4 dc4 pm4 an4 cd4 ct4), sl4⟩) (c4 : PySem.W.codeIn K cd4 "Rule.value" = true) (k4 : PySem.W.keepIn K (.ref f4) = true)
    {f5 : Addr} {od5 an5 : Option Addr} {sl5 : Array (Option Value)} {oc5 kV5 dc5 pm5 cd5 ct5 : Value}
    {D5 : Addr} (y5 : PySem.W.nsIn K mainGlobals "Plain" = some (some (.ref D5))) (a5 : PySem.W.findIn K (.ref D5) "__init__" = some (some (.ref f5)))
    (l5 : K.lookup f5 = some ⟨oc5, od5, .func (PySem.W.fnOf "__init__" "Plain.__init__" (defArgs s_Plain_init) (defBody s_Plain_init) (defScope s_Plain_init) .none kV5 dc5 pm5 an5 cd5 ct5), sl5⟩) (c5 : PySem.W.codeIn K cd5 "Plain.__init__" = true) (k5 : PySem.W.keepIn K (.ref f5) = true)
    {f6 : Addr} {od6 an6 : Option Addr} {sl6 : Array (Option Value)} {oc6 kV6 dc6 pm6 cd6 ct6 : Value}
    {D6 : Addr} (y6 : PySem.W.nsIn K mainGlobals "Plain" = some (some (.ref D6))) (a6 : PySem.W.findIn K (.ref D6) "__str__" = some (some (.ref f6)))
    (l6 : K.lookup f6 = some ⟨oc6, od6, .func (PySem.W.fnOf "__str__" "Plain.__str__" (defArgs s_Plain_str) (defBody s_Plain_str) (defScope s_Plain_str) .none kV6 dc6 pm6 an6 cd6 ct6), sl6⟩) (c6 : PySem.W.codeIn K cd6 "Plain.__str__" = true) (k6 : PySem.W.keepIn K (.ref f6) = true)
    {f7 : Addr} {od7 an7 : Option Addr} {sl7 : Array (Option Value)} {oc7 kV7 dc7 pm7 cd7 ct7 : Value}
    {D7 : Addr} (y7 : PySem.W.nsIn K mainGlobals "Plain" = some (some (.ref D7))) (a7 : PySem.W.findIn K (.ref D7) "told" = some (some (.ref f7)))
    (l7 : K.lookup f7 = some ⟨oc7, od7, .func (PySem.W.fnOf "told" "Plain.told" (defArgs s_Plain_told) (defBody s_Plain_told) (defScope s_Plain_told) .none kV7 dc7 pm7 an7 cd7 ct7), sl7⟩) (c7 : PySem.W.codeIn K cd7 "Plain.told" = true) (k7 : PySem.W.keepIn K (.ref f7) = true)
    {f8 : Addr} {od8 an8 : Option Addr} {sl8 : Array (Option Value)} {oc8 kV8 dc8 pm8 cd8 ct8 : Value}
    {D8 : Addr} (y8 : PySem.W.nsIn K mainGlobals "Plain" = some (some (.ref D8))) (a8 : PySem.W.findIn K (.ref D8) "needs" = some (some (.ref f8)))
    (l8 : K.lookup f8 = some ⟨oc8, od8, .func (PySem.W.fnOf "needs" "Plain.needs" (defArgs s_Plain_needs) (defBody s_Plain_needs) (defScope s_Plain_needs) .none kV8 dc8 pm8 an8 cd8 ct8), sl8⟩) (c8 : PySem.W.codeIn K cd8 "Plain.needs" = true) (k8 : PySem.W.keepIn K (.ref f8) = true)
    {f9 : Addr} {od9 an9 : Option Addr} {sl9 : Array (Option Value)} {oc9 kV9 dc9 pm9 cd9 ct9 : Value}
    {D9 : Addr} (y9 : PySem.W.nsIn K mainGlobals "Plain" = some (some (.ref D9))) (a9 : PySem.W.findIn K (.ref D9) "value" = some (some (.ref f9)))
    (l9 : K.lookup f9 = some ⟨oc9, od9, .func (PySem.W.fnOf "value" "Plain.value" (defArgs s_Plain_value) (defBody s_Plain_value) (defScope s_Plain_value) .none kV9 dc9 pm9 an9 cd9 ct9), sl9⟩) (c9 : PySem.W.codeIn K cd9 "Plain.value" = true) (k9 : PySem.W.keepIn K (.ref f9) = true)
    {f10 : Addr} {od10 an10 : Option Addr} {sl10 : Array (Option Value)} {oc10 kV10 dc10 pm10 cd10 ct10 : Value}
    {D10 : Addr} (y10 : PySem.W.nsIn K mainGlobals "Moved" = some (some (.ref D10))) (a10 : PySem.W.findIn K (.ref D10) "__init__" = some (some (.ref f10)))
    (l10 : K.lookup f10 = some ⟨oc10, od10, .func (PySem.W.fnOf "__init__" "Moved.__init__" (defArgs s_Moved_init) (defBody s_Moved_init) (defScope s_Moved_init) .none kV10 dc10 pm10 an10 cd10 ct10), sl10⟩) (c10 : PySem.W.codeIn K cd10 "Moved.__init__" = true) (k10 : PySem.W.keepIn K (.ref f10) = true)
    {f11 : Addr} {od11 an11 : Option Addr} {sl11 : Array (Option Value)} {oc11 kV11 dc11 pm11 cd11 ct11 : Value}
    {D11 : Addr} (y11 : PySem.W.nsIn K mainGlobals "Moved" = some (some (.ref D11))) (a11 : PySem.W.findIn K (.ref D11) "__str__" = some (some (.ref f11)))
    (l11 : K.lookup f11 = some ⟨oc11, od11, .func (PySem.W.fnOf "__str__" "Moved.__str__" (defArgs s_Moved_str) (defBody s_Moved_str) (defScope s_Moved_str) .none kV11 dc11 pm11 an11 cd11 ct11), sl11⟩) (c11 : PySem.W.codeIn K cd11 "Moved.__str__" = true) (k11 : PySem.W.keepIn K (.ref f11) = true)
    {f12 : Addr} {od12 an12 : Option Addr} {sl12 : Array (Option Value)} {oc12 kV12 dc12 pm12 cd12 ct12 : Value}
    {D12 : Addr} (y12 : PySem.W.nsIn K mainGlobals "Moved" = some (some (.ref D12))) (a12 : PySem.W.findIn K (.ref D12) "told" = some (some (.ref f12)))
    (l12 : K.lookup f12 = some ⟨oc12, od12, .func (PySem.W.fnOf "told" "Moved.told" (defArgs s_Moved_told) (defBody s_Moved_told) (defScope s_Moved_told) .none kV12 dc12 pm12 an12 cd12 ct12), sl12⟩) (c12 : PySem.W.codeIn K cd12 "Moved.told" = true) (k12 : PySem.W.keepIn K (.ref f12) = true)
    {f13 : Addr} {od13 an13 : Option Addr} {sl13 : Array (Option Value)} {oc13 kV13 dc13 pm13 cd13 ct13 : Value}
    {D13 : Addr} (y13 : PySem.W.nsIn K mainGlobals "Moved" = some (some (.ref D13))) (a13 : PySem.W.findIn K (.ref D13) "needs" = some (some (.ref f13)))
    (l13 : K.lookup f13 = some ⟨oc13, od13, .func (PySem.W.fnOf "needs" "Moved.needs" (defArgs s_Moved_needs) (defBody s_Moved_needs) (defScope s_Moved_needs) .none kV13 dc13 pm13 an13 cd13 ct13), sl13⟩) (c13 : PySem.W.codeIn K cd13 "Moved.needs" = true) (k13 : PySem.W.keepIn K (.ref f13) = true)
    {f14 : Addr} {od14 an14 : Option Addr} {sl14 : Array (Option Value)} {oc14 kV14 dc14 pm14 cd14 ct14 : Value}
    {D14 : Addr} (y14 : PySem.W.nsIn K mainGlobals "Moved" = some (some (.ref D14))) (a14 : PySem.W.findIn K (.ref D14) "value" = some (some (.ref f14)))
    (l14 : K.lookup f14 = some ⟨oc14, od14, .func (PySem.W.fnOf "value" "Moved.value" (defArgs s_Moved_value) (defBody s_Moved_value) (defScope s_Moved_value) .none kV14 dc14 pm14 an14 cd14 ct14), sl14⟩) (c14 : PySem.W.codeIn K cd14 "Moved.value" = true) (k14 : PySem.W.keepIn K (.ref f14) = true)
    {f15 : Addr} {od15 an15 : Option Addr} {sl15 : Array (Option Value)} {oc15 kV15 dc15 pm15 cd15 ct15 : Value}
    {D15 : Addr} (y15 : PySem.W.nsIn K mainGlobals "Mixed" = some (some (.ref D15))) (a15 : PySem.W.findIn K (.ref D15) "__init__" = some (some (.ref f15)))
    (l15 : K.lookup f15 = some ⟨oc15, od15, .func (PySem.W.fnOf "__init__" "Mixed.__init__" (defArgs s_Mixed_init) (defBody s_Mixed_init) (defScope s_Mixed_init) .none kV15 dc15 pm15 an15 cd15 ct15), sl15⟩) (c15 : PySem.W.codeIn K cd15 "Mixed.__init__" = true) (k15 : PySem.W.keepIn K (.ref f15) = true)
    {f16 : Addr} {od16 an16 : Option Addr} {sl16 : Array (Option Value)} {oc16 kV16 dc16 pm16 cd16 ct16 : Value}
    {D16 : Addr} (y16 : PySem.W.nsIn K mainGlobals "Mixed" = some (some (.ref D16))) (a16 : PySem.W.findIn K (.ref D16) "__str__" = some (some (.ref f16)))
    (l16 : K.lookup f16 = some ⟨oc16, od16, .func (PySem.W.fnOf "__str__" "Mixed.__str__" (defArgs s_Mixed_str) (defBody s_Mixed_str) (defScope s_Mixed_str) .none kV16 dc16 pm16 an16 cd16 ct16), sl16⟩) (c16 : PySem.W.codeIn K cd16 "Mixed.__str__" = true) (k16 : PySem.W.keepIn K (.ref f16) = true)
    {f17 : Addr} {od17 an17 : Option Addr} {sl17 : Array (Option Value)} {oc17 kV17 dc17 pm17 cd17 ct17 : Value}
    {D17 : Addr} (y17 : PySem.W.nsIn K mainGlobals "Mixed" = some (some (.ref D17))) (a17 : PySem.W.findIn K (.ref D17) "told" = some (some (.ref f17)))
    (l17 : K.lookup f17 = some ⟨oc17, od17, .func (PySem.W.fnOf "told" "Mixed.told" (defArgs s_Mixed_told) (defBody s_Mixed_told) (defScope s_Mixed_told) .none kV17 dc17 pm17 an17 cd17 ct17), sl17⟩) (c17 : PySem.W.codeIn K cd17 "Mixed.told" = true) (k17 : PySem.W.keepIn K (.ref f17) = true)
    {f18 : Addr} {od18 an18 : Option Addr} {sl18 : Array (Option Value)} {oc18 kV18 dc18 pm18 cd18 ct18 : Value}
    {D18 : Addr} (y18 : PySem.W.nsIn K mainGlobals "Mixed" = some (some (.ref D18))) (a18 : PySem.W.findIn K (.ref D18) "needs" = some (some (.ref f18)))
    (l18 : K.lookup f18 = some ⟨oc18, od18, .func (PySem.W.fnOf "needs" "Mixed.needs" (defArgs s_Mixed_needs) (defBody s_Mixed_needs) (defScope s_Mixed_needs) .none kV18 dc18 pm18 an18 cd18 ct18), sl18⟩) (c18 : PySem.W.codeIn K cd18 "Mixed.needs" = true) (k18 : PySem.W.keepIn K (.ref f18) = true)
    {f19 : Addr} {od19 an19 : Option Addr} {sl19 : Array (Option Value)} {oc19 kV19 dc19 pm19 cd19 ct19 : Value}
    {D19 : Addr} (y19 : PySem.W.nsIn K mainGlobals "Mixed" = some (some (.ref D19))) (a19 : PySem.W.findIn K (.ref D19) "value" = some (some (.ref f19)))
    (l19 : K.lookup f19 = some ⟨oc19, od19, .func (PySem.W.fnOf "value" "Mixed.value" (defArgs s_Mixed_value) (defBody s_Mixed_value) (defScope s_Mixed_value) .none kV19 dc19 pm19 an19 cd19 ct19), sl19⟩) (c19 : PySem.W.codeIn K cd19 "Mixed.value" = true) (k19 : PySem.W.keepIn K (.ref f19) = true)
    {f20 : Addr} {od20 an20 : Option Addr} {sl20 : Array (Option Value)} {oc20 kV20 dc20 pm20 cd20 ct20 : Value}
    (a20 : PySem.W.nsIn K mainGlobals "is_value" = some (some (.ref f20)))
    (l20 : K.lookup f20 = some ⟨oc20, od20, .func (PySem.W.fnOf "is_value" "is_value" (defArgs s_is_value) (defBody s_is_value) (defScope s_is_value) .none kV20 dc20 pm20 an20 cd20 ct20), sl20⟩) (c20 : PySem.W.codeIn K cd20 "is_value" = true) (k20 : PySem.W.keepIn K (.ref f20) = true)
    {f21 : Addr} {od21 an21 : Option Addr} {sl21 : Array (Option Value)} {oc21 kV21 dc21 pm21 cd21 ct21 : Value}
    (a21 : PySem.W.nsIn K mainGlobals "is_back" = some (some (.ref f21)))
    (l21 : K.lookup f21 = some ⟨oc21, od21, .func (PySem.W.fnOf "is_back" "is_back" (defArgs s_is_back) (defBody s_is_back) (defScope s_is_back) .none kV21 dc21 pm21 an21 cd21 ct21), sl21⟩) (c21 : PySem.W.codeIn K cd21 "is_back" = true) (k21 : PySem.W.keepIn K (.ref f21) = true)
    {f22 : Addr} {od22 an22 : Option Addr} {sl22 : Array (Option Value)} {oc22 kV22 dc22 pm22 cd22 ct22 : Value}
    (a22 : PySem.W.nsIn K mainGlobals "is_cell" = some (some (.ref f22)))
    (l22 : K.lookup f22 = some ⟨oc22, od22, .func (PySem.W.fnOf "is_cell" "is_cell" (defArgs s_is_cell) (defBody s_is_cell) (defScope s_is_cell) .none kV22 dc22 pm22 an22 cd22 ct22), sl22⟩) (c22 : PySem.W.codeIn K cd22 "is_cell" = true) (k22 : PySem.W.keepIn K (.ref f22) = true)
    {f23 : Addr} {od23 an23 : Option Addr} {sl23 : Array (Option Value)} {oc23 kV23 dc23 pm23 cd23 ct23 : Value}
    (a23 : PySem.W.nsIn K mainGlobals "is_rule" = some (some (.ref f23)))
    (l23 : K.lookup f23 = some ⟨oc23, od23, .func (PySem.W.fnOf "is_rule" "is_rule" (defArgs s_is_rule) (defBody s_is_rule) (defScope s_is_rule) .none kV23 dc23 pm23 an23 cd23 ct23), sl23⟩) (c23 : PySem.W.codeIn K cd23 "is_rule" = true) (k23 : PySem.W.keepIn K (.ref f23) = true)
    {f24 : Addr} {od24 an24 : Option Addr} {sl24 : Array (Option Value)} {oc24 kV24 dc24 pm24 cd24 ct24 : Value}
    (a24 : PySem.W.nsIn K mainGlobals "rule_of" = some (some (.ref f24)))
    (l24 : K.lookup f24 = some ⟨oc24, od24, .func (PySem.W.fnOf "rule_of" "rule_of" (defArgs s_rule_of) (defBody s_rule_of) (defScope s_rule_of) .none kV24 dc24 pm24 an24 cd24 ct24), sl24⟩) (c24 : PySem.W.codeIn K cd24 "rule_of" = true) (k24 : PySem.W.keepIn K (.ref f24) = true)
    {f25 : Addr} {od25 an25 : Option Addr} {sl25 : Array (Option Value)} {oc25 kV25 dc25 pm25 cd25 ct25 : Value}
    (a25 : PySem.W.nsIn K mainGlobals "_law_cell_at" = some (some (.ref f25)))
    (l25 : K.lookup f25 = some ⟨oc25, od25, .func (PySem.W.fnOf "_law_cell_at" "_law_cell_at" (defArgs s_l_cell_at) (defBody s_l_cell_at) (defScope s_l_cell_at) .none kV25 dc25 pm25 an25 cd25 ct25), sl25⟩) (c25 : PySem.W.codeIn K cd25 "_law_cell_at" = true) (k25 : PySem.W.keepIn K (.ref f25) = true)
    {f26 : Addr} {od26 an26 : Option Addr} {sl26 : Array (Option Value)} {oc26 kV26 dc26 pm26 cd26 ct26 : Value}
    (a26 : PySem.W.nsIn K mainGlobals "_law_well" = some (some (.ref f26)))
    (l26 : K.lookup f26 = some ⟨oc26, od26, .func (PySem.W.fnOf "_law_well" "_law_well" (defArgs s_l_well) (defBody s_l_well) (defScope s_l_well) .none kV26 dc26 pm26 an26 cd26 ct26), sl26⟩) (c26 : PySem.W.codeIn K cd26 "_law_well" = true) (k26 : PySem.W.keepIn K (.ref f26) = true)
    {f27 : Addr} {od27 an27 : Option Addr} {sl27 : Array (Option Value)} {oc27 kV27 dc27 pm27 cd27 ct27 : Value}
    (a27 : PySem.W.nsIn K mainGlobals "_law_draw" = some (some (.ref f27)))
    (l27 : K.lookup f27 = some ⟨oc27, od27, .func (PySem.W.fnOf "_law_draw" "_law_draw" (defArgs s_l_draw) (defBody s_l_draw) (defScope s_l_draw) .none kV27 dc27 pm27 an27 cd27 ct27), sl27⟩) (c27 : PySem.W.codeIn K cd27 "_law_draw" = true) (k27 : PySem.W.keepIn K (.ref f27) = true)
    {f28 : Addr} {od28 an28 : Option Addr} {sl28 : Array (Option Value)} {oc28 kV28 dc28 pm28 cd28 ct28 : Value}
    (a28 : PySem.W.nsIn K mainGlobals "_law_whole" = some (some (.ref f28)))
    (l28 : K.lookup f28 = some ⟨oc28, od28, .func (PySem.W.fnOf "_law_whole" "_law_whole" (defArgs s_l_whole) (defBody s_l_whole) (defScope s_l_whole) .none kV28 dc28 pm28 an28 cd28 ct28), sl28⟩) (c28 : PySem.W.codeIn K cd28 "_law_whole" = true) (k28 : PySem.W.keepIn K (.ref f28) = true)
    {f29 : Addr} {od29 an29 : Option Addr} {sl29 : Array (Option Value)} {oc29 kV29 dc29 pm29 cd29 ct29 : Value}
    (a29 : PySem.W.nsIn K mainGlobals "_law_edge" = some (some (.ref f29)))
    (l29 : K.lookup f29 = some ⟨oc29, od29, .func (PySem.W.fnOf "_law_edge" "_law_edge" (defArgs s_l_edge) (defBody s_l_edge) (defScope s_l_edge) .none kV29 dc29 pm29 an29 cd29 ct29), sl29⟩) (c29 : PySem.W.codeIn K cd29 "_law_edge" = true) (k29 : PySem.W.keepIn K (.ref f29) = true)
    {f30 : Addr} {od30 an30 : Option Addr} {sl30 : Array (Option Value)} {oc30 kV30 dc30 pm30 cd30 ct30 : Value}
    (a30 : PySem.W.nsIn K mainGlobals "_law_rule" = some (some (.ref f30)))
    (l30 : K.lookup f30 = some ⟨oc30, od30, .func (PySem.W.fnOf "_law_rule" "_law_rule" (defArgs s_l_rule) (defBody s_l_rule) (defScope s_l_rule) .none kV30 dc30 pm30 an30 cd30 ct30), sl30⟩) (c30 : PySem.W.codeIn K cd30 "_law_rule" = true) (k30 : PySem.W.keepIn K (.ref f30) = true)
    {f31 : Addr} {od31 an31 : Option Addr} {sl31 : Array (Option Value)} {oc31 kV31 dc31 pm31 cd31 ct31 : Value}
    (a31 : PySem.W.nsIn K mainGlobals "_law_needs" = some (some (.ref f31)))
    (l31 : K.lookup f31 = some ⟨oc31, od31, .func (PySem.W.fnOf "_law_needs" "_law_needs" (defArgs s_l_needs) (defBody s_l_needs) (defScope s_l_needs) .none kV31 dc31 pm31 an31 cd31 ct31), sl31⟩) (c31 : PySem.W.codeIn K cd31 "_law_needs" = true) (k31 : PySem.W.keepIn K (.ref f31) = true)
    {f32 : Addr} {od32 an32 : Option Addr} {sl32 : Array (Option Value)} {oc32 kV32 dc32 pm32 cd32 ct32 : Value}
    (a32 : PySem.W.nsIn K mainGlobals "_law_worth" = some (some (.ref f32)))
    (l32 : K.lookup f32 = some ⟨oc32, od32, .func (PySem.W.fnOf "_law_worth" "_law_worth" (defArgs s_l_worth) (defBody s_l_worth) (defScope s_l_worth) .none kV32 dc32 pm32 an32 cd32 ct32), sl32⟩) (c32 : PySem.W.codeIn K cd32 "_law_worth" = true) (k32 : PySem.W.keepIn K (.ref f32) = true)
    {f33 : Addr} {od33 an33 : Option Addr} {sl33 : Array (Option Value)} {oc33 kV33 dc33 pm33 cd33 ct33 : Value}
    (a33 : PySem.W.nsIn K mainGlobals "_law_word" = some (some (.ref f33)))
    (l33 : K.lookup f33 = some ⟨oc33, od33, .func (PySem.W.fnOf "_law_word" "_law_word" (defArgs s_l_word) (defBody s_l_word) (defScope s_l_word) .none kV33 dc33 pm33 an33 cd33 ct33), sl33⟩) (c33 : PySem.W.codeIn K cd33 "_law_word" = true) (k33 : PySem.W.keepIn K (.ref f33) = true)
    {f34 : Addr} {od34 an34 : Option Addr} {sl34 : Array (Option Value)} {oc34 kV34 dc34 pm34 cd34 ct34 : Value}
    (a34 : PySem.W.nsIn K mainGlobals "_law_by_name" = some (some (.ref f34)))
    (l34 : K.lookup f34 = some ⟨oc34, od34, .func (PySem.W.fnOf "_law_by_name" "_law_by_name" (defArgs s_l_by_name) (defBody s_l_by_name) (defScope s_l_by_name) .none kV34 dc34 pm34 an34 cd34 ct34), sl34⟩) (c34 : PySem.W.codeIn K cd34 "_law_by_name" = true) (k34 : PySem.W.keepIn K (.ref f34) = true)
    {f35 : Addr} {od35 an35 : Option Addr} {sl35 : Array (Option Value)} {oc35 kV35 dc35 pm35 cd35 ct35 : Value}
    (a35 : PySem.W.nsIn K mainGlobals "_law_of_its_class" = some (some (.ref f35)))
    (l35 : K.lookup f35 = some ⟨oc35, od35, .func (PySem.W.fnOf "_law_of_its_class" "_law_of_its_class" (defArgs s_l_of_its_class) (defBody s_l_of_its_class) (defScope s_l_of_its_class) .none kV35 dc35 pm35 an35 cd35 ct35), sl35⟩) (c35 : PySem.W.codeIn K cd35 "_law_of_its_class" = true) (k35 : PySem.W.keepIn K (.ref f35) = true)
    {f36 : Addr} {od36 an36 : Option Addr} {sl36 : Array (Option Value)} {oc36 kV36 dc36 pm36 cd36 ct36 : Value}
    (a36 : PySem.W.nsIn K mainGlobals "_law_numbers" = some (some (.ref f36)))
    (l36 : K.lookup f36 = some ⟨oc36, od36, .func (PySem.W.fnOf "_law_numbers" "_law_numbers" (defArgs s_l_numbers) (defBody s_l_numbers) (defScope s_l_numbers) .none kV36 dc36 pm36 an36 cd36 ct36), sl36⟩) (c36 : PySem.W.codeIn K cd36 "_law_numbers" = true) (k36 : PySem.W.keepIn K (.ref f36) = true)
    {f37 : Addr} {od37 an37 : Option Addr} {sl37 : Array (Option Value)} {oc37 kV37 dc37 pm37 cd37 ct37 : Value}
    (a37 : PySem.W.nsIn K mainGlobals "_law_pairs" = some (some (.ref f37)))
    (l37 : K.lookup f37 = some ⟨oc37, od37, .func (PySem.W.fnOf "_law_pairs" "_law_pairs" (defArgs s_l_pairs) (defBody s_l_pairs) (defScope s_l_pairs) .none kV37 dc37 pm37 an37 cd37 ct37), sl37⟩) (c37 : PySem.W.codeIn K cd37 "_law_pairs" = true) (k37 : PySem.W.keepIn K (.ref f37) = true)
    {f38 : Addr} {od38 an38 : Option Addr} {sl38 : Array (Option Value)} {oc38 kV38 dc38 pm38 cd38 ct38 : Value}
    (a38 : PySem.W.nsIn K mainGlobals "_law_right" = some (some (.ref f38)))
    (l38 : K.lookup f38 = some ⟨oc38, od38, .func (PySem.W.fnOf "_law_right" "_law_right" (defArgs s_l_right) (defBody s_l_right) (defScope s_l_right) .none kV38 dc38 pm38 an38 cd38 ct38), sl38⟩) (c38 : PySem.W.codeIn K cd38 "_law_right" = true) (k38 : PySem.W.keepIn K (.ref f38) = true)
    {f39 : Addr} {od39 an39 : Option Addr} {sl39 : Array (Option Value)} {oc39 kV39 dc39 pm39 cd39 ct39 : Value}
    (a39 : PySem.W.nsIn K mainGlobals "law" = some (some (.ref f39)))
    (l39 : K.lookup f39 = some ⟨oc39, od39, .func (PySem.W.fnOf "law" "law" (defArgs s_law) (defBody s_law) (defScope s_law) .none kV39 dc39 pm39 an39 cd39 ct39), sl39⟩) (c39 : PySem.W.codeIn K cd39 "law" = true) (k39 : PySem.W.keepIn K (.ref f39) = true)
    (z_all : PySem.W.nsIn K mainGlobals "all" = some none)
    (z_bool : PySem.W.nsIn K mainGlobals "bool" = some none)
    (z_int : PySem.W.nsIn K mainGlobals "int" = some none)
    (z_isinstance : PySem.W.nsIn K mainGlobals "isinstance" = some none)
    (z_len : PySem.W.nsIn K mainGlobals "len" = some none)
    (z_list : PySem.W.nsIn K mainGlobals "list" = some none)
    (z_str : PySem.W.nsIn K mainGlobals "str" = some none)
    (z_tuple : PySem.W.nsIn K mainGlobals "tuple" = some none)
    (z_zip : PySem.W.nsIn K mainGlobals "zip" = some none)
    {ct_GREATEST_VALUE : Tok} (g_GREATEST_VALUE : PySem.W.nsIn K mainGlobals "GREATEST_VALUE" = some (some (.int 255 ct_GREATEST_VALUE)))
    {ct_GREATEST_BACK : Tok} (g_GREATEST_BACK : PySem.W.nsIn K mainGlobals "GREATEST_BACK" = some (some (.int 200 ct_GREATEST_BACK)))
    {ct_LAST_CELL : Tok} (g_LAST_CELL : PySem.W.nsIn K mainGlobals "LAST_CELL" = some (some (.int 15 ct_LAST_CELL)))
    {C_ScrollError : Addr} (g_ScrollError : PySem.W.nsIn K mainGlobals "ScrollError" = some (some (.ref C_ScrollError)))
    {C_NoRule : Addr} (g_NoRule : PySem.W.nsIn K mainGlobals "NoRule" = some (some (.ref C_NoRule)))
    (x_NoRule : PySem.W.excIn K C_NoRule [.type "ValueError", .type "Exception", .type "BaseException", .type "object"] "ValueError.__new__" = true) (kc_NoRule : PySem.W.keepIn K (.ref C_NoRule) = true) (bb_NoRule : PySem.W.subIn K (.ref C_NoRule) (.type "BaseException") = some true) (t_NoRule : PySem.W.typeIn K (.ref C_NoRule) = some (.type "type"))
    (xa_NoRule : PySem.W.findIn K (.ref C_NoRule) "__getattribute__" = some (some (.builtin "BaseException.__getattribute__"))) (xb_NoRule : PySem.W.findIn K (.ref C_NoRule) "__getattr__" = some none) (xc_NoRule : PySem.W.hasDictIn K C_NoRule = true) (xd_NoRule : PySem.W.findIn K (.ref C_NoRule) "__class__" = some (some (.builtin "object.__class__")))
    (xe_NoRule : PySem.W.specialIn K (.builtin "object.__class__") "__get__" = some (some (.builtin "getset_descriptor.__get__"))) (xf_NoRule : PySem.W.takesIn K (.builtin "object.__class__") = some true) (xg_NoRule : PySem.W.mroIn K C_NoRule (.type "object") = some true)
    {C_Rule : Addr} (g_Rule : PySem.W.nsIn K mainGlobals "Rule" = some (some (.ref C_Rule)))
    {C_Plain : Addr} (g_Plain : PySem.W.nsIn K mainGlobals "Plain" = some (some (.ref C_Plain)))
    {C_Moved : Addr} (g_Moved : PySem.W.nsIn K mainGlobals "Moved" = some (some (.ref C_Moved)))
    {C_Mixed : Addr} (g_Mixed : PySem.W.nsIn K mainGlobals "Mixed" = some (some (.ref C_Mixed)))
    (p1_Rule : PySem.W.plainGet K C_Rule Str.empty = true) (p2_Rule : PySem.W.hasDictIn K C_Rule = true) (p3_Rule : PySem.W.plainOver K C_Rule = true) (p4_Rule : PySem.W.findIn K (.ref C_Rule) "__setattr__" = some (some (.builtin "object.__setattr__"))) (p5_Rule : PySem.W.makesIn K C_Rule = true) (p6_Rule : PySem.W.keepIn K (.ref C_Rule) = true)
    (na_Rule_worth : PySem.W.findIn K (.ref C_Rule) "worth" = some none)
    (na_Rule_back : PySem.W.findIn K (.ref C_Rule) "back" = some none)
    (na_Rule_cell : PySem.W.findIn K (.ref C_Rule) "cell" = some none)
    (na_Rule_added : PySem.W.findIn K (.ref C_Rule) "added" = some none)
    (na_Rule_other_back : PySem.W.findIn K (.ref C_Rule) "other_back" = some none)
    (na_Rule_other_cell : PySem.W.findIn K (.ref C_Rule) "other_cell" = some none)
    (ma_Rule_told : PySem.W.findIn K (.ref C_Rule) "told" = some (some (.ref f2))) (mb_Rule_told : PySem.W.isFn K (.ref f2) = true)
    (ma_Rule_needs : PySem.W.findIn K (.ref C_Rule) "needs" = some (some (.ref f3))) (mb_Rule_needs : PySem.W.isFn K (.ref f3) = true)
    (ma_Rule_value : PySem.W.findIn K (.ref C_Rule) "value" = some (some (.ref f4))) (mb_Rule_value : PySem.W.isFn K (.ref f4) = true)
    (p1_Plain : PySem.W.plainGet K C_Plain Str.empty = true) (p2_Plain : PySem.W.hasDictIn K C_Plain = true) (p3_Plain : PySem.W.plainOver K C_Plain = true) (p4_Plain : PySem.W.findIn K (.ref C_Plain) "__setattr__" = some (some (.builtin "object.__setattr__"))) (p5_Plain : PySem.W.makesIn K C_Plain = true) (p6_Plain : PySem.W.keepIn K (.ref C_Plain) = true)
    (na_Plain_worth : PySem.W.findIn K (.ref C_Plain) "worth" = some none)
    (na_Plain_back : PySem.W.findIn K (.ref C_Plain) "back" = some none)
    (na_Plain_cell : PySem.W.findIn K (.ref C_Plain) "cell" = some none)
    (na_Plain_added : PySem.W.findIn K (.ref C_Plain) "added" = some none)
    (na_Plain_other_back : PySem.W.findIn K (.ref C_Plain) "other_back" = some none)
    (na_Plain_other_cell : PySem.W.findIn K (.ref C_Plain) "other_cell" = some none)
    (ma_Plain_init : PySem.W.findIn K (.ref C_Plain) "__init__" = some (some (.ref f5))) (mb_Plain_init : PySem.W.isFn K (.ref f5) = true)
    (ma_Plain_str : PySem.W.findIn K (.ref C_Plain) "__str__" = some (some (.ref f6))) (mb_Plain_str : PySem.W.isFn K (.ref f6) = true)
    (ma_Plain_told : PySem.W.findIn K (.ref C_Plain) "told" = some (some (.ref f7))) (mb_Plain_told : PySem.W.isFn K (.ref f7) = true)
    (ma_Plain_needs : PySem.W.findIn K (.ref C_Plain) "needs" = some (some (.ref f8))) (mb_Plain_needs : PySem.W.isFn K (.ref f8) = true)
    (ma_Plain_value : PySem.W.findIn K (.ref C_Plain) "value" = some (some (.ref f9))) (mb_Plain_value : PySem.W.isFn K (.ref f9) = true)
    (p1_Moved : PySem.W.plainGet K C_Moved Str.empty = true) (p2_Moved : PySem.W.hasDictIn K C_Moved = true) (p3_Moved : PySem.W.plainOver K C_Moved = true) (p4_Moved : PySem.W.findIn K (.ref C_Moved) "__setattr__" = some (some (.builtin "object.__setattr__"))) (p5_Moved : PySem.W.makesIn K C_Moved = true) (p6_Moved : PySem.W.keepIn K (.ref C_Moved) = true)
    (na_Moved_worth : PySem.W.findIn K (.ref C_Moved) "worth" = some none)
    (na_Moved_back : PySem.W.findIn K (.ref C_Moved) "back" = some none)
    (na_Moved_cell : PySem.W.findIn K (.ref C_Moved) "cell" = some none)
    (na_Moved_added : PySem.W.findIn K (.ref C_Moved) "added" = some none)
    (na_Moved_other_back : PySem.W.findIn K (.ref C_Moved) "other_back" = some none)
    (na_Moved_other_cell : PySem.W.findIn K (.ref C_Moved) "other_cell" = some none)
    (ma_Moved_init : PySem.W.findIn K (.ref C_Moved) "__init__" = some (some (.ref f10))) (mb_Moved_init : PySem.W.isFn K (.ref f10) = true)
    (ma_Moved_str : PySem.W.findIn K (.ref C_Moved) "__str__" = some (some (.ref f11))) (mb_Moved_str : PySem.W.isFn K (.ref f11) = true)
    (ma_Moved_told : PySem.W.findIn K (.ref C_Moved) "told" = some (some (.ref f12))) (mb_Moved_told : PySem.W.isFn K (.ref f12) = true)
    (ma_Moved_needs : PySem.W.findIn K (.ref C_Moved) "needs" = some (some (.ref f13))) (mb_Moved_needs : PySem.W.isFn K (.ref f13) = true)
    (ma_Moved_value : PySem.W.findIn K (.ref C_Moved) "value" = some (some (.ref f14))) (mb_Moved_value : PySem.W.isFn K (.ref f14) = true)
    (p1_Mixed : PySem.W.plainGet K C_Mixed Str.empty = true) (p2_Mixed : PySem.W.hasDictIn K C_Mixed = true) (p3_Mixed : PySem.W.plainOver K C_Mixed = true) (p4_Mixed : PySem.W.findIn K (.ref C_Mixed) "__setattr__" = some (some (.builtin "object.__setattr__"))) (p5_Mixed : PySem.W.makesIn K C_Mixed = true) (p6_Mixed : PySem.W.keepIn K (.ref C_Mixed) = true)
    (na_Mixed_worth : PySem.W.findIn K (.ref C_Mixed) "worth" = some none)
    (na_Mixed_back : PySem.W.findIn K (.ref C_Mixed) "back" = some none)
    (na_Mixed_cell : PySem.W.findIn K (.ref C_Mixed) "cell" = some none)
    (na_Mixed_added : PySem.W.findIn K (.ref C_Mixed) "added" = some none)
    (na_Mixed_other_back : PySem.W.findIn K (.ref C_Mixed) "other_back" = some none)
    (na_Mixed_other_cell : PySem.W.findIn K (.ref C_Mixed) "other_cell" = some none)
    (ma_Mixed_init : PySem.W.findIn K (.ref C_Mixed) "__init__" = some (some (.ref f15))) (mb_Mixed_init : PySem.W.isFn K (.ref f15) = true)
    (ma_Mixed_str : PySem.W.findIn K (.ref C_Mixed) "__str__" = some (some (.ref f16))) (mb_Mixed_str : PySem.W.isFn K (.ref f16) = true)
    (ma_Mixed_told : PySem.W.findIn K (.ref C_Mixed) "told" = some (some (.ref f17))) (mb_Mixed_told : PySem.W.isFn K (.ref f17) = true)
    (ma_Mixed_needs : PySem.W.findIn K (.ref C_Mixed) "needs" = some (some (.ref f18))) (mb_Mixed_needs : PySem.W.isFn K (.ref f18) = true)
    (ma_Mixed_value : PySem.W.findIn K (.ref C_Mixed) "value" = some (some (.ref f19))) (mb_Mixed_value : PySem.W.isFn K (.ref f19) = true)
    (ki_Rule_Mixed : PySem.W.kitOne K (.ref C_Rule) (.ref C_Mixed) = some false)
    (ki_Plain_Mixed : PySem.W.kitOne K (.ref C_Plain) (.ref C_Mixed) = some false)
    (ki_Moved_Mixed : PySem.W.kitOne K (.ref C_Moved) (.ref C_Mixed) = some false)
    (ki_Mixed_Mixed : PySem.W.kitOne K (.ref C_Mixed) (.ref C_Mixed) = some true)
    (ki_Rule_Rule : PySem.W.kitOne K (.ref C_Rule) (.ref C_Rule) = some true)
    (ki_Plain_Rule : PySem.W.kitOne K (.ref C_Plain) (.ref C_Rule) = some true)
    (ki_Moved_Rule : PySem.W.kitOne K (.ref C_Moved) (.ref C_Rule) = some true)
    (ki_Mixed_Rule : PySem.W.kitOne K (.ref C_Mixed) (.ref C_Rule) = some true)
    (ki_Rule_Plain : PySem.W.kitOne K (.ref C_Rule) (.ref C_Plain) = some false)
    (ki_Plain_Plain : PySem.W.kitOne K (.ref C_Plain) (.ref C_Plain) = some true)
    (ki_Moved_Plain : PySem.W.kitOne K (.ref C_Moved) (.ref C_Plain) = some false)
    (ki_Mixed_Plain : PySem.W.kitOne K (.ref C_Mixed) (.ref C_Plain) = some false)
    (ki_Rule_Moved : PySem.W.kitOne K (.ref C_Rule) (.ref C_Moved) = some false)
    (ki_Plain_Moved : PySem.W.kitOne K (.ref C_Plain) (.ref C_Moved) = some false)
    (ki_Moved_Moved : PySem.W.kitOne K (.ref C_Moved) (.ref C_Moved) = some true)
    (ki_Mixed_Moved : PySem.W.kitOne K (.ref C_Mixed) (.ref C_Moved) = some false)
    (t1_Rule : PySem.W.findIn K (.ref C_Rule) "__class__" = some (some (.builtin "object.__class__"))) (t2_Rule : PySem.W.specialIn K (.builtin "object.__class__") "__get__" = some (some (.builtin "getset_descriptor.__get__"))) (t3_Rule : PySem.W.takesIn K (.builtin "object.__class__") = some true) (t4_Rule : PySem.W.mroIn K C_Rule (.type "object") = some true)
    (t1_Plain : PySem.W.findIn K (.ref C_Plain) "__class__" = some (some (.builtin "object.__class__"))) (t2_Plain : PySem.W.specialIn K (.builtin "object.__class__") "__get__" = some (some (.builtin "getset_descriptor.__get__"))) (t3_Plain : PySem.W.takesIn K (.builtin "object.__class__") = some true) (t4_Plain : PySem.W.mroIn K C_Plain (.type "object") = some true)
    (t1_Moved : PySem.W.findIn K (.ref C_Moved) "__class__" = some (some (.builtin "object.__class__"))) (t2_Moved : PySem.W.specialIn K (.builtin "object.__class__") "__get__" = some (some (.builtin "getset_descriptor.__get__"))) (t3_Moved : PySem.W.takesIn K (.builtin "object.__class__") = some true) (t4_Moved : PySem.W.mroIn K C_Moved (.type "object") = some true)
    (t1_Mixed : PySem.W.findIn K (.ref C_Mixed) "__class__" = some (some (.builtin "object.__class__"))) (t2_Mixed : PySem.W.specialIn K (.builtin "object.__class__") "__get__" = some (some (.builtin "getset_descriptor.__get__"))) (t3_Mixed : PySem.W.takesIn K (.builtin "object.__class__") = some true) (t4_Mixed : PySem.W.mroIn K C_Mixed (.type "object") = some true)
    : ∃ fd : FuncData, (∀ (s : Shared) (v : Value), BindsTo s fd ⟨[v], []⟩ [("_law_script", v)]) ∧ ∀ base : Heap, K.In base → base.Ns mainGlobals mg → FnOk l.prog w K mg base CX0 9 fa fd ["_law_script"] (spLaw K) := by
  have e := hfa.symm.trans (PySem.W.mg_of X G a39)
  cases e
  have F0 := fun_mk (st := s_is_number) l0 c0 k0
  have F1 := fun_mk (st := s_is_whole) l1 c1 k1
  have F2 := fun_mk (st := s_Rule_told) l2 c2 k2
  have F3 := fun_mk (st := s_Rule_needs) l3 c3 k3
  have F4 := fun_mk (st := s_Rule_value) l4 c4 k4
  have F5 := fun_mk (st := s_Plain_init) l5 c5 k5
  have F6 := fun_mk (st := s_Plain_str) l6 c6 k6
  have F7 := fun_mk (st := s_Plain_told) l7 c7 k7
  have F8 := fun_mk (st := s_Plain_needs) l8 c8 k8
  have F9 := fun_mk (st := s_Plain_value) l9 c9 k9
  have F10 := fun_mk (st := s_Moved_init) l10 c10 k10
  have F11 := fun_mk (st := s_Moved_str) l11 c11 k11
  have F12 := fun_mk (st := s_Moved_told) l12 c12 k12
  have F13 := fun_mk (st := s_Moved_needs) l13 c13 k13
  have F14 := fun_mk (st := s_Moved_value) l14 c14 k14
  have F15 := fun_mk (st := s_Mixed_init) l15 c15 k15
  have F16 := fun_mk (st := s_Mixed_str) l16 c16 k16
  have F17 := fun_mk (st := s_Mixed_told) l17 c17 k17
  have F18 := fun_mk (st := s_Mixed_needs) l18 c18 k18
  have F19 := fun_mk (st := s_Mixed_value) l19 c19 k19
  have F20 := fun_mk (st := s_is_value) l20 c20 k20
  have F21 := fun_mk (st := s_is_back) l21 c21 k21
  have F22 := fun_mk (st := s_is_cell) l22 c22 k22
  have F23 := fun_mk (st := s_is_rule) l23 c23 k23
  have F24 := fun_mk (st := s_rule_of) l24 c24 k24
  have F25 := fun_mk (st := s_l_cell_at) l25 c25 k25
  have F26 := fun_mk (st := s_l_well) l26 c26 k26
  have F27 := fun_mk (st := s_l_draw) l27 c27 k27
  have F28 := fun_mk (st := s_l_whole) l28 c28 k28
  have F29 := fun_mk (st := s_l_edge) l29 c29 k29
  have F30 := fun_mk (st := s_l_rule) l30 c30 k30
  have F31 := fun_mk (st := s_l_needs) l31 c31 k31
  have F32 := fun_mk (st := s_l_worth) l32 c32 k32
  have F33 := fun_mk (st := s_l_word) l33 c33 k33
  have F34 := fun_mk (st := s_l_by_name) l34 c34 k34
  have F35 := fun_mk (st := s_l_of_its_class) l35 c35 k35
  have F36 := fun_mk (st := s_l_numbers) l36 c36 k36
  have F37 := fun_mk (st := s_l_pairs) l37 c37 k37
  have F38 := fun_mk (st := s_l_right) l38 c38 k38
  have F39 := fun_mk (st := s_law) l39 c39 k39
  have b0 := F0.binds (ps := ["thing"]) fun _ _ _ _ _ _ us hl => match us, hl with | [_], _ => rfl
  have b1 := F1.binds (ps := ["thing", "low", "high"]) fun _ _ _ _ _ _ us hl => match us, hl with | [_, _, _], _ => rfl
  have b2 := F2.binds (ps := ["self"]) fun _ _ _ _ _ _ us hl => match us, hl with | [_], _ => rfl
  have b3 := F3.binds (ps := ["self"]) fun _ _ _ _ _ _ us hl => match us, hl with | [_], _ => rfl
  have b4 := F4.binds (ps := ["self", "found"]) fun _ _ _ _ _ _ us hl => match us, hl with | [_, _], _ => rfl
  have b5 := F5.binds (ps := ["self", "value"]) fun _ _ _ _ _ _ us hl => match us, hl with | [_, _], _ => rfl
  have b6 := F6.binds (ps := ["self"]) fun _ _ _ _ _ _ us hl => match us, hl with | [_], _ => rfl
  have b7 := F7.binds (ps := ["self"]) fun _ _ _ _ _ _ us hl => match us, hl with | [_], _ => rfl
  have b8 := F8.binds (ps := ["self"]) fun _ _ _ _ _ _ us hl => match us, hl with | [_], _ => rfl
  have b9 := F9.binds (ps := ["self", "found"]) fun _ _ _ _ _ _ us hl => match us, hl with | [_, _], _ => rfl
  have b10 := F10.binds (ps := ["self", "back", "cell", "add"]) fun _ _ _ _ _ _ us hl => match us, hl with | [_, _, _, _], _ => rfl
  have b11 := F11.binds (ps := ["self"]) fun _ _ _ _ _ _ us hl => match us, hl with | [_], _ => rfl
  have b12 := F12.binds (ps := ["self"]) fun _ _ _ _ _ _ us hl => match us, hl with | [_], _ => rfl
  have b13 := F13.binds (ps := ["self"]) fun _ _ _ _ _ _ us hl => match us, hl with | [_], _ => rfl
  have b14 := F14.binds (ps := ["self", "found"]) fun _ _ _ _ _ _ us hl => match us, hl with | [_, _], _ => rfl
  have b15 := F15.binds (ps := ["self", "back", "cell", "other_back", "other_cell"]) fun _ _ _ _ _ _ us hl => match us, hl with | [_, _, _, _, _], _ => rfl
  have b16 := F16.binds (ps := ["self"]) fun _ _ _ _ _ _ us hl => match us, hl with | [_], _ => rfl
  have b17 := F17.binds (ps := ["self"]) fun _ _ _ _ _ _ us hl => match us, hl with | [_], _ => rfl
  have b18 := F18.binds (ps := ["self"]) fun _ _ _ _ _ _ us hl => match us, hl with | [_], _ => rfl
  have b19 := F19.binds (ps := ["self", "found"]) fun _ _ _ _ _ _ us hl => match us, hl with | [_, _], _ => rfl
  have b20 := F20.binds (ps := ["thing"]) fun _ _ _ _ _ _ us hl => match us, hl with | [_], _ => rfl
  have b21 := F21.binds (ps := ["thing"]) fun _ _ _ _ _ _ us hl => match us, hl with | [_], _ => rfl
  have b22 := F22.binds (ps := ["thing"]) fun _ _ _ _ _ _ us hl => match us, hl with | [_], _ => rfl
  have b23 := F23.binds (ps := ["thing"]) fun _ _ _ _ _ _ us hl => match us, hl with | [_], _ => rfl
  have b24 := F24.binds (ps := ["told"]) fun _ _ _ _ _ _ us hl => match us, hl with | [_], _ => rfl
  have b25 := F25.binds (ps := ["_law_script", "_law_k"]) fun _ _ _ _ _ _ us hl => match us, hl with | [_, _], _ => rfl
  have b26 := F26.binds (ps := ["_law_script", "_law_k"]) fun _ _ _ _ _ _ us hl => match us, hl with | [_, _], _ => rfl
  have b27 := F27.binds (ps := ["_law_well_here", "_law_many"]) fun _ _ _ _ _ _ us hl => match us, hl with | [_, _], _ => rfl
  have b28 := F28.binds (ps := ["_law_thing"]) fun _ _ _ _ _ _ us hl => match us, hl with | [_], _ => rfl
  have b29 := F29.binds (ps := ["_law_well_here", "_law_low", "_law_high"]) fun _ _ _ _ _ _ us hl => match us, hl with | [_, _, _], _ => rfl
  have b30 := F30.binds (ps := ["_law_well_here"]) fun _ _ _ _ _ _ us hl => match us, hl with | [_], _ => rfl
  have b31 := F31.binds (ps := ["_law_row"]) fun _ _ _ _ _ _ us hl => match us, hl with | [_], _ => rfl
  have b32 := F32.binds (ps := ["_law_row", "_law_found"]) fun _ _ _ _ _ _ us hl => match us, hl with | [_, _], _ => rfl
  have b33 := F33.binds (ps := ["_law_row"]) fun _ _ _ _ _ _ us hl => match us, hl with | [_], _ => rfl
  have b34 := F34.binds (ps := ["_law_row"]) fun _ _ _ _ _ _ us hl => match us, hl with | [_], _ => rfl
  have b35 := F35.binds (ps := ["_law_rule_here", "_law_row"]) fun _ _ _ _ _ _ us hl => match us, hl with | [_, _], _ => rfl
  have b36 := F36.binds (ps := ["_law_row", "_law_wanted"]) fun _ _ _ _ _ _ us hl => match us, hl with | [_, _], _ => rfl
  have b37 := F37.binds (ps := ["_law_found", "_law_wanted"]) fun _ _ _ _ _ _ us hl => match us, hl with | [_, _], _ => rfl
  have b38 := F38.binds (ps := ["_law_rule_here", "_law_row", "_law_worths"]) fun _ _ _ _ _ _ us hl => match us, hl with | [_, _, _], _ => rfl
  have b39 := F39.binds (ps := ["_law_script"]) fun _ _ _ _ _ _ us hl => match us, hl with | [_], _ => rfl
  have kb_Mixed_init_other_cell_other_back := kbAll (F := F15) (ps := ["self", "back", "cell", "other_back", "other_cell"]) (n := 3) (ks := ["other_cell", "other_back"]) (g := fun us ws => kg_Mixed_init_other_cell_other_back us ws) (fun _ _ _ _ _ _ us ws h1 h2 => match us, ws, h1, h2 with | [_, _, _], [_, _], _, _ => rfl) (fun ru r => by
    cases ru with
    | nil => exact .nil
    | cons u0 ru =>
      cases ru with
      | nil => exact .nil
      | cons u1 ru =>
        cases ru with
        | nil => exact .nil
        | cons u2 ru =>
          cases ru with
          | cons _ _ => exact .nil
          | nil =>
            cases r with
            | nil => exact .nil
            | cons w0 r =>
              cases r with
              | nil => exact .nil
              | cons w1 r =>
                cases r with
                | nil => exact .cons u0 (.cons u1 (.cons u2 (.cons w1 (.cons w0 (.nil)))))
                | cons _ _ => exact .nil)
  have kb_Plain_init_value := kbAll (F := F5) (ps := ["self", "value"]) (n := 1) (ks := ["value"]) (g := fun us ws => kg_Plain_init_value us ws) (fun _ _ _ _ _ _ us ws h1 h2 => match us, ws, h1, h2 with | [_], [_], _, _ => rfl) (fun ru r => by
    cases ru with
    | nil => exact .nil
    | cons u0 ru =>
      cases ru with
      | cons _ _ => exact .nil
      | nil =>
        cases r with
        | nil => exact .nil
        | cons w0 r =>
          cases r with
          | nil => exact .cons u0 (.cons w0 (.nil))
          | cons _ _ => exact .nil)
  have kb_Moved_init_add_back_cell := kbAll (F := F10) (ps := ["self", "back", "cell", "add"]) (n := 1) (ks := ["add", "back", "cell"]) (g := fun us ws => kg_Moved_init_add_back_cell us ws) (fun _ _ _ _ _ _ us ws h1 h2 => match us, ws, h1, h2 with | [_], [_, _, _], _, _ => rfl) (fun ru r => by
    cases ru with
    | nil => exact .nil
    | cons u0 ru =>
      cases ru with
      | cons _ _ => exact .nil
      | nil =>
        cases r with
        | nil => exact .nil
        | cons w0 r =>
          cases r with
          | nil => exact .nil
          | cons w1 r =>
            cases r with
            | nil => exact .nil
            | cons w2 r =>
              cases r with
              | nil => exact .cons u0 (.cons w1 (.cons w2 (.cons w0 (.nil))))
              | cons _ _ => exact .nil)
  have kb_rule_of_told := kbAll (F := F24) (ps := ["told"]) (n := 0) (ks := ["told"]) (g := fun us ws => kg_rule_of_told us ws) (fun _ _ _ _ _ _ us ws h1 h2 => match us, ws, h1, h2 with | [], [_], _, _ => rfl) (fun ru r => by
    cases ru with
    | cons _ _ => exact .nil
    | nil =>
      cases r with
      | nil => exact .nil
      | cons w0 r =>
        cases r with
        | nil => exact .cons w0 (.nil)
        | cons _ _ => exact .nil)
  exact ⟨_, fun s v => .of_eq rfl, fun base _ _ => ok_law { a_is_number := _, d_is_number := _, F_is_number := F0, b_is_number := b0, g_is_number := PySem.W.mg_of X G a0, a_is_whole := _, d_is_whole := _, F_is_whole := F1, b_is_whole := b1, g_is_whole := PySem.W.mg_of X G a1, a_Rule_told := _, d_Rule_told := _, F_Rule_told := F2, b_Rule_told := b2, a_Rule_needs := _, d_Rule_needs := _, F_Rule_needs := F3, b_Rule_needs := b3, a_Rule_value := _, d_Rule_value := _, F_Rule_value := F4, b_Rule_value := b4, a_Plain_init := _, d_Plain_init := _, F_Plain_init := F5, b_Plain_init := b5, a_Plain_str := _, d_Plain_str := _, F_Plain_str := F6, b_Plain_str := b6, a_Plain_told := _, d_Plain_told := _, F_Plain_told := F7, b_Plain_told := b7, a_Plain_needs := _, d_Plain_needs := _, F_Plain_needs := F8, b_Plain_needs := b8, a_Plain_value := _, d_Plain_value := _, F_Plain_value := F9, b_Plain_value := b9, a_Moved_init := _, d_Moved_init := _, F_Moved_init := F10, b_Moved_init := b10, a_Moved_str := _, d_Moved_str := _, F_Moved_str := F11, b_Moved_str := b11, a_Moved_told := _, d_Moved_told := _, F_Moved_told := F12, b_Moved_told := b12, a_Moved_needs := _, d_Moved_needs := _, F_Moved_needs := F13, b_Moved_needs := b13, a_Moved_value := _, d_Moved_value := _, F_Moved_value := F14, b_Moved_value := b14, a_Mixed_init := _, d_Mixed_init := _, F_Mixed_init := F15, b_Mixed_init := b15, a_Mixed_str := _, d_Mixed_str := _, F_Mixed_str := F16, b_Mixed_str := b16, a_Mixed_told := _, d_Mixed_told := _, F_Mixed_told := F17, b_Mixed_told := b17, a_Mixed_needs := _, d_Mixed_needs := _, F_Mixed_needs := F18, b_Mixed_needs := b18, a_Mixed_value := _, d_Mixed_value := _, F_Mixed_value := F19, b_Mixed_value := b19, a_is_value := _, d_is_value := _, F_is_value := F20, b_is_value := b20, g_is_value := PySem.W.mg_of X G a20, a_is_back := _, d_is_back := _, F_is_back := F21, b_is_back := b21, g_is_back := PySem.W.mg_of X G a21, a_is_cell := _, d_is_cell := _, F_is_cell := F22, b_is_cell := b22, g_is_cell := PySem.W.mg_of X G a22, a_is_rule := _, d_is_rule := _, F_is_rule := F23, b_is_rule := b23, g_is_rule := PySem.W.mg_of X G a23, a_rule_of := _, d_rule_of := _, F_rule_of := F24, b_rule_of := b24, g_rule_of := PySem.W.mg_of X G a24, a_l_cell_at := _, d_l_cell_at := _, F_l_cell_at := F25, b_l_cell_at := b25, g_l_cell_at := PySem.W.mg_of X G a25, a_l_well := _, d_l_well := _, F_l_well := F26, b_l_well := b26, g_l_well := PySem.W.mg_of X G a26, a_l_draw := _, d_l_draw := _, F_l_draw := F27, b_l_draw := b27, g_l_draw := PySem.W.mg_of X G a27, a_l_whole := _, d_l_whole := _, F_l_whole := F28, b_l_whole := b28, g_l_whole := PySem.W.mg_of X G a28, a_l_edge := _, d_l_edge := _, F_l_edge := F29, b_l_edge := b29, g_l_edge := PySem.W.mg_of X G a29, a_l_rule := _, d_l_rule := _, F_l_rule := F30, b_l_rule := b30, g_l_rule := PySem.W.mg_of X G a30, a_l_needs := _, d_l_needs := _, F_l_needs := F31, b_l_needs := b31, g_l_needs := PySem.W.mg_of X G a31, a_l_worth := _, d_l_worth := _, F_l_worth := F32, b_l_worth := b32, g_l_worth := PySem.W.mg_of X G a32, a_l_word := _, d_l_word := _, F_l_word := F33, b_l_word := b33, g_l_word := PySem.W.mg_of X G a33, a_l_by_name := _, d_l_by_name := _, F_l_by_name := F34, b_l_by_name := b34, g_l_by_name := PySem.W.mg_of X G a34, a_l_of_its_class := _, d_l_of_its_class := _, F_l_of_its_class := F35, b_l_of_its_class := b35, g_l_of_its_class := PySem.W.mg_of X G a35, a_l_numbers := _, d_l_numbers := _, F_l_numbers := F36, b_l_numbers := b36, g_l_numbers := PySem.W.mg_of X G a36, a_l_pairs := _, d_l_pairs := _, F_l_pairs := F37, b_l_pairs := b37, g_l_pairs := PySem.W.mg_of X G a37, a_l_right := _, d_l_right := _, F_l_right := F38, b_l_right := b38, g_l_right := PySem.W.mg_of X G a38, a_law := _, d_law := _, F_law := F39, b_law := b39, g_law := PySem.W.mg_of X G a39, kb_Mixed_init_other_cell_other_back := kb_Mixed_init_other_cell_other_back, kb_Plain_init_value := kb_Plain_init_value, kb_Moved_init_add_back_cell := kb_Moved_init_add_back_cell, kb_rule_of_told := kb_rule_of_told, m_all := PySem.W.mg_none_of X G z_all, m_bool := PySem.W.mg_none_of X G z_bool, m_int := PySem.W.mg_none_of X G z_int, m_isinstance := PySem.W.mg_none_of X G z_isinstance, m_len := PySem.W.mg_none_of X G z_len, m_list := PySem.W.mg_none_of X G z_list, m_str := PySem.W.mg_none_of X G z_str, m_tuple := PySem.W.mg_none_of X G z_tuple, m_zip := PySem.W.mg_none_of X G z_zip, ct_GREATEST_VALUE := ct_GREATEST_VALUE, g_GREATEST_VALUE := PySem.W.mg_of X G g_GREATEST_VALUE, ct_GREATEST_BACK := ct_GREATEST_BACK, g_GREATEST_BACK := PySem.W.mg_of X G g_GREATEST_BACK, ct_LAST_CELL := ct_LAST_CELL, g_LAST_CELL := PySem.W.mg_of X G g_LAST_CELL, c_ScrollError := C_ScrollError, g_ScrollError := PySem.W.mg_of X G g_ScrollError, c_NoRule := C_NoRule, g_NoRule := PySem.W.mg_of X G g_NoRule, x_NoRule := x_NoRule, k_NoRule := kc_NoRule, bb_NoRule := bb_NoRule, t_NoRule := t_NoRule, xc_NoRule := ⟨xa_NoRule, xb_NoRule, bb_NoRule, xc_NoRule, xd_NoRule, xe_NoRule, xf_NoRule, xg_NoRule⟩, c_Rule := C_Rule, g_Rule := PySem.W.mg_of X G g_Rule, c_Plain := C_Plain, g_Plain := PySem.W.mg_of X G g_Plain, c_Moved := C_Moved, g_Moved := PySem.W.mg_of X G g_Moved, c_Mixed := C_Mixed, g_Mixed := PySem.W.mg_of X G g_Mixed, cl_Rule := ⟨p1_Rule, p2_Rule, p3_Rule, p4_Rule⟩, mkk_Rule := p5_Rule, na_Rule_worth := na_Rule_worth, na_Rule_back := na_Rule_back, na_Rule_cell := na_Rule_cell, na_Rule_added := na_Rule_added, na_Rule_other_back := na_Rule_other_back, na_Rule_other_cell := na_Rule_other_cell, mt_Rule_told := ⟨ma_Rule_told, mb_Rule_told, k2⟩, mt_Rule_needs := ⟨ma_Rule_needs, mb_Rule_needs, k3⟩, mt_Rule_value := ⟨ma_Rule_value, mb_Rule_value, k4⟩, cl_Plain := ⟨p1_Plain, p2_Plain, p3_Plain, p4_Plain⟩, mkk_Plain := p5_Plain, na_Plain_worth := na_Plain_worth, na_Plain_back := na_Plain_back, na_Plain_cell := na_Plain_cell, na_Plain_added := na_Plain_added, na_Plain_other_back := na_Plain_other_back, na_Plain_other_cell := na_Plain_other_cell, mk_Plain := ⟨p5_Plain, ma_Plain_init, mb_Plain_init, p6_Plain⟩, mt_Plain_str := ⟨ma_Plain_str, mb_Plain_str, k6⟩, mt_Plain_told := ⟨ma_Plain_told, mb_Plain_told, k7⟩, mt_Plain_needs := ⟨ma_Plain_needs, mb_Plain_needs, k8⟩, mt_Plain_value := ⟨ma_Plain_value, mb_Plain_value, k9⟩, cl_Moved := ⟨p1_Moved, p2_Moved, p3_Moved, p4_Moved⟩, mkk_Moved := p5_Moved, na_Moved_worth := na_Moved_worth, na_Moved_back := na_Moved_back, na_Moved_cell := na_Moved_cell, na_Moved_added := na_Moved_added, na_Moved_other_back := na_Moved_other_back, na_Moved_other_cell := na_Moved_other_cell, mk_Moved := ⟨p5_Moved, ma_Moved_init, mb_Moved_init, p6_Moved⟩, mt_Moved_str := ⟨ma_Moved_str, mb_Moved_str, k11⟩, mt_Moved_told := ⟨ma_Moved_told, mb_Moved_told, k12⟩, mt_Moved_needs := ⟨ma_Moved_needs, mb_Moved_needs, k13⟩, mt_Moved_value := ⟨ma_Moved_value, mb_Moved_value, k14⟩, cl_Mixed := ⟨p1_Mixed, p2_Mixed, p3_Mixed, p4_Mixed⟩, mkk_Mixed := p5_Mixed, na_Mixed_worth := na_Mixed_worth, na_Mixed_back := na_Mixed_back, na_Mixed_cell := na_Mixed_cell, na_Mixed_added := na_Mixed_added, na_Mixed_other_back := na_Mixed_other_back, na_Mixed_other_cell := na_Mixed_other_cell, mk_Mixed := ⟨p5_Mixed, ma_Mixed_init, mb_Mixed_init, p6_Mixed⟩, mt_Mixed_str := ⟨ma_Mixed_str, mb_Mixed_str, k16⟩, mt_Mixed_told := ⟨ma_Mixed_told, mb_Mixed_told, k17⟩, mt_Mixed_needs := ⟨ma_Mixed_needs, mb_Mixed_needs, k18⟩, mt_Mixed_value := ⟨ma_Mixed_value, mb_Mixed_value, k19⟩, ki_Rule_Mixed := ki_Rule_Mixed, ki_Plain_Mixed := ki_Plain_Mixed, ki_Moved_Mixed := ki_Moved_Mixed, ki_Mixed_Mixed := ki_Mixed_Mixed, ki_Rule_Rule := ki_Rule_Rule, ki_Plain_Rule := ki_Plain_Rule, ki_Moved_Rule := ki_Moved_Rule, ki_Mixed_Rule := ki_Mixed_Rule, ki_Rule_Plain := ki_Rule_Plain, ki_Plain_Plain := ki_Plain_Plain, ki_Moved_Plain := ki_Moved_Plain, ki_Mixed_Plain := ki_Mixed_Plain, ki_Rule_Moved := ki_Rule_Moved, ki_Plain_Moved := ki_Plain_Moved, ki_Moved_Moved := ki_Moved_Moved, ki_Mixed_Moved := ki_Mixed_Moved, ty_Rule := fun e => .base (.ins e ⟨p1_Rule, p2_Rule, p3_Rule, p4_Rule⟩ t1_Rule t2_Rule t3_Rule t4_Rule), ty_Plain := fun e => .base (.ins e ⟨p1_Plain, p2_Plain, p3_Plain, p4_Plain⟩ t1_Plain t2_Plain t3_Plain t4_Plain), ty_Moved := fun e => .base (.ins e ⟨p1_Moved, p2_Moved, p3_Moved, p4_Moved⟩ t1_Moved t2_Moved t3_Moved t4_Moved), ty_Mixed := fun e => .base (.ins e ⟨p1_Mixed, p2_Mixed, p3_Mixed, p4_Mixed⟩ t1_Mixed t2_Mixed t3_Mixed t4_Mixed) }⟩
end LK
open PySem PySem.W PyProof.Rows
set_option maxHeartbeats 0 in
theorem PySem.Challenge.cw_lanescroll_k04_rules_told_and_valued_holds : PySem.Challenge.rw_lanescroll_k04_rules_told_and_valued.Holds := by
  w_on; o_law; k_head; (case hw => w_witness2)
  k_fill
  refine L2.walk_of (l := PySem.Challenge.rw_lanescroll_k04_rules_told_and_valued) (n := 63) (k := 9) (x := "_law_script") (CX := fun _ => L2.CX0) (sp := fun w => LK.spLaw _) rfl (by decide) rfl ⟨rfl, by decide, by decide⟩ (fun w h Y => PySem.W.kIn_of Y) ?F (fun _ _ a ns hl _ hS => ⟨a, ns, rfl, hS, hl, fun _ => rfl⟩) (fun _ _ _ _ _ h => h)
  case F =>
    intro w mg fa h KX G hmg
    refine' LK.all_mk KX G hmg ?a0 ?l0 ?c0 ?k0 ?a1 ?l1 ?c1 ?k1 ?y2 ?a2 ?l2 ?c2 ?k2 ?y3 ?a3 ?l3 ?c3 ?k3 ?y4 ?a4 ?l4 ?c4 ?k4 ?y5 ?a5 ?l5 ?c5 ?k5 ?y6 ?a6 ?l6 ?c6 ?k6 ?y7 ?a7 ?l7 ?c7 ?k7 ?y8 ?a8 ?l8 ?c8 ?k8 ?y9 ?a9 ?l9 ?c9 ?k9 ?y10 ?a10 ?l10 ?c10 ?k10 ?y11 ?a11 ?l11 ?c11 ?k11 ?y12 ?a12 ?l12 ?c12 ?k12 ?y13 ?a13 ?l13 ?c13 ?k13 ?y14 ?a14 ?l14 ?c14 ?k14 ?y15 ?a15 ?l15 ?c15 ?k15 ?y16 ?a16 ?l16 ?c16 ?k16 ?y17 ?a17 ?l17 ?c17 ?k17 ?y18 ?a18 ?l18 ?c18 ?k18 ?y19 ?a19 ?l19 ?c19 ?k19 ?a20 ?l20 ?c20 ?k20 ?a21 ?l21 ?c21 ?k21 ?a22 ?l22 ?c22 ?k22 ?a23 ?l23 ?c23 ?k23 ?a24 ?l24 ?c24 ?k24 ?a25 ?l25 ?c25 ?k25 ?a26 ?l26 ?c26 ?k26 ?a27 ?l27 ?c27 ?k27 ?a28 ?l28 ?c28 ?k28 ?a29 ?l29 ?c29 ?k29 ?a30 ?l30 ?c30 ?k30 ?a31 ?l31 ?c31 ?k31 ?a32 ?l32 ?c32 ?k32 ?a33 ?l33 ?c33 ?k33 ?a34 ?l34 ?c34 ?k34 ?a35 ?l35 ?c35 ?k35 ?a36 ?l36 ?c36 ?k36 ?a37 ?l37 ?c37 ?k37 ?a38 ?l38 ?c38 ?k38 ?a39 ?l39 ?c39 ?k39 ?z_all ?z_bool ?z_int ?z_isinstance ?z_len ?z_list ?z_str ?z_tuple ?z_zip ?g_GREATEST_VALUE ?g_GREATEST_BACK ?g_LAST_CELL ?g_ScrollError ?g_NoRule ?x_NoRule ?kc_NoRule ?bb_NoRule ?t_NoRule ?xa_NoRule ?xb_NoRule ?xc_NoRule ?xd_NoRule ?xe_NoRule ?xf_NoRule ?xg_NoRule ?g_Rule ?g_Plain ?g_Moved ?g_Mixed ?p1_Rule ?p2_Rule ?p3_Rule ?p4_Rule ?p5_Rule ?p6_Rule ?na_Rule_worth ?na_Rule_back ?na_Rule_cell ?na_Rule_added ?na_Rule_other_back ?na_Rule_other_cell ?ma_Rule_told ?mb_Rule_told ?ma_Rule_needs ?mb_Rule_needs ?ma_Rule_value ?mb_Rule_value ?p1_Plain ?p2_Plain ?p3_Plain ?p4_Plain ?p5_Plain ?p6_Plain ?na_Plain_worth ?na_Plain_back ?na_Plain_cell ?na_Plain_added ?na_Plain_other_back ?na_Plain_other_cell ?ma_Plain_init ?mb_Plain_init ?ma_Plain_str ?mb_Plain_str ?ma_Plain_told ?mb_Plain_told ?ma_Plain_needs ?mb_Plain_needs ?ma_Plain_value ?mb_Plain_value ?p1_Moved ?p2_Moved ?p3_Moved ?p4_Moved ?p5_Moved ?p6_Moved ?na_Moved_worth ?na_Moved_back ?na_Moved_cell ?na_Moved_added ?na_Moved_other_back ?na_Moved_other_cell ?ma_Moved_init ?mb_Moved_init ?ma_Moved_str ?mb_Moved_str ?ma_Moved_told ?mb_Moved_told ?ma_Moved_needs ?mb_Moved_needs ?ma_Moved_value ?mb_Moved_value ?p1_Mixed ?p2_Mixed ?p3_Mixed ?p4_Mixed ?p5_Mixed ?p6_Mixed ?na_Mixed_worth ?na_Mixed_back ?na_Mixed_cell ?na_Mixed_added ?na_Mixed_other_back ?na_Mixed_other_cell ?ma_Mixed_init ?mb_Mixed_init ?ma_Mixed_str ?mb_Mixed_str ?ma_Mixed_told ?mb_Mixed_told ?ma_Mixed_needs ?mb_Mixed_needs ?ma_Mixed_value ?mb_Mixed_value ?ki_Rule_Mixed ?ki_Plain_Mixed ?ki_Moved_Mixed ?ki_Mixed_Mixed ?ki_Rule_Rule ?ki_Plain_Rule ?ki_Moved_Rule ?ki_Mixed_Rule ?ki_Rule_Plain ?ki_Plain_Plain ?ki_Moved_Plain ?ki_Mixed_Plain ?ki_Rule_Moved ?ki_Plain_Moved ?ki_Moved_Moved ?ki_Mixed_Moved ?t1_Rule ?t2_Rule ?t3_Rule ?t4_Rule ?t1_Plain ?t2_Plain ?t3_Plain ?t4_Plain ?t1_Moved ?t2_Moved ?t3_Moved ?t4_Moved ?t1_Mixed ?t2_Mixed ?t3_Mixed ?t4_Mixed
    (case a0 => k_is)
    (case l0 => k_is)
    (case c0 => k_is)
    (case k0 => k_is)
    (case a1 => k_is)
    (case l1 => k_is)
    (case c1 => k_is)
    (case k1 => k_is)
    (case y2 => k_is)
    (case a2 => k_is)
    (case l2 => k_is)
    (case c2 => k_is)
    (case k2 => k_is)
    (case y3 => k_is)
    (case a3 => k_is)
    (case l3 => k_is)
    (case c3 => k_is)
    (case k3 => k_is)
    (case y4 => k_is)
    (case a4 => k_is)
    (case l4 => k_is)
    (case c4 => k_is)
    (case k4 => k_is)
    (case y5 => k_is)
    (case a5 => k_is)
    (case l5 => k_is)
    (case c5 => k_is)
    (case k5 => k_is)
    (case y6 => k_is)
    (case a6 => k_is)
    (case l6 => k_is)
    (case c6 => k_is)
    (case k6 => k_is)
    (case y7 => k_is)
    (case a7 => k_is)
    (case l7 => k_is)
    (case c7 => k_is)
    (case k7 => k_is)
    (case y8 => k_is)
    (case a8 => k_is)
    (case l8 => k_is)
    (case c8 => k_is)
    (case k8 => k_is)
    (case y9 => k_is)
    (case a9 => k_is)
    (case l9 => k_is)
    (case c9 => k_is)
    (case k9 => k_is)
    (case y10 => k_is)
    (case a10 => k_is)
    (case l10 => k_is)
    (case c10 => k_is)
    (case k10 => k_is)
    (case y11 => k_is)
    (case a11 => k_is)
    (case l11 => k_is)
    (case c11 => k_is)
    (case k11 => k_is)
    (case y12 => k_is)
    (case a12 => k_is)
    (case l12 => k_is)
    (case c12 => k_is)
    (case k12 => k_is)
    (case y13 => k_is)
    (case a13 => k_is)
    (case l13 => k_is)
    (case c13 => k_is)
    (case k13 => k_is)
    (case y14 => k_is)
    (case a14 => k_is)
    (case l14 => k_is)
    (case c14 => k_is)
    (case k14 => k_is)
    (case y15 => k_is)
    (case a15 => k_is)
    (case l15 => k_is)
    (case c15 => k_is)
    (case k15 => k_is)
    (case y16 => k_is)
    (case a16 => k_is)
    (case l16 => k_is)
    (case c16 => k_is)
    (case k16 => k_is)
    (case y17 => k_is)
    (case a17 => k_is)
    (case l17 => k_is)
    (case c17 => k_is)
    (case k17 => k_is)
    (case y18 => k_is)
    (case a18 => k_is)
    (case l18 => k_is)
    (case c18 => k_is)
    (case k18 => k_is)
    (case y19 => k_is)
    (case a19 => k_is)
    (case l19 => k_is)
    (case c19 => k_is)
    (case k19 => k_is)
    (case a20 => k_is)
    (case l20 => k_is)
    (case c20 => k_is)
    (case k20 => k_is)
    (case a21 => k_is)
    (case l21 => k_is)
    (case c21 => k_is)
    (case k21 => k_is)
    (case a22 => k_is)
    (case l22 => k_is)
    (case c22 => k_is)
    (case k22 => k_is)
    (case a23 => k_is)
    (case l23 => k_is)
    (case c23 => k_is)
    (case k23 => k_is)
    (case a24 => k_is)
    (case l24 => k_is)
    (case c24 => k_is)
    (case k24 => k_is)
    (case a25 => k_is)
    (case l25 => k_is)
    (case c25 => k_is)
    (case k25 => k_is)
    (case a26 => k_is)
    (case l26 => k_is)
    (case c26 => k_is)
    (case k26 => k_is)
    (case a27 => k_is)
    (case l27 => k_is)
    (case c27 => k_is)
    (case k27 => k_is)
    (case a28 => k_is)
    (case l28 => k_is)
    (case c28 => k_is)
    (case k28 => k_is)
    (case a29 => k_is)
    (case l29 => k_is)
    (case c29 => k_is)
    (case k29 => k_is)
    (case a30 => k_is)
    (case l30 => k_is)
    (case c30 => k_is)
    (case k30 => k_is)
    (case a31 => k_is)
    (case l31 => k_is)
    (case c31 => k_is)
    (case k31 => k_is)
    (case a32 => k_is)
    (case l32 => k_is)
    (case c32 => k_is)
    (case k32 => k_is)
    (case a33 => k_is)
    (case l33 => k_is)
    (case c33 => k_is)
    (case k33 => k_is)
    (case a34 => k_is)
    (case l34 => k_is)
    (case c34 => k_is)
    (case k34 => k_is)
    (case a35 => k_is)
    (case l35 => k_is)
    (case c35 => k_is)
    (case k35 => k_is)
    (case a36 => k_is)
    (case l36 => k_is)
    (case c36 => k_is)
    (case k36 => k_is)
    (case a37 => k_is)
    (case l37 => k_is)
    (case c37 => k_is)
    (case k37 => k_is)
    (case a38 => k_is)
    (case l38 => k_is)
    (case c38 => k_is)
    (case k38 => k_is)
    (case a39 => k_is)
    (case l39 => k_is)
    (case c39 => k_is)
    (case k39 => k_is)
    (case z_all => k_is)
    (case z_bool => k_is)
    (case z_int => k_is)
    (case z_isinstance => k_is)
    (case z_len => k_is)
    (case z_list => k_is)
    (case z_str => k_is)
    (case z_tuple => k_is)
    (case z_zip => k_is)
    (case g_GREATEST_VALUE => k_is)
    (case g_GREATEST_BACK => k_is)
    (case g_LAST_CELL => k_is)
    (case g_ScrollError => k_is)
    (case g_NoRule => k_is)
    (case x_NoRule => k_exc)
    (case kc_NoRule => k_is)
    (case bb_NoRule => k_is)
    (case t_NoRule => k_is)
    (case xa_NoRule => k_is)
    (case xb_NoRule => k_is)
    (case xc_NoRule => k_is)
    (case xd_NoRule => k_is)
    (case xe_NoRule => k_is)
    (case xf_NoRule => k_is)
    (case xg_NoRule => k_is)
    (case g_Rule => k_is)
    (case g_Plain => k_is)
    (case g_Moved => k_is)
    (case g_Mixed => k_is)
    (case p1_Rule => k_is)
    (case p2_Rule => k_is)
    (case p3_Rule => k_is)
    (case p4_Rule => k_is)
    (case p5_Rule => k_is)
    (case p6_Rule => k_is)
    (case na_Rule_worth => k_is)
    (case na_Rule_back => k_is)
    (case na_Rule_cell => k_is)
    (case na_Rule_added => k_is)
    (case na_Rule_other_back => k_is)
    (case na_Rule_other_cell => k_is)
    (case ma_Rule_told => k_is)
    (case mb_Rule_told => k_is)
    (case ma_Rule_needs => k_is)
    (case mb_Rule_needs => k_is)
    (case ma_Rule_value => k_is)
    (case mb_Rule_value => k_is)
    (case p1_Plain => k_is)
    (case p2_Plain => k_is)
    (case p3_Plain => k_is)
    (case p4_Plain => k_is)
    (case p5_Plain => k_is)
    (case p6_Plain => k_is)
    (case na_Plain_worth => k_is)
    (case na_Plain_back => k_is)
    (case na_Plain_cell => k_is)
    (case na_Plain_added => k_is)
    (case na_Plain_other_back => k_is)
    (case na_Plain_other_cell => k_is)
    (case ma_Plain_init => k_is)
    (case mb_Plain_init => k_is)
    (case ma_Plain_str => k_is)
    (case mb_Plain_str => k_is)
    (case ma_Plain_told => k_is)
    (case mb_Plain_told => k_is)
    (case ma_Plain_needs => k_is)
    (case mb_Plain_needs => k_is)
    (case ma_Plain_value => k_is)
    (case mb_Plain_value => k_is)
    (case p1_Moved => k_is)
    (case p2_Moved => k_is)
    (case p3_Moved => k_is)
    (case p4_Moved => k_is)
    (case p5_Moved => k_is)
    (case p6_Moved => k_is)
    (case na_Moved_worth => k_is)
    (case na_Moved_back => k_is)
    (case na_Moved_cell => k_is)
    (case na_Moved_added => k_is)
    (case na_Moved_other_back => k_is)
    (case na_Moved_other_cell => k_is)
    (case ma_Moved_init => k_is)
    (case mb_Moved_init => k_is)
    (case ma_Moved_str => k_is)
    (case mb_Moved_str => k_is)
    (case ma_Moved_told => k_is)
    (case mb_Moved_told => k_is)
    (case ma_Moved_needs => k_is)
    (case mb_Moved_needs => k_is)
    (case ma_Moved_value => k_is)
    (case mb_Moved_value => k_is)
    (case p1_Mixed => k_is)
    (case p2_Mixed => k_is)
    (case p3_Mixed => k_is)
    (case p4_Mixed => k_is)
    (case p5_Mixed => k_is)
    (case p6_Mixed => k_is)
    (case na_Mixed_worth => k_is)
    (case na_Mixed_back => k_is)
    (case na_Mixed_cell => k_is)
    (case na_Mixed_added => k_is)
    (case na_Mixed_other_back => k_is)
    (case na_Mixed_other_cell => k_is)
    (case ma_Mixed_init => k_is)
    (case mb_Mixed_init => k_is)
    (case ma_Mixed_str => k_is)
    (case mb_Mixed_str => k_is)
    (case ma_Mixed_told => k_is)
    (case mb_Mixed_told => k_is)
    (case ma_Mixed_needs => k_is)
    (case mb_Mixed_needs => k_is)
    (case ma_Mixed_value => k_is)
    (case mb_Mixed_value => k_is)
    (case ki_Rule_Mixed => first | rfl | k_is | k_exc)
    (case ki_Plain_Mixed => first | rfl | k_is | k_exc)
    (case ki_Moved_Mixed => first | rfl | k_is | k_exc)
    (case ki_Mixed_Mixed => first | rfl | k_is | k_exc)
    (case ki_Rule_Rule => first | rfl | k_is | k_exc)
    (case ki_Plain_Rule => first | rfl | k_is | k_exc)
    (case ki_Moved_Rule => first | rfl | k_is | k_exc)
    (case ki_Mixed_Rule => first | rfl | k_is | k_exc)
    (case ki_Rule_Plain => first | rfl | k_is | k_exc)
    (case ki_Plain_Plain => first | rfl | k_is | k_exc)
    (case ki_Moved_Plain => first | rfl | k_is | k_exc)
    (case ki_Mixed_Plain => first | rfl | k_is | k_exc)
    (case ki_Rule_Moved => first | rfl | k_is | k_exc)
    (case ki_Plain_Moved => first | rfl | k_is | k_exc)
    (case ki_Moved_Moved => first | rfl | k_is | k_exc)
    (case ki_Mixed_Moved => first | rfl | k_is | k_exc)
    (case t1_Rule => k_is)
    (case t2_Rule => k_is)
    (case t3_Rule => k_is)
    (case t4_Rule => k_is)
    (case t1_Plain => k_is)
    (case t2_Plain => k_is)
    (case t3_Plain => k_is)
    (case t4_Plain => k_is)
    (case t1_Moved => k_is)
    (case t2_Moved => k_is)
    (case t3_Moved => k_is)
    (case t4_Moved => k_is)
    (case t1_Mixed => k_is)
    (case t2_Mixed => k_is)
    (case t3_Mixed => k_is)
    (case t4_Mixed => k_is)
